"""A slow count straight from the document's words, and a way to write calls by name."""

import functools

from roundpowers.units import answers

BIGGEST = 4294967295

NUMBERS = {"round": 0, "units": 1, "pow": 2, "order": 3, "exponent": 4, "generators": 5, "log": 6, "roots": 7,
           "factors": 8, "together": 9, "parts": 10, "orders": 11, "product": 12, "inverse": 13}

# 1, 2, 4; primes; powers of odd primes; twice such ones; powers of 2 from 8 on; others; 300.
KINDS = (1, 2, 4, 3, 7, 293, 9, 25, 27, 243, 289, 6, 10, 18, 50, 250, 8, 16, 32, 256, 12, 15, 24, 105, 210, 240, 299,
         300)


def written(calls):
    """The one list for calls like ("pow", 3, 4) or ("together", 2, 3, 1, 5)."""
    row = []
    for call in calls:
        row.append(NUMBERS[call[0]])
        if call[0] == "together":
            row.append(len(call) - 1)
        row.extend(call[1:])
    return row


def taken_apart(row):
    """The answers, a list for each call."""
    apart = []
    place = 0
    while place < len(row):
        end = place + 1 + row[place]
        if row[place] < 1 or end > len(row):
            raise ValueError("a count does not fit the numbers behind it")
        apart.append(row[place + 1:end])
        place = end
    return apart


def ask(*calls):
    return taken_apart(answers(written(calls)))


def ask_round(n, *calls):
    """What the calls answer behind a round with n."""
    return ask(("round", n), *calls)[1:]


@functools.cache
def slow_units(n):
    divisors = [d for d in range(2, n + 1) if n % d == 0]
    return [a for a in range(n) if all(a % d != 0 for d in divisors)]


def slow_power(a, k, n):
    result = 1
    for _ in range(k):
        result = result * a % n
    return result % n


def slow_powers(a, n):
    """Powers 0, 1, .. of a, up to where no new one can come."""
    powers = [1 % n]
    for _ in range(n):
        powers.append(powers[-1] * a % n)
    return powers


def slow_order(a, n):
    return slow_powers(a, n)[1:].index(1 % n) + 1


@functools.cache
def slow_exponent(n):
    units = slow_units(n)
    powers = list(units)
    k = 1
    while any(p != 1 % n for p in powers):
        powers = [p * a % n for p, a in zip(powers, units)]
        k += 1
    return k


@functools.cache
def slow_generators(n):
    units = slow_units(n)
    return [g for g in units if set(slow_powers(g, n)) == set(units)]


def slow_log(g, a, n):
    units = slow_units(n)
    if g % n not in units or a % n not in units:
        return -6
    powers = slow_powers(g, n)
    return powers.index(a % n) if a % n in powers else -3


def slow_roots(k, a, n):
    return [b for b in range(n) if pow(b, k, n) == a % n]


def slow_primes(n):
    """The primes that divide n, rising."""
    return [p for p in range(2, n + 1) if n % p == 0 and all(p % d != 0 for d in range(2, p))]


def slow_factors(n):
    row = []
    for p in slow_primes(n):
        row += [p, max(often for often in range(1, 10) if n % p ** often == 0)]
    return [len(row) // 2] + row


def slow_together(*pairs):
    divisors = pairs[1::2]
    if len(pairs) % 2 == 1 or len(divisors) > 3 or not all(1 <= m <= 30 for m in divisors):
        return [-1]
    multiple = 1
    while any(multiple % m != 0 for m in divisors):
        multiple += 1
    for number in range(multiple):
        if all(number % m == a % m for a, m in zip(pairs[::2], divisors)):
            return [number, multiple]
    return [-3]


def slow_products(rows, n):
    """Every product of one number of each row."""
    products = [1 % n]
    for row in rows:
        products = [product * a % n for product in products for a in row]
    return products


@functools.cache
def slow_part_units(n):
    """Units whose orders are the parts, the last part's first.

    Each is one with the greatest order such that no two products of powers are the same.
    """
    units = slow_units(n)
    by_order = sorted(units, key=lambda a: (-slow_order(a, n), a))
    taken = []
    rows = []
    while len(slow_products(rows, n)) < len(units):
        for a in by_order:
            row = slow_powers(a, n)[:slow_order(a, n)]
            products = slow_products(rows + [row], n)
            if len(row) > 1 and len(set(products)) == len(products):
                break
        else:
            raise ValueError("there is no further unit")
        taken.append(a)
        rows.append(row)
    return taken


def slow_parts(n):
    return [slow_order(a, n) for a in reversed(slow_part_units(n))]


@functools.cache
def slow_orders(n):
    orders = [slow_order(a, n) for a in slow_units(n)]
    row = []
    for order in sorted(set(orders)):
        row += [order, orders.count(order)]
    return [len(row) // 2] + row


def slow_product(n):
    product = 1
    for a in slow_units(n):
        product *= a
    return product % n


def slow_inverse(a, n):
    inverses = [b for b in range(n) if a * b % n == 1 % n]
    return inverses[0] if inverses else -6


def slow_answer(call, n):
    """What a call, not a round, answers while n is as told."""
    name = call[0]
    given = call[1:]
    if name in ("units", "generators", "parts"):
        row = {"units": slow_units, "generators": slow_generators, "parts": slow_parts}[name](n)
        return [len(row)] + row
    if name in ("factors", "orders"):
        return {"factors": slow_factors, "orders": slow_orders}[name](n)
    if name in ("exponent", "product"):
        return [{"exponent": slow_exponent, "product": slow_product}[name](n)]
    if name == "pow":
        return [pow(given[0], given[1], n)]
    if name == "order":
        return [slow_order(given[0], n) if given[0] % n in slow_units(n) else -6]
    if name == "log":
        return [slow_log(given[0], given[1], n)]
    if name == "inverse":
        return [slow_inverse(given[0], n)]
    if name == "together":
        return slow_together(*given)
    roots = slow_roots(given[0], given[1], n)
    return [-1] if given[0] == 0 else [len(roots)] + roots


def slow_answers(calls):
    """What the calls answer, a list for each."""
    n = 2
    rows = []
    for call in calls:
        if call[0] != "round":
            rows.append(slow_answer(call, n))
        elif 1 <= call[1] <= 300:
            n = call[1]
            rows.append([len(slow_units(n))])
        else:
            rows.append([-1])
    return rows


def has_generator(n):
    """1, 2, 4, a power of an odd prime, or twice such a one."""
    if n in (1, 2, 4):
        return True
    if n % 2 == 0:
        n //= 2
    primes = slow_primes(n)
    return len(primes) == 1 and primes[0] != 2
