"""A slow count straight from the document's words, and a way to write calls by name."""

from roundpowers.units import answers

BIGGEST = 4294967295

NUMBERS = {"round": 0, "units": 1, "pow": 2, "order": 3, "exponent": 4, "generators": 5, "log": 6}


def written(calls):
    """The one list for calls like ("pow", 3, 4)."""
    row = []
    for call in calls:
        row.append(NUMBERS[call[0]])
        row.extend(call[1:])
    return row


def taken_apart(row):
    """The answers, a list for each call."""
    apart = []
    place = 0
    while place < len(row):
        end = place + 1 + row[place]
        if row[place] < 1 or end > len(row):
            raise ValueError("a count does not fit the numbers behind it")
        apart.append(row[place + 1:end])
        place = end
    return apart


def ask(*calls):
    return taken_apart(answers(written(calls)))


def ask_round(n, *calls):
    """What the calls answer behind a round with n."""
    return ask(("round", n), *calls)[1:]


def slow_units(n):
    divisors = [d for d in range(2, n + 1) if n % d == 0]
    return [a for a in range(n) if all(a % d != 0 for d in divisors)]


def slow_power(a, k, n):
    result = 1
    for _ in range(k):
        result = result * a % n
    return result % n


def slow_powers(a, n):
    """Powers 0, 1, .. of a, up to where no new one can come."""
    powers = [1 % n]
    for _ in range(n):
        powers.append(powers[-1] * a % n)
    return powers


def slow_order(a, n):
    return slow_powers(a, n)[1:].index(1 % n) + 1


def slow_exponent(n):
    units = slow_units(n)
    powers = list(units)
    k = 1
    while any(p != 1 % n for p in powers):
        powers = [p * a % n for p, a in zip(powers, units)]
        k += 1
    return k


def slow_generators(n):
    units = slow_units(n)
    return [g for g in units if set(slow_powers(g, n)) == set(units)]


def slow_log(g, a, n):
    units = slow_units(n)
    if g % n not in units or a % n not in units:
        return -6
    powers = slow_powers(g, n)
    return powers.index(a % n) if a % n in powers else -3


def has_generator(n):
    """1, 2, 4, a power of an odd prime, or twice such a one."""
    if n in (1, 2, 4):
        return True
    if n % 2 == 0:
        n //= 2
    primes = [p for p in range(2, n + 1) if n % p == 0 and all(p % d != 0 for d in range(2, p))]
    return len(primes) == 1 and primes[0] != 2
