"""Answers calls about the units round one n and their powers."""

FIRST_N = 2
LEAST_N = 1
MOST_N = 300

LEAST_M = 1
MOST_M = 30
MOST_PAIRS = 3

NOT_ALLOWED = -1
NO_SUCH_NUMBER = -3
NOT_A_UNIT = -6

ROUND = 0
UNITS = 1
POW = 2
ORDER = 3
EXPONENT = 4
GENERATORS = 5
LOG = 6
ROOTS = 7
FACTORS = 8
TOGETHER = 9
PARTS = 10
ORDERS = 11
PRODUCT = 12
INVERSE = 13

# By a call's number: how many whole numbers stand behind it. That of together tells how many more there are.
GIVEN_COUNTS = (1, 0, 2, 1, 0, 0, 2, 2, 0, 1, 0, 0, 0, 1)


def common_divisor(a, b):
    """The greatest number that divides both a and b."""
    while b != 0:
        rest = a % b
        a = b
        b = rest
    return a


def common_multiple(a, b):
    """The least number, 1 at least, that both a and b divide."""
    return a * b // common_divisor(a, b)


def is_unit(a, n):
    return common_divisor(a, n) == 1


def units_round(n):
    """All units round n, rising."""
    return [a for a in range(n) if is_unit(a, n)]


def one_round(n):
    """1 told round n: 0 where n is 1."""
    return 1 % n


def power(a, k, n):
    """a to the power of k, round n."""
    # k may be in the thousands of millions, so its binary digits are walked, not its steps.
    result = one_round(n)
    square = a % n
    while k > 0:
        if k % 2 == 1:
            result = result * square % n
        square = square * square % n
        k = k // 2
    return result


def order_of(a, n):
    """The order of a, which must be a unit: no other number's powers come back to 1."""
    one = one_round(n)
    reached = a % n
    k = 1
    while reached != one:
        reached = reached * a % n
        k += 1
    return k


def exponent_round(n):
    """The least number, 1 at least, that every unit's order divides."""
    result = 1
    for a in units_round(n):
        result = common_multiple(result, order_of(a, n))
    return result


def generators_round(n):
    """All generators round n, rising."""
    # A unit has as many different powers as its order says, and all of them are units.
    units = units_round(n)
    return [g for g in units if order_of(g, n) == len(units)]


def log_of(g, a, n):
    """The least power of g, from 0 on, that is a, or the refusal where there is none."""
    wanted = a % n
    reached = one_round(n)
    # There are n numbers round n, so from the power n on none comes for the first time.
    for k in range(n):
        if reached == wanted:
            return k
        reached = reached * g % n
    return NO_SUCH_NUMBER


def roots_round(k, a, n):
    """All numbers round n, units or not, whose power k is a, rising."""
    wanted = a % n
    return [b for b in range(n) if power(b, k, n) == wanted]


def prime_factors(n):
    """Each prime that divides n, rising, with how often it does."""
    pairs = []
    rest = n
    # A number that is no prime never divides the rest: its primes, which are less, are out of it by then.
    for prime in range(2, n + 1):
        often = 0
        while rest % prime == 0:
            rest = rest // prime
            often += 1
        if often > 0:
            pairs.append((prime, often))
    return pairs


def cycles_round(prime, often):
    """Orders of units that make up, in just one way, all units round that power of the prime."""
    whole = 1
    for step in range(often):
        whole = whole * prime
    # Round 8, 16, .. there is no generator, but -1, whose order is 2, and 5 make up all units.
    if prime == 2 and often > 2:
        return [2, whole // 4]
    return [whole - whole // prime]


def chained(orders):
    """Orders of units that make up the same as those with these orders, each dividing the next."""
    # Units with the orders a and b make up as much as two others, whose orders are the greatest common
    # divisor and the least common multiple of a and b.
    chain = list(orders)
    count = len(orders)
    for low in range(count):
        for high in range(low + 1, count):
            divisor = common_divisor(chain[low], chain[high])
            chain[high] = common_multiple(chain[low], chain[high])
            chain[low] = divisor
    return chain


def parts_round(n):
    """The parts, rising."""
    orders = []
    for pair in prime_factors(n):
        orders.extend(cycles_round(pair[0], pair[1]))
    return [part for part in chained(orders) if part > 1]


def order_counts(n):
    """Each order that units have, rising, with how many have it."""
    counts = {}
    for a in units_round(n):
        order = order_of(a, n)
        counts[order] = counts.get(order, 0) + 1
    return [(order, counts[order]) for order in sorted(counts)]


def product_round(n):
    """All units multiplied, round n."""
    result = one_round(n)
    for a in units_round(n):
        result = result * a % n
    return result


def inverse_of(a, n):
    """What times a is 1, round n; a must be a unit, as no other number has such a one."""
    one = one_round(n)
    b = 0
    while a * b % n != one:
        b += 1
    return b


def least_leaving(found, step, a, m):
    """The least number that leaves, divided by step, found, and divided by m, what a leaves; or the refusal."""
    wanted = a % m
    # From m steps on, what is left comes round again.
    for count in range(m):
        number = found + count * step
        if number % m == wanted:
            return number
    return NO_SUCH_NUMBER


def may_be_pairs(pairs):
    if len(pairs) % 2 == 1 or len(pairs) > 2 * MOST_PAIRS:
        return False
    return all([LEAST_M <= m and m <= MOST_M for m in pairs[1::2]])


def may_be_n(n):
    return LEAST_N <= n and n <= MOST_N


def counted(row):
    return [len(row)] + row


def counted_pairs(pairs):
    row = [len(pairs)]
    for pair in pairs:
        row.extend(pair)
    return row


def answer_round(n):
    if not may_be_n(n):
        return [NOT_ALLOWED]
    return [len(units_round(n))]


def answer_order(a, n):
    if not is_unit(a, n):
        return [NOT_A_UNIT]
    return [order_of(a, n)]


def answer_log(g, a, n):
    if not is_unit(g, n) or not is_unit(a, n):
        return [NOT_A_UNIT]
    return [log_of(g, a, n)]


def answer_roots(k, a, n):
    if k == 0:
        return [NOT_ALLOWED]
    return counted(roots_round(k, a, n))


def answer_together(pairs):
    """The least number that fits all pairs, and the least that all m divide."""
    if not may_be_pairs(pairs):
        return [NOT_ALLOWED]
    found = 0
    step = 1
    for place in range(0, len(pairs), 2):
        m = pairs[place + 1]
        found = least_leaving(found, step, pairs[place], m)
        if found == NO_SUCH_NUMBER:
            return [NO_SUCH_NUMBER]
        step = common_multiple(step, m)
    return [found, step]


def answer_inverse(a, n):
    if not is_unit(a, n):
        return [NOT_A_UNIT]
    return [inverse_of(a, n)]


def answer_about_n(number, n):
    """The numbers that a call answers which is handed nothing."""
    if number == UNITS:
        return counted(units_round(n))
    if number == EXPONENT:
        return [exponent_round(n)]
    if number == GENERATORS:
        return counted(generators_round(n))
    if number == FACTORS:
        return counted_pairs(prime_factors(n))
    if number == PARTS:
        return counted(parts_round(n))
    if number == ORDERS:
        return counted_pairs(order_counts(n))
    return [product_round(n)]


def answer_call(number, given, n):
    """The numbers that one call answers, made while n is as told."""
    if number == ROUND:
        return answer_round(given[0])
    if number == POW:
        return [power(given[0], given[1], n)]
    if number == ORDER:
        return answer_order(given[0], n)
    if number == LOG:
        return answer_log(given[0], given[1], n)
    if number == ROOTS:
        return answer_roots(given[0], given[1], n)
    if number == TOGETHER:
        return answer_together(given[1:])
    if number == INVERSE:
        return answer_inverse(given[0], n)
    return answer_about_n(number, n)


def n_after(number, given, n):
    """What n is behind a call: only a round that is not refused changes it."""
    if number == ROUND and may_be_n(given[0]):
        return given[0]
    return n


def end_of_call(calls, place):
    """Where the call that begins at the place is over."""
    number = calls[place]
    end = place + 1 + GIVEN_COUNTS[number]
    if number == TOGETHER:
        return end + calls[place + 1]
    return end


def answers(calls):
    """For each call, in order: how many numbers are answered, then these."""
    n = FIRST_N
    result = []
    place = 0
    while place < len(calls):
        number = calls[place]
        end = end_of_call(calls, place)
        given = calls[place + 1:end]
        answer = answer_call(number, given, n)
        result.append(len(answer))
        result.extend(answer)
        n = n_after(number, given, n)
        place = end
    return result
