"""Answers calls about the units round one n and their powers."""

FIRST_N = 2
LEAST_N = 1
MOST_N = 300

OUT_OF_RANGE = -1
NO_SUCH_POWER = -3
NOT_A_UNIT = -6

ROUND = 0
UNITS = 1
POW = 2
ORDER = 3
EXPONENT = 4
GENERATORS = 5
LOG = 6

# By a call's number: how many whole numbers stand behind it.
GIVEN_COUNTS = (1, 0, 2, 1, 0, 0, 2)


def common_divisor(a, b):
    """The greatest number that divides both a and b."""
    while b != 0:
        rest = a % b
        a = b
        b = rest
    return a


def is_unit(a, n):
    return common_divisor(a, n) == 1


def units_round(n):
    """All units round n, rising."""
    return [a for a in range(n) if is_unit(a, n)]


def one_round(n):
    """1 told round n: 0 where n is 1."""
    return 1 % n


def power(a, k, n):
    """a to the power of k, round n."""
    # k may be in the thousands of millions, so its binary digits are walked, not its steps.
    result = one_round(n)
    square = a % n
    while k > 0:
        if k % 2 == 1:
            result = result * square % n
        square = square * square % n
        k = k // 2
    return result


def order_of(a, n):
    """The order of a, which must be a unit: no other number's powers come back to 1."""
    one = one_round(n)
    reached = a % n
    k = 1
    while reached != one:
        reached = reached * a % n
        k += 1
    return k


def exponent_round(n):
    """The least number, 1 at least, that every unit's order divides."""
    result = 1
    for a in units_round(n):
        order = order_of(a, n)
        result = result * order // common_divisor(result, order)
    return result


def generators_round(n):
    """All generators round n, rising."""
    # A unit has as many different powers as its order says, and all of them are units.
    units = units_round(n)
    return [g for g in units if order_of(g, n) == len(units)]


def log_of(g, a, n):
    """The least power of g, from 0 on, that is a, or the refusal where there is none."""
    wanted = a % n
    reached = one_round(n)
    # There are n numbers round n, so from the power n on none comes for the first time.
    for k in range(n):
        if reached == wanted:
            return k
        reached = reached * g % n
    return NO_SUCH_POWER


def may_be_n(n):
    return LEAST_N <= n and n <= MOST_N


def answer_round(n):
    if not may_be_n(n):
        return [OUT_OF_RANGE]
    return [len(units_round(n))]


def answer_order(a, n):
    if not is_unit(a, n):
        return [NOT_A_UNIT]
    return [order_of(a, n)]


def answer_log(g, a, n):
    if not is_unit(g, n) or not is_unit(a, n):
        return [NOT_A_UNIT]
    return [log_of(g, a, n)]


def counted(row):
    return [len(row)] + row


def answer_call(number, given, n):
    """The numbers that one call answers, made while n is as told."""
    if number == ROUND:
        return answer_round(given[0])
    if number == UNITS:
        return counted(units_round(n))
    if number == POW:
        return [power(given[0], given[1], n)]
    if number == ORDER:
        return answer_order(given[0], n)
    if number == EXPONENT:
        return [exponent_round(n)]
    if number == GENERATORS:
        return counted(generators_round(n))
    return answer_log(given[0], given[1], n)


def n_after(number, given, n):
    """What n is behind a call: only a round that is not refused changes it."""
    if number == ROUND and may_be_n(given[0]):
        return given[0]
    return n


def answers(calls):
    """For each call, in order: how many numbers are answered, then these."""
    n = FIRST_N
    result = []
    place = 0
    while place < len(calls):
        number = calls[place]
        start = place + 1
        place = start + GIVEN_COUNTS[number]
        given = calls[start:place]
        answer = answer_call(number, given, n)
        result.append(len(answer))
        result.extend(answer)
        n = n_after(number, given, n)
    return result
