"""What references say of the time, and how the told time goes: in whole numbers, so that all is exact."""

MILLION = 1000000
BILLION = 1000000000
MOST_MORE = 500000
NEARING_SECONDS = 64


class Tick:
    def __init__(self, num, den, ppm):
        self.num = num
        self.den = den
        self.ppm = ppm


class Reference:
    def __init__(self, counter, time, off):
        self.counter = counter
        self.time = time
        self.off = off


# The value is counted in parts of 1 / (den 10^9) microseconds: every step of the told time
# is a whole number of these, so it is kept without being rounded.
class Told:
    def __init__(self, counter, value, base, more, till):
        self.counter = counter
        self.value = value
        self.base = base
        self.more = more
        self.till = till


def quotient_up(upper, lower):
    return -(-upper // lower)


def within(number, low, high):
    return low <= number and number <= high


def cut_to(number, low, high):
    return max(low, min(number, high))


def earliest_by(tick, reference, c):
    passed = (c - reference.counter) * tick.num * (MILLION - tick.ppm)
    return reference.time - reference.off + passed // (tick.den * MILLION)


def latest_by(tick, reference, c):
    passed = (c - reference.counter) * tick.num * (MILLION + tick.ppm)
    return reference.time + reference.off + quotient_up(passed, tick.den * MILLION)


def least_time(tick, references, c):
    return max([earliest_by(tick, reference, c) for reference in references])


def greatest_time(tick, references, c):
    return min([latest_by(tick, reference, c) for reference in references])


def agrees(tick, reference, others):
    if len(others) == 0:
        return True
    low = max(least_time(tick, others, reference.counter), reference.time - reference.off)
    high = min(greatest_time(tick, others, reference.counter), reference.time + reference.off)
    return low <= high


def least_and_greatest_rate(tick, references):
    bound = 1000 * tick.ppm
    first = references[0]
    last = references[len(references) - 1]
    if first.counter == last.counter:
        return (-bound, bound)
    d = (last.counter - first.counter) * tick.num
    shortest = (last.time - last.off) - (first.time + first.off)
    longest = (last.time + last.off) - (first.time - first.off)
    low = shortest * tick.den * BILLION // d - BILLION
    high = quotient_up(longest * tick.den * BILLION, d) - BILLION
    return (cut_to(low, -bound, bound), cut_to(high, -bound, bound))


def rate_by(tick, references):
    both = least_and_greatest_rate(tick, references)
    return (both[0] + both[1]) // 2


def parts_in_microsecond(tick):
    return tick.den * BILLION


def nearing_step(tick, told):
    return tick.num * (BILLION + told.base + told.more)


def later_step(tick, told):
    return tick.num * (BILLION + told.base)


def told_value(tick, told, c):
    nearing = min(c, told.till) - told.counter
    behind = max(c - told.till, 0)
    return told.value + nearing * nearing_step(tick, told) + behind * later_step(tick, told)


def told_time(tick, told, c):
    return told_value(tick, told, c) // parts_in_microsecond(tick)


def told_at_first(tick, c, t, base):
    return Told(c, t * parts_in_microsecond(tick), base, 0, c)


def brought_nearer(tick, told, c, t, base):
    missing = t - told_time(tick, told, c)
    more = cut_to(missing * 1000 // NEARING_SECONDS, -MOST_MORE, MOST_MORE)
    till = c + quotient_up(NEARING_SECONDS * MILLION * tick.den, tick.num)
    return Told(c, told_value(tick, told, c), base, more, till)


# Both steps are above 0, since ppm and more are small beside a billion: the told time gets to every t,
# and the rounding up gives the least counter. It may lie below the one that the told time goes from.
def first_counter_telling(tick, told, t):
    wanted = t * parts_in_microsecond(tick)
    at_till = told_value(tick, told, told.till)
    if wanted <= at_till:
        return told.counter + quotient_up(wanted - told.value, nearing_step(tick, told))
    return told.till + quotient_up(wanted - at_till, later_step(tick, told))
