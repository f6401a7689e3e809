"""The calls on a station's clock, and the list of calls that is answered."""

from stationclock.reckoning import BILLION, Reference, Tick, within
from stationclock.reckoning import agrees, greatest_time, least_time, least_and_greatest_rate, rate_by
from stationclock.reckoning import brought_nearer, first_counter_telling, told_at_first, told_time

OUT_OF_RANGE = -1
NOTHING_THERE = -2
OUT_OF_TURN = -4

TAKEN = 0
DOUBTED = 1
BELIEVED = 2

MOST_PPM = 10000
# 2^62, 2^62 and 2^40, written out so that the top of the file holds plain values alone.
MOST_COUNTER = 4611686018427387904
MOST_TIME = 4611686018427387904
MOST_OFF = 1099511627776
MOST_KEPT = 16
ENOUGH_TO_BELIEVE = 3

BEGIN = 0
REFER = 1
NOW = 2
LOOK = 3
RATE = 4
WHEN = 5
REFS = 6

# How many whole numbers stand behind a call's number; the one without a name above is count.
NUMBERS_OF_CALL = {0: 3, 1: 3, 2: 1, 3: 1, 4: 0, 5: 1, 6: 0, 7: 0}


class Station:
    def __init__(self):
        self.start_with(None)

    # A begin starts over as if nothing had been before it, so what was counted is gone too.
    def start_with(self, tick):
        self.tick = tick
        self.seen = 0
        self.kept = []
        self.doubted = []
        self.told = None
        self.times_taken = 0
        self.times_doubted = 0
        self.times_believed = 0

    def begin(self, num, den, ppm):
        if not within(num, 1, BILLION) or not within(den, 1, BILLION) or not within(ppm, 0, MOST_PPM):
            return [OUT_OF_RANGE]
        self.start_with(Tick(num, den, ppm))
        return [0]

    def refer(self, c, t, u):
        if not within(t, 0, MOST_TIME) or not within(u, 0, MOST_OFF):
            return [OUT_OF_RANGE]
        refusal = self.refusal_of_counter(c)
        if refusal != 0:
            return [refusal]
        self.seen = c
        reference = Reference(c, t, u)
        if agrees(self.tick, reference, self.kept):
            self.keep(self.kept + [reference], c)
            self.times_taken += 1
            return [TAKEN]
        self.doubt(reference)
        if len(self.doubted) < ENOUGH_TO_BELIEVE:
            self.times_doubted += 1
            return [DOUBTED]
        self.keep(self.doubted, c)
        self.times_believed += 1
        return [BELIEVED]

    def now(self, c):
        refusal = self.refusal_of_counter(c)
        if refusal != 0:
            return [refusal]
        if self.told is None:
            return [NOTHING_THERE]
        self.seen = c
        return [0, told_time(self.tick, self.told, c)]

    def look(self, c):
        refusal = self.refusal_of_counter(c)
        if refusal != 0:
            return [refusal]
        if len(self.kept) == 0:
            return [NOTHING_THERE]
        least = least_time(self.tick, self.kept, c)
        greatest = greatest_time(self.tick, self.kept, c)
        return [0, least, greatest, told_time(self.tick, self.told, c)]

    def rate(self):
        if len(self.kept) == 0:
            return [NOTHING_THERE]
        both = least_and_greatest_rate(self.tick, self.kept)
        return [0, both[0], both[1], rate_by(self.tick, self.kept)]

    def when(self, t):
        if not within(t, 0, MOST_TIME):
            return [OUT_OF_RANGE]
        if self.told is None:
            return [NOTHING_THERE]
        return [0, max(self.seen, first_counter_telling(self.tick, self.told, t))]

    def refs(self):
        answer = [len(self.kept)]
        for reference in self.kept:
            answer.extend([reference.counter, reference.time, reference.off])
        return answer

    def counts(self):
        return [0, self.times_taken, self.times_doubted, self.times_believed, len(self.doubted), self.seen]

    def refusal_of_counter(self, c):
        if not within(c, 0, MOST_COUNTER):
            return OUT_OF_RANGE
        if c < self.seen:
            return OUT_OF_TURN
        return 0

    def doubt(self, reference):
        if agrees(self.tick, reference, self.doubted):
            self.doubted = self.doubted + [reference]
        else:
            self.doubted = [reference]

    def keep(self, references, c):
        self.kept = references[max(0, len(references) - MOST_KEPT):]
        self.doubted = []
        base = rate_by(self.tick, self.kept)
        t = (least_time(self.tick, self.kept, c) + greatest_time(self.tick, self.kept, c)) // 2
        if self.told is None:
            self.told = told_at_first(self.tick, c, t, base)
        else:
            self.told = brought_nearer(self.tick, self.told, c, t, base)


def answer_to(station, call, numbers):
    if call == BEGIN:
        return station.begin(numbers[0], numbers[1], numbers[2])
    if station.tick is None:
        return [OUT_OF_TURN]
    if call == REFER:
        return station.refer(numbers[0], numbers[1], numbers[2])
    if call == NOW:
        return station.now(numbers[0])
    if call == LOOK:
        return station.look(numbers[0])
    if call == RATE:
        return station.rate()
    if call == WHEN:
        return station.when(numbers[0])
    if call == REFS:
        return station.refs()
    return station.counts()


def answers(calls):
    station = Station()
    answered = []
    place = 0
    while place < len(calls):
        call = calls[place]
        behind = place + 1 + NUMBERS_OF_CALL[call]
        answer = answer_to(station, call, calls[place + 1:behind])
        answered.append(len(answer))
        answered.extend(answer)
        place = behind
    return answered
