"""Many lines, made from a fixed seed, against the document's words written down once more in fractions."""

import math
import random
import unittest
from fractions import Fraction

from tests.helper import (
    BILLION, TWO_40, TWO_62, TWO_63, TWO_64, answers_of, begin, count, look, now, one_list, rate, refer, refs, when,
)


class Model:
    def __init__(self):
        self.begun = False

    def answer(self, call):
        if call[0] == 0:
            return self.begin(*call[1:])
        if not self.begun:
            return [-4]
        calls = [None, self.refer, self.now, self.look, self.rate, self.when, self.refs, self.count]
        return calls[call[0]](*call[1:])

    def begin(self, num, den, ppm):
        if not (1 <= num <= BILLION and 1 <= den <= BILLION and ppm <= 10000):
            return [-1]
        self.begun = True
        self.length, self.ppm, self.seen, self.kept, self.doubted = Fraction(num, den), ppm, 0, [], []
        self.pieces = None
        self.answered = []
        return [0]

    def between(self, references, c):
        slow = self.length * (1 - Fraction(self.ppm, 10 ** 6))
        fast = self.length * (1 + Fraction(self.ppm, 10 ** 6))
        return (
            max(t - u + math.floor((c - a) * slow) for a, t, u in references),
            min(t + u + math.ceil((c - a) * fast) for a, t, u in references))

    def agrees(self, reference, others):
        if not others:
            return True
        c, t, u = reference
        least, greatest = self.between(others, c)
        return not max(least, t - u) > min(greatest, t + u)

    def rates(self):
        bound = 1000 * self.ppm
        low, high = -bound, bound
        (a, t, u), (b, s, v) = self.kept[0], self.kept[-1]
        if a != b:
            passed = (b - a) * self.length
            low = math.floor((s - v - t - u) / passed * BILLION) - BILLION
            high = math.ceil((s + v - t + u) / passed * BILLION) - BILLION
            low, high = (sorted([-bound, rate, bound])[1] for rate in (low, high))
        return [low, high, math.floor(Fraction(low + high, 2))]

    def told(self, c):
        start, value, base, more, till = self.pieces
        if c > till:
            value += (till - start) * self.length * (1 + Fraction(base + more, BILLION))
            return value + (c - till) * self.length * (1 + Fraction(base, BILLION))
        return value + (c - start) * self.length * (1 + Fraction(base + more, BILLION))

    def settle(self, c):
        self.kept = self.kept[-16:]
        self.doubted = []
        t = math.floor(Fraction(sum(self.between(self.kept, c)), 2))
        if self.pieces is None:
            self.pieces = (c, Fraction(t), self.rates()[2], 0, c)
            return
        value = self.told(c)
        more = sorted([-500000, math.floor(Fraction((t - math.floor(value)) * 1000, 64)), 500000])[1]
        self.pieces = (c, value, self.rates()[2], more, c + math.ceil(64000000 / self.length))

    def refer(self, c, t, u):
        if c > TWO_62 or not 0 <= t <= TWO_62 or u > TWO_40:
            return [-1]
        if c < self.seen:
            return [-4]
        self.seen = c
        self.answered.append(self.weigh((c, t, u)))
        return self.answered[-1:]

    def weigh(self, reference):
        if self.agrees(reference, self.kept):
            self.kept.append(reference)
            self.settle(reference[0])
            return 0
        self.doubted = self.doubted + [reference] if self.agrees(reference, self.doubted) else [reference]
        if len(self.doubted) == 3:
            self.kept = self.doubted
            self.settle(reference[0])
            return 2
        return 1

    def refusal(self, c, there):
        if c > TWO_62:
            return [-1]
        if c < self.seen:
            return [-4]
        return None if there else [-2]

    def now(self, c):
        refused = self.refusal(c, self.pieces is not None)
        if refused:
            return refused
        self.seen = c
        return [0, math.floor(self.told(c))]

    def look(self, c):
        return self.refusal(c, self.kept) or [0, *self.between(self.kept, c), math.floor(self.told(c))]

    def rate(self):
        return [0, *self.rates()] if self.kept else [-2]

    def when(self, t):
        """Searched for by what is told, so that it's not reckoned from the steps once more."""
        if not 0 <= t <= TWO_62:
            return [-1]
        if self.pieces is None:
            return [-2]
        if math.floor(self.told(self.seen)) >= t:
            return [0, self.seen]
        too_little, step = self.seen, 1
        while math.floor(self.told(too_little + step)) < t:
            too_little, step = too_little + step, 2 * step
        enough = too_little + step
        while enough - too_little > 1:
            middle = (too_little + enough) // 2
            if math.floor(self.told(middle)) < t:
                too_little = middle
            else:
                enough = middle
        return [0, enough]

    def refs(self):
        return [len(self.kept)] + [number for reference in self.kept for number in reference]

    def count(self):
        return [0] + [self.answered.count(answer) for answer in (0, 1, 2)] + [len(self.doubted), self.seen]


WRONG = [
    begin(0), begin(1, BILLION + 1), begin(1, 1, 10001), begin(TWO_64 - 1, TWO_64 - 1, TWO_64 - 1),
    refer(TWO_62 + 1, 5), refer(TWO_64 - 1, 5), refer(TWO_62, -1), refer(TWO_62, TWO_62 + 1),
    refer(TWO_62, 5, TWO_40 + 1), refer(0, -TWO_63, TWO_64 - 1), now(TWO_62 + 1), now(TWO_64 - 1), look(TWO_62 + 1),
    look(TWO_64 - 1), when(-1), when(-TWO_63), when(TWO_62 + 1), when(TWO_63 - 1),
]


def some_line(chance, how_many):
    """A station whose true tick is off within its ppm, told the time rightly or wrongly, and asked all there is."""
    num, den = (chance.choice([1, 2, 3, 7, 1000, 999983, BILLION, chance.randint(1, BILLION)]) for _ in range(2))
    ppm = chance.choice([0, 1, 50, 1000, 10000])
    tick = Fraction(num, den) * (1 + Fraction(chance.randint(-ppm, ppm), 10 ** 6))
    widest = chance.choice([0, 3, 100, 10 ** 5, 10 ** 8])
    step = chance.choice([1, 3, 1000, 10 ** 8])
    line, c, start, wrong = [begin(num, den, ppm)], 0, chance.randint(0, 10 ** 12), 0
    while len(line) < how_many:
        c += chance.randint(0, step)
        if chance.random() < 0.1:
            wrong = chance.choice([0, 0, chance.randint(-10 ** 6, 10 ** 6)])
        u = chance.randint(0, widest)
        t = max(0, start + math.floor(c * tick) + chance.randint(-u, u) + wrong)
        far = c + chance.randint(0, 3) * math.ceil(32000000 / Fraction(num, den)) + chance.randint(0, 2)
        early = max(0, c - chance.randint(0, 2))
        later = t + chance.choice([-1, 0, 1, chance.randint(0, 10 ** 7), 64 * 10 ** 6, 10 ** 12, TWO_62])
        line += [chance.choice([
            refer(c, t, u), refer(c, t, u), refer(c, t, u), refer(early, t, u), now(c), now(early),
            look(far), look(early), rate(), when(later), when(later), refs(), count(), chance.choice(WRONG),
        ])]
    return line


class AgainstTheModel(unittest.TestCase):
    def check(self, line, firsts):
        """Compares, and counts how often each call was answered by which first number."""
        model = Model()
        expected = [model.answer(call) for call in line]
        self.assertEqual(answers_of(*line), expected, line)
        for call, answer in zip(line, expected):
            key = (call[0], answer[0])
            firsts[key] = firsts.get(key, 0) + 1

    def check_often(self, firsts):
        for key in [
            (0, 0), (0, -1), (1, 0), (1, 1), (1, 2), (1, -1), (1, -4), (2, 0), (2, -1), (2, -4), (2, -2),
            (3, 0), (3, -1), (3, -4), (3, -2), (4, 0), (4, -2), (5, 0), (5, -1), (5, -2),
            (6, 0), (6, 3), (6, 16), (7, 0),
        ]:
            self.assertGreater(firsts.get(key, 0), 5, key)

    def test_short_lines(self):
        chance = random.Random(20)
        firsts = {}
        for number in range(400):
            line = some_line(chance, 60)
            if number % 10 == 0:
                line += some_line(chance, 20)
            self.check(line, firsts)
        self.check_often(firsts)

    def test_lines_of_two_thousand_calls(self):
        chance = random.Random(21)
        firsts = {}
        for longest in [2000, 2000, 1000, 1000, 300, 300, 40, 40]:
            line = []
            while len(line) < 2000:
                line += some_line(chance, min(longest, 2000 - len(line)))
            self.assertEqual(len(line), 2000)
            self.assertLessEqual(len(one_list(line)), 16000)
            self.check(line, firsts)
        self.check_often(firsts)


if __name__ == "__main__":
    unittest.main()
