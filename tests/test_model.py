"""Many lines, made from a fixed seed, against the document's words written down once more in fractions."""

import math
import random
import unittest
from fractions import Fraction

from tests.helper import BILLION, TWO_40, TWO_62, answers_of, begin, look, now, refer


class Model:
    def __init__(self):
        self.begun = False

    def answer(self, call):
        if call[0] == 0:
            return self.begin(*call[1:])
        if not self.begun:
            return [-4]
        return [None, self.refer, self.now, self.look][call[0]](*call[1:])

    def begin(self, num, den, ppm):
        if not (1 <= num <= BILLION and 1 <= den <= BILLION and ppm <= 10000):
            return [-1]
        self.begun = True
        self.length, self.ppm, self.seen, self.kept, self.doubted = Fraction(num, den), ppm, 0, [], []
        self.pieces = None
        return [0]

    def between(self, references, c):
        slow = self.length * (1 - Fraction(self.ppm, 10 ** 6))
        fast = self.length * (1 + Fraction(self.ppm, 10 ** 6))
        return (
            max(t - u + math.floor((c - a) * slow) for a, t, u in references),
            min(t + u + math.ceil((c - a) * fast) for a, t, u in references))

    def agrees(self, reference, others):
        if not others:
            return True
        c, t, u = reference
        least, greatest = self.between(others, c)
        return not max(least, t - u) > min(greatest, t + u)

    def rate(self):
        bound = 1000 * self.ppm
        low, high = -bound, bound
        (a, t, u), (b, s, v) = self.kept[0], self.kept[-1]
        if a != b:
            passed = (b - a) * self.length
            low = math.floor((s - v - t - u) / passed * BILLION) - BILLION
            high = math.ceil((s + v - t + u) / passed * BILLION) - BILLION
            low, high = (sorted([-bound, rate, bound])[1] for rate in (low, high))
        return math.floor(Fraction(low + high, 2))

    def told(self, c):
        start, value, base, more, till = self.pieces
        if c > till:
            value += (till - start) * self.length * (1 + Fraction(base + more, BILLION))
            return value + (c - till) * self.length * (1 + Fraction(base, BILLION))
        return value + (c - start) * self.length * (1 + Fraction(base + more, BILLION))

    def settle(self, c):
        self.kept = self.kept[-16:]
        self.doubted = []
        t = math.floor(Fraction(sum(self.between(self.kept, c)), 2))
        if self.pieces is None:
            self.pieces = (c, Fraction(t), self.rate(), 0, c)
            return
        value = self.told(c)
        more = sorted([-500000, math.floor(Fraction((t - math.floor(value)) * 1000, 64)), 500000])[1]
        self.pieces = (c, value, self.rate(), more, c + math.ceil(64000000 / self.length))

    def refer(self, c, t, u):
        if c > TWO_62 or not 0 <= t <= TWO_62 or u > TWO_40:
            return [-1]
        if c < self.seen:
            return [-4]
        self.seen = c
        reference = (c, t, u)
        if self.agrees(reference, self.kept):
            self.kept.append(reference)
            self.settle(c)
            return [0]
        self.doubted = self.doubted + [reference] if self.agrees(reference, self.doubted) else [reference]
        if len(self.doubted) == 3:
            self.kept = self.doubted
            self.settle(c)
            return [2]
        return [1]

    def refusal(self, c, there):
        if c > TWO_62:
            return [-1]
        if c < self.seen:
            return [-4]
        return None if there else [-2]

    def now(self, c):
        refused = self.refusal(c, self.pieces is not None)
        if refused:
            return refused
        self.seen = c
        return [0, math.floor(self.told(c))]

    def look(self, c):
        return self.refusal(c, self.kept) or [0, *self.between(self.kept, c), math.floor(self.told(c))]


def some_line(chance, how_many):
    """A station whose true tick is off within its ppm, told the time rightly or wrongly."""
    num, den = (chance.choice([1, 2, 3, 7, 1000, 999983, BILLION, chance.randint(1, BILLION)]) for _ in range(2))
    ppm = chance.choice([0, 1, 50, 1000, 10000])
    tick = Fraction(num, den) * (1 + Fraction(chance.randint(-ppm, ppm), 10 ** 6))
    widest = chance.choice([0, 3, 100, 10 ** 5, 10 ** 8])
    step = chance.choice([1, 3, 1000, 10 ** 8])
    line, c, start, wrong = [begin(num, den, ppm)], 0, chance.randint(0, 10 ** 12), 0
    for _ in range(how_many):
        c += chance.randint(0, step)
        if chance.random() < 0.1:
            wrong = chance.choice([0, 0, chance.randint(-10 ** 6, 10 ** 6)])
        u = chance.randint(0, widest)
        t = max(0, start + math.floor(c * tick) + chance.randint(-u, u) + wrong)
        far = c + chance.randint(0, 3) * math.ceil(32000000 / Fraction(num, den)) + chance.randint(0, 2)
        line += [chance.choice([refer(c, t, u), refer(c, t, u), look(far), now(c), refer(max(0, c - 1), t, u)])]
    return line


class AgainstTheModel(unittest.TestCase):
    def test_lines_are_answered_as_the_model_answers(self):
        chance = random.Random(20)
        firsts = {0: 0, 1: 0, 2: 0, -4: 0, -2: 0}
        for number in range(400):
            line = some_line(chance, 60)
            if number % 10 == 0:
                line += some_line(chance, 20)
            model = Model()
            expected = [model.answer(call) for call in line]
            self.assertEqual(answers_of(*line), expected, line)
            for answer in expected:
                firsts[answer[0]] += 1
        for first, how_often in firsts.items():
            self.assertGreater(how_often, 50, first)


if __name__ == "__main__":
    unittest.main()
