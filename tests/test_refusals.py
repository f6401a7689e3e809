"""A refusal changes nothing: put in anywhere, it leaves every other answer as it was."""

import unittest

from tests.helper import (
    BELIEVED, DOUBTED, NOTHING_THERE, OUT_OF_RANGE, OUT_OF_TURN, TAKEN, TWO_40, TWO_62, TWO_63, TWO_64,
    answers_of, begin, count, look, now, rate, refer, refs, when,
)
from tests.test_begin import WRONG_BEGINS

ALL_THAT_IS_KEPT = [refs(), count(), rate(), when(1500), when(90001), look(10 ** 9)]

STEPS = [
    refer(10, 1000, 10), now(11), refer(12, 1002, 9), refer(20, 90000, 5), refer(21, 90001, 5),
    refer(23, 90004, 5), now(24), refer(25, 0), refer(26, 90009, 5), refer(30, 7, 7), now(99999),
]

WRONG = WRONG_BEGINS + [
    refer(TWO_62 + 1, 90001, 5), refer(TWO_64 - 1, 90001, 5), refer(10 ** 6, -1, 5), refer(10 ** 6, -TWO_63, 5),
    refer(10 ** 6, TWO_62 + 1), refer(10 ** 6, TWO_63 - 1), refer(10 ** 6, 9, TWO_40 + 1),
    refer(10 ** 6, 9, TWO_64 - 1), refer(0, -1), now(TWO_62 + 1), now(TWO_64 - 1), look(TWO_62 + 1), look(TWO_64 - 1),
    when(-1), when(-TWO_63), when(TWO_62 + 1), when(TWO_63 - 1),
]
TOO_EARLY = [refer(9, 1000, 10), refer(0, 90001, 5), now(9), now(0), look(9), look(0)]
NOTHING_YET = [now(0), now(TWO_62), look(0), look(TWO_62), rate(), when(0), when(TWO_62)]


def watched(steps):
    return [begin(3, 2, 100)] + [call for step in steps for call in [step] + ALL_THAT_IS_KEPT]


class Refusals(unittest.TestCase):
    line = watched(STEPS)
    plain = answers_of(*line)

    def check(self, wrong, refusal, place):
        with self.subTest(wrong=wrong, place=place):
            found = answers_of(*self.line[:place], wrong, *self.line[place:])
            self.assertEqual(found, self.plain[:place] + [refusal] + self.plain[place:])

    def test_the_line_takes_doubts_and_believes(self):
        steps = self.plain[1::1 + len(ALL_THAT_IS_KEPT)]
        self.assertEqual(
            [answer for step, answer in zip(STEPS, steps) if step[0] == 1],
            [TAKEN, TAKEN, DOUBTED, DOUBTED, BELIEVED, DOUBTED, TAKEN, DOUBTED])

    def test_out_of_range(self):
        for wrong in WRONG:
            for place in range(1, len(self.line) + 1, 3):
                self.check(wrong, OUT_OF_RANGE, place)

    def test_out_of_turn(self):
        for wrong in TOO_EARLY:
            for place in range(2, len(self.line) + 1, 3):
                self.check(wrong, OUT_OF_TURN, place)

    def test_nothing_there(self):
        for wrong in NOTHING_YET:
            self.check(wrong, NOTHING_THERE, 1)


if __name__ == "__main__":
    unittest.main()
