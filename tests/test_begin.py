import unittest

from tests.helper import (
    BILLION, DOUBTED, NOTHING_THERE, OUT_OF_RANGE, OUT_OF_TURN, TAKEN, TWO_62, TWO_64,
    answers_of, begin, count, last_answer, look, now, rate, refer, refs, when,
)

WRONG_BEGINS = [
    begin(num=0), begin(num=BILLION + 1), begin(num=TWO_64 - 1),
    begin(den=0), begin(den=BILLION + 1), begin(den=TWO_64 - 1),
    begin(ppm=10001), begin(ppm=TWO_64 - 1),
    begin(0, 0, 10001),
]


class BeginEdges(unittest.TestCase):
    def test_taken_at_its_edges(self):
        for call in [
            begin(num=1), begin(num=BILLION), begin(den=1), begin(den=BILLION),
            begin(ppm=0), begin(ppm=10000), begin(BILLION, BILLION, 10000),
        ]:
            with self.subTest(call=call):
                self.assertEqual(answers_of(call), [[0]])
                self.assertEqual(answers_of(begin(7, 5, 3), call), [[0], [0]])

    def test_refused_beyond_its_edges(self):
        for call in WRONG_BEGINS:
            with self.subTest(call=call):
                self.assertEqual(answers_of(call), [OUT_OF_RANGE])
                self.assertEqual(answers_of(begin(), call), [[0], OUT_OF_RANGE])

    def test_tick_is_num_over_den_with_ppm(self):
        line = [begin(3, 2, 10000), refer(0, 1000, 10)]
        self.assertEqual(last_answer(*line, look(200)), [0, 1287, 1313, 1300])


class BeforeBegin(unittest.TestCase):
    def test_all_others_are_refused(self):
        for call in [
            refer(0, 0), now(0), look(0), refer(TWO_62 + 1, -1), now(TWO_62 + 1), look(TWO_62 + 1),
            rate(), when(0), when(-1), when(TWO_62 + 1), refs(), count(),
        ]:
            with self.subTest(call=call):
                self.assertEqual(answers_of(call), [OUT_OF_TURN])
                self.assertEqual(answers_of(begin(num=0), call), [OUT_OF_RANGE, OUT_OF_TURN])
                self.assertEqual(answers_of(call, begin(), now(0)), [OUT_OF_TURN, [0], NOTHING_THERE])
                self.assertEqual(answers_of(call, begin(), refs(), count())[2:], [[0], [0] * 6])


class BeginAgain(unittest.TestCase):
    before = [begin(), refer(100, 1000, 0), refer(110, 5000, 0), refer(110, 5000, 0), now(200)]

    def test_nothing_is_left_from_before(self):
        self.assertEqual(answers_of(*self.before), [[0], TAKEN, DOUBTED, DOUBTED, [0, 1100]])
        after = [begin(2), now(0), look(0), now(200), look(200), rate(), when(0), refs(), count()]
        self.assertEqual(answers_of(*self.before, *after)[5:], [[0]] + [NOTHING_THERE] * 6 + [[0], [0] * 6])

    def test_begins_like_a_new_one(self):
        after = [
            begin(2, 3, 50), refer(5, 77, 3), now(5), look(6), now(7),
            refer(8, 9000, 1), refer(9, 9000, 1), now(TWO_62), look(TWO_62), rate(), when(TWO_62), refs(), count(),
        ]
        self.assertEqual(answers_of(*self.before, *after)[5:], answers_of(*after))
        self.assertEqual(answers_of(*after)[:4], [[0], TAKEN, [0, 77], [0, 74, 81, 77]])

    def test_told_time_goes_from_the_new_first_one(self):
        self.assertEqual(answers_of(*self.before, begin(), refer(0, 40), now(1))[5:], [[0], TAKEN, [0, 41]])

    def test_none_is_doubted(self):
        self.assertEqual(last_answer(*self.before, count())[4], 2)
        self.assertEqual(last_answer(*self.before, begin(), count())[4], 0)
        # With one left from before, two more would be believed.
        after = [begin(), refer(0, 1000), refer(0, 5000), refer(0, 5000), refer(0, 5000), count()]
        self.assertEqual(answers_of(*self.before, *after)[6:], [TAKEN, DOUBTED, DOUBTED, [2], [0, 1, 2, 1, 0, 0]])


if __name__ == "__main__":
    unittest.main()
