import unittest

from tests.helper import (
    DOUBTED, NOTHING_THERE, OUT_OF_RANGE, OUT_OF_TURN, TAKEN, TWO_62, TWO_64,
    answers_of, begin, last_answer, look, now, refer,
)


class Refusals(unittest.TestCase):
    def test_nothing_told_and_nothing_kept(self):
        for call in [now(0), now(TWO_62), look(0), look(TWO_62)]:
            with self.subTest(call=call):
                self.assertEqual(last_answer(begin(), call), NOTHING_THERE)

    def test_out_of_range_is_told_before_nothing_there(self):
        for c in [TWO_62 + 1, TWO_64 - 1]:
            for call in [now(c), look(c)]:
                with self.subTest(call=call):
                    self.assertEqual(last_answer(begin(), call), OUT_OF_RANGE)
                    self.assertEqual(last_answer(begin(), refer(5, 5), call), OUT_OF_RANGE)

    def test_counter_at_its_upper_edge(self):
        line = [begin(), refer(0, 1000, 5)]
        self.assertEqual(last_answer(*line, now(TWO_62)), [0, TWO_62 + 1000])
        self.assertEqual(last_answer(*line, look(TWO_62)), [0, TWO_62 + 995, TWO_62 + 1005, TWO_62 + 1000])

    def test_counter_below_the_last_seen(self):
        line = [begin(), refer(100, 1000, 5)]
        for call in [now(99), now(0), look(99), look(0)]:
            with self.subTest(call=call):
                self.assertEqual(last_answer(*line, call), OUT_OF_TURN)
        self.assertEqual(last_answer(*line, now(100)), [0, 1000])
        self.assertEqual(last_answer(*line, look(100)), [0, 995, 1005, 1000])

    def test_refused_counters_dont_count_as_seen(self):
        self.assertEqual(answers_of(begin(), now(100), look(100), refer(50, 9))[1:], [NOTHING_THERE] * 2 + [TAKEN])
        line = [begin(), refer(10, 1000), now(TWO_62 + 1), look(TWO_62 + 1), now(9), look(9), now(10)]
        self.assertEqual(answers_of(*line)[2:], [OUT_OF_RANGE] * 2 + [OUT_OF_TURN] * 2 + [[0, 1000]])


class Seen(unittest.TestCase):
    start = [begin(), refer(0, 1000, 5)]

    def test_now_counts_as_seen(self):
        found = answers_of(*self.start, now(100), refer(99, 1099, 5), look(99), now(99), now(100), refer(100, 1100, 5))
        self.assertEqual(found[2:], [[0, 1100]] + [OUT_OF_TURN] * 3 + [[0, 1100], TAKEN])

    def test_look_doesnt_count_as_seen(self):
        found = answers_of(*self.start, look(100), look(50), now(40), refer(45, 1045, 5), refer(44, 1044, 5))
        self.assertEqual(
            found[2:], [[0, 1095, 1105, 1100], [0, 1045, 1055, 1050], [0, 1040], TAKEN, OUT_OF_TURN])

    def test_refer_counts_as_seen(self):
        found = answers_of(
            *self.start, refer(10, 1010, 5), now(9), look(9), refer(20, 9000, 5), now(19), look(19), now(20))
        self.assertEqual(found[2:], [TAKEN, OUT_OF_TURN, OUT_OF_TURN, DOUBTED, OUT_OF_TURN, OUT_OF_TURN, [0, 1020]])


class Answers(unittest.TestCase):
    def test_quotients_that_are_not_whole(self):
        line = [begin(1, 3), refer(0, 1000, 10)]
        for c, least, greatest, told in [
            (0, 990, 1010, 1000), (1, 990, 1011, 1000), (2, 990, 1011, 1000),
            (3, 991, 1011, 1001), (4, 991, 1012, 1001),
        ]:
            with self.subTest(c=c):
                self.assertEqual(last_answer(*line, look(c)), [0, least, greatest, told])
                self.assertEqual(last_answer(*line, now(c)), [0, told])

    def test_ppm_widens(self):
        line = [begin(1, 1, 1), refer(0, 1000, 10)]
        for c, least, greatest in [
            (1, 990, 1012), (10 ** 6 - 1, 990 + 10 ** 6 - 2, 1010 + 10 ** 6),
            (10 ** 6, 990 + 10 ** 6 - 1, 1010 + 10 ** 6 + 1), (10 ** 6 + 1, 990 + 10 ** 6 - 1, 1010 + 10 ** 6 + 3),
        ]:
            with self.subTest(c=c):
                self.assertEqual(last_answer(*line, look(c)), [0, least, greatest, 1000 + c])
        line = [begin(7, 3, 10000), refer(11, 500, 0)]
        # 289 ticks of 7 / 3: 674.33; a hundredth less 667.59, more 681.07.
        self.assertEqual(last_answer(*line, look(300)), [0, 500 + 667, 500 + 682, 500 + 674])

    def test_the_greatest_least_and_the_least_greatest(self):
        line = [begin(1, 1, 1000), refer(0, 1000, 10), refer(0, 1015, 20), refer(100000, 101000, 115)]
        self.assertEqual(answers_of(*line)[1:], [TAKEN] * 3)
        # By the three at 100000: 100890 to 101110, 100895 to 101135, 100885 to 101115.
        self.assertEqual(last_answer(*line, look(100000))[:3], [0, 100895, 101110])
        # At 200000: 200790 to 201210, 200795 to 201235, 200785 to 201215.
        self.assertEqual(last_answer(*line, look(200000))[:3], [0, 200795, 201210])
        line = [begin(1, 1, 1000), refer(0, 1000, 10), refer(100000, 101000, 50)]
        self.assertEqual(last_answer(*line, look(200000))[:3], [0, 200850, 201150])

    def test_least_may_be_below_nothing(self):
        self.assertEqual(last_answer(begin(), refer(0, 3, 10), look(1)), [0, -6, 14, 4])

    def test_look_tells_the_same_as_now(self):
        line = [begin(3, 7, 100), refer(0, 10 ** 6, 10 ** 6), refer(5, 10 ** 6 + 999, 100)]
        for c in [5, 6, 7, 10 ** 7, 149333338, 149333339, 149333340, 10 ** 12]:
            with self.subTest(c=c):
                self.assertEqual(last_answer(*line, look(c))[3], last_answer(*line, now(c))[1])

    def test_now_and_look_leave_the_told_time_as_it_is(self):
        line = [begin(1, 3), refer(0, 1000, 10)]
        for c in range(1, 10):
            line += [look(c), now(c)]
        found = answers_of(*line)
        self.assertEqual([answer[1] for answer in found[3::2]], [1000 + c // 3 for c in range(1, 10)])


if __name__ == "__main__":
    unittest.main()
