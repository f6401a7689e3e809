import unittest

from tests.helper import (
    BELIEVED, DOUBTED, OUT_OF_RANGE, OUT_OF_TURN, TAKEN, TWO_40, TWO_62, TWO_63, TWO_64,
    answers_of, begin, count, last_answer, look, now, refer,
)


class Refusals(unittest.TestCase):
    def test_out_of_range(self):
        for call in [
            refer(TWO_62 + 1, 0), refer(TWO_64 - 1, 0),
            refer(0, -1), refer(0, -TWO_63), refer(0, TWO_62 + 1), refer(0, TWO_63 - 1),
            refer(0, 0, TWO_40 + 1), refer(0, 0, TWO_64 - 1),
        ]:
            with self.subTest(call=call):
                self.assertEqual(last_answer(begin(), call), OUT_OF_RANGE)

    def test_taken_at_the_edges(self):
        for call in [
            refer(0, 0), refer(TWO_62, 0), refer(0, TWO_62), refer(0, 0, TWO_40), refer(TWO_62, TWO_62, TWO_40),
        ]:
            with self.subTest(call=call):
                self.assertEqual(last_answer(begin(), call), TAKEN)
                c, t, u = call[1:]
                self.assertEqual(last_answer(begin(), call, look(c)), [0, t - u, t + u, t])

    def test_counter_below_the_last_seen(self):
        line = [begin(), refer(100, 1000, 5)]
        self.assertEqual(last_answer(*line, refer(99, 999, 5)), OUT_OF_TURN)
        self.assertEqual(last_answer(*line, refer(0, 900, 5)), OUT_OF_TURN)
        self.assertEqual(last_answer(*line, refer(100, 1000, 5)), TAKEN)
        self.assertEqual(last_answer(*line, now(101), refer(100, 1000, 5)), OUT_OF_TURN)

    def test_out_of_range_is_told_before_out_of_turn(self):
        line = [begin(), refer(100, 1000, 5)]
        for call in [refer(99, -1), refer(99, TWO_62 + 1), refer(99, 999, TWO_40 + 1)]:
            with self.subTest(call=call):
                self.assertEqual(last_answer(*line, call), OUT_OF_RANGE)


class Agreeing(unittest.TestCase):
    def check(self, first_calls, lowest, highest, c, u):
        """Taken from lowest to highest, doubted one beyond."""
        for t, expected in [(lowest, TAKEN), (highest, TAKEN), (lowest - 1, DOUBTED), (highest + 1, DOUBTED)]:
            with self.subTest(t=t):
                self.assertEqual(last_answer(*first_calls, refer(c, t, u)), expected)

    def test_the_first_agrees(self):
        self.assertEqual(last_answer(begin(), refer(7, 12345, 0)), TAKEN)

    def test_at_the_same_counter(self):
        self.check([begin(), refer(0, 1000, 10)], 970, 1030, c=0, u=20)
        self.check([begin(), refer(0, 1000, 10)], 990, 1010, c=0, u=0)
        self.check([begin(), refer(0, 1000, 0)], 900, 1100, c=0, u=100)

    def test_later_with_ppm(self):
        self.check([begin(1, 1, 1000), refer(0, 1000, 10)], 1989 - 20, 2011 + 20, c=1000, u=20)

    def test_least_cut_off_and_greatest_up(self):
        self.check([begin(1, 3), refer(0, 1000, 10)], 990 - 20, 1011 + 20, c=1, u=20)
        self.check([begin(2, 3), refer(0, 1000, 10)], 990 - 20, 1011 + 20, c=1, u=20)
        self.check([begin(1, 1, 1), refer(0, 1000, 10)], 990 - 20, 1012 + 20, c=1, u=20)

    def test_with_all_that_are_kept(self):
        line = [begin(), refer(0, 1000, 100), refer(1, 1101, 20), refer(2, 1002, 100)]
        self.assertEqual(answers_of(*line)[1:], [TAKEN] * 3)
        self.check(line, 1082 - 5, 1102 + 5, c=2, u=5)


class Doubting(unittest.TestCase):
    start = [begin(), refer(0, 1000, 10)]

    def answers_behind_start(self, *calls):
        return answers_of(*self.start, *calls)[2:]

    def test_three_are_believed_and_are_all_that_is_kept(self):
        found = self.answers_behind_start(
            refer(10, 5000, 5), refer(20, 5012, 5), look(20), refer(30, 5021, 6), look(30), refer(31, 1031, 10),
        )
        self.assertEqual(
            found, [DOUBTED, DOUBTED, [0, 1010, 1030, 1020], BELIEVED, [0, 5017, 5025, 1030], DOUBTED])

    def test_one_that_disagrees_with_those_doubted_is_doubted_alone(self):
        found = self.answers_behind_start(
            refer(10, 5000, 5), refer(20, 9000, 5), refer(30, 9010, 5), refer(40, 9020, 5), look(40))
        self.assertEqual(found[:4], [DOUBTED, DOUBTED, DOUBTED, BELIEVED])
        self.assertEqual(found[4][:3], [0, 9015, 9025])

    def test_those_doubted_before_are_forgotten_when_one_is_doubted_alone(self):
        found = self.answers_behind_start(
            refer(10, 5000, 5), refer(20, 9000, 5), refer(30, 5020, 5), refer(40, 5030, 5), refer(50, 5040, 5))
        self.assertEqual(found, [DOUBTED] * 4 + [BELIEVED])

    def test_two_doubted_and_one_alone(self):
        found = self.answers_behind_start(
            refer(10, 5000, 5), refer(20, 5010, 5), refer(30, 9000, 5), refer(40, 9010, 5), refer(50, 9020, 5))
        self.assertEqual(found, [DOUBTED] * 4 + [BELIEVED])

    def test_agrees_with_all_of_those_doubted_not_with_the_last_alone(self):
        found = self.answers_behind_start(
            refer(10, 5000, 5), refer(20, 5018, 5), refer(30, 5036, 5), refer(40, 5046, 5), refer(50, 5056, 5))
        self.assertEqual(found, [DOUBTED] * 4 + [BELIEVED])

    def test_edges_of_agreeing_with_those_doubted(self):
        for t, expected in [(5025 + 3, BELIEVED), (5025 + 4, DOUBTED), (5015 - 3, BELIEVED), (5015 - 4, DOUBTED)]:
            with self.subTest(t=t):
                found = self.answers_behind_start(refer(10, 5000, 5), refer(20, 5010, 9), refer(30, t, 3))
                self.assertEqual(found, [DOUBTED, DOUBTED, expected])

    def test_taken_drops_those_doubted(self):
        found = self.answers_behind_start(
            refer(10, 5000, 5), refer(20, 5010, 5), refer(21, 1021, 5),
            refer(30, 5020, 5), refer(40, 5030, 5), refer(50, 5040, 5))
        self.assertEqual(found, [DOUBTED, DOUBTED, TAKEN, DOUBTED, DOUBTED, BELIEVED])

    def test_one_that_agrees_with_both_is_taken(self):
        found = self.answers_behind_start(refer(0, 2000, 5), refer(0, 2000, 5), refer(0, 1500, 600))
        self.assertEqual(found, [DOUBTED, DOUBTED, TAKEN])

    def test_believed_drops_those_doubted(self):
        found = self.answers_behind_start(
            refer(10, 5000, 5), refer(20, 5010, 5), refer(30, 5020, 5),
            refer(40, 9000, 5), refer(50, 9010, 5), refer(60, 9020, 5), look(60))
        self.assertEqual(found[:6], [DOUBTED, DOUBTED, BELIEVED] * 2)
        self.assertEqual(found[6][:3], [0, 9015, 9025])

    def test_none_is_doubted_behind_taken_and_believed(self):
        line = [refer(0, 5000)] * 3 + [refer(0, 0), refer(0, 5000)]
        watched = [call for each in line for call in (each, count())]
        found = self.answers_behind_start(*watched)
        self.assertEqual(found[::2], [DOUBTED, DOUBTED, BELIEVED, DOUBTED, TAKEN])
        self.assertEqual([answer[4] for answer in found[1::2]], [1, 2, 0, 1, 0])

    def test_doubted_leaves_kept_and_told_as_they_are(self):
        found = self.answers_behind_start(refer(10, 5000, 5), look(10), now(20))
        self.assertEqual(found, [DOUBTED, [0, 1000, 1020, 1010], [0, 1020]])

    def test_a_doubted_counter_counts_as_seen(self):
        found = self.answers_behind_start(refer(10, 5000, 5), now(9), look(9), refer(9, 1009), now(10))
        self.assertEqual(found, [DOUBTED, OUT_OF_TURN, OUT_OF_TURN, OUT_OF_TURN, [0, 1010]])


class SixteenStay(unittest.TestCase):
    def line(self, how_many):
        offs = [0, 1] + [5] * 20
        return [begin()] + [refer(k, 1000 + k, offs[k]) for k in range(how_many)]

    def test_the_last_sixteen_stay(self):
        for how_many, off in [(15, 0), (16, 0), (17, 1), (18, 5), (19, 5)]:
            with self.subTest(how_many=how_many):
                line = self.line(how_many)
                self.assertEqual(answers_of(*line)[1:], [TAKEN] * how_many)
                self.assertEqual(last_answer(*line, look(100)), [0, 1100 - off, 1100 + off, 1100])

    def test_agreeing_is_with_the_sixteen(self):
        for how_many, expected in [(16, DOUBTED), (17, DOUBTED), (18, TAKEN)]:
            with self.subTest(how_many=how_many):
                self.assertEqual(last_answer(*self.line(how_many), refer(50, 1053, 1)), expected)

    def test_the_base_is_the_rate_of_those_that_stay(self):
        million = 10 ** 6
        line = [begin(1, 1, 10000), refer(0, million)]
        line += [refer(million * k, million + million * k + 100 * (k - 1)) for k in range(1, 17)]
        far = 10 ** 12
        sixteen = answers_of(*line[:-1], now(far), now(far + 10 ** 10))
        seventeen = answers_of(*line, now(far), now(far + 10 ** 10))
        self.assertEqual(seventeen[1:-2], [TAKEN] * 17)
        # 1400 in 15 seconds are 93333.3 parts in 10^9, 1500 in 15 seconds 100000.
        self.assertEqual(sixteen[-1][1] - sixteen[-2][1], 10 ** 10 + 933330)
        self.assertEqual(seventeen[-1][1] - seventeen[-2][1], 10 ** 10 + 1000000)

    def test_the_middle_is_by_those_that_stay(self):
        line = [begin(), refer(0, 1000, 10)] + [refer(0, 1016, 10)] * 15
        # Sixteen are between 1006 and 1010; the seventeenth drops the first: between 1006 and 1026.
        far = 128 * 10 ** 6
        self.assertEqual(last_answer(*line, now(far)), [0, far + 1008])
        self.assertEqual(last_answer(*line, refer(0, 1016, 10), now(far)), [0, far + 1016])


if __name__ == "__main__":
    unittest.main()
