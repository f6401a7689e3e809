import unittest

from tests.helper import (
    BELIEVED, BILLION, DOUBTED, NOTHING_THERE, TAKEN, TWO_40, TWO_62,
    answers_of, begin, last_answer, look, now, rate, refer, told,
)

MILLION = 10 ** 6


class NothingKept(unittest.TestCase):
    def test_it_is_refused(self):
        self.assertEqual(last_answer(begin(1, 1, 100), rate()), NOTHING_THERE)
        self.assertEqual(last_answer(begin(), refer(0, 5), begin(), rate()), NOTHING_THERE)

    def test_also_behind_refused_references(self):
        self.assertEqual(last_answer(begin(), refer(0, -1), refer(TWO_62 + 1, 5), now(5), rate()), NOTHING_THERE)


class AtOneCounter(unittest.TestCase):
    def test_one_reference(self):
        for ppm in [0, 1, 100, 10000]:
            with self.subTest(ppm=ppm):
                found = last_answer(begin(3, 7, ppm), refer(5, 1000, 10), rate())
                self.assertEqual(found, [0, -1000 * ppm, 1000 * ppm, 0])

    def test_first_and_last_at_the_same_counter(self):
        line = [begin(1, 1, 100), refer(5, 1000, 10), refer(5, 1003, 10), refer(5, 1001, 1)]
        self.assertEqual(answers_of(*line)[1:], [TAKEN] * 3)
        self.assertEqual(last_answer(*line, rate()), [0, -100000, 100000, 0])

    def test_one_counter_on_they_differ(self):
        line = [begin(1, 1, 100), refer(5, 1000, 0), refer(5, 1000, 0), refer(6, 1001, 0)]
        self.assertEqual(last_answer(*line, rate()), [0, 0, 0, 0])


class BetweenTwoCounters(unittest.TestCase):
    def rates(self, t, u=0, first_u=0, ppm=10000, c=MILLION):
        """By one at 0 and one c ticks of a microsecond later, at which t microseconds have passed."""
        line = [begin(1, 1, ppm), refer(0, MILLION, first_u), refer(c, MILLION + t, u)]
        self.assertEqual(answers_of(*line)[1:], [TAKEN, TAKEN])
        return last_answer(*line, rate())

    def test_such_that_arent_cut(self):
        self.assertEqual(self.rates(MILLION + 100), [0, 100000, 100000, 100000])
        self.assertEqual(self.rates(MILLION - 100), [0, -100000, -100000, -100000])
        self.assertEqual(self.rates(MILLION + 100, 20, 10), [0, 70000, 130000, 100000])
        self.assertEqual(self.rates(MILLION - 100, 20, 10), [0, -130000, -70000, -100000])
        self.assertEqual(self.rates(MILLION, 3), [0, -3000, 3000, 0])
        self.assertEqual(self.rates(MILLION, 0, 3), [0, -3000, 3000, 0])

    def test_least_cut_off_and_greatest_up(self):
        c = 3 * MILLION
        self.assertEqual(self.rates(c + 1, c=c), [0, 333, 334, 333])
        self.assertEqual(self.rates(c + 2, c=c), [0, 666, 667, 666])
        self.assertEqual(self.rates(c, 1, c=c), [0, -334, 334, 0])
        self.assertEqual(self.rates(c + 3, c=c), [0, 1000, 1000, 1000])

    def test_odd_sums_below_nothing(self):
        c = 3 * MILLION
        self.assertEqual(self.rates(c - 1, c=c), [0, -334, -333, -334])
        self.assertEqual(self.rates(c - 2, c=c), [0, -667, -666, -667])
        # Half a part in 10^9 more or less.
        c = 2 * BILLION
        self.assertEqual(self.rates(c - 1, c=c), [0, -1, 0, -1])
        self.assertEqual(self.rates(c + 1, c=c), [0, 0, 1, 0])

    def test_at_and_beyond_the_bounds(self):
        self.assertEqual(self.rates(MILLION + 100, ppm=100), [0, 100000, 100000, 100000])
        self.assertEqual(self.rates(MILLION - 100, ppm=100), [0, -100000, -100000, -100000])
        for t, u, found in [
            (98, 2, [96000, 100000, 98000]), (98, 3, [95000, 100000, 97500]),
            (-98, 2, [-100000, -96000, -98000]), (-98, 3, [-100000, -95000, -97500]),
            (99, 1, [98000, 100000, 99000]), (0, 100, [-100000, 100000, 0]), (0, 101, [-100000, 100000, 0]),
        ]:
            with self.subTest(t=t, u=u):
                self.assertEqual(self.rates(MILLION + t, u, ppm=100), [0] + found)

    def test_one_part_within_the_bounds(self):
        # A billion ticks, so that a microsecond is one part in 10^9.
        for t, u, found in [
            (99998, 1, [99997, 99999, 99998]), (99999, 1, [99998, 100000, 99999]), (99999, 2, [99997, 100000, 99998]),
            (-99998, 1, [-99999, -99997, -99998]), (-99999, 1, [-100000, -99998, -99999]),
            (-99999, 2, [-100000, -99997, -99999]),
        ]:
            with self.subTest(t=t, u=u):
                self.assertEqual(self.rates(BILLION + t, u, ppm=100, c=BILLION), [0] + found)

    def test_both_cut_to_the_same_bound(self):
        for t, bound in [(1001, 100000), (1000, -100000)]:
            with self.subTest(t=t):
                line = [begin(1, 2, 100), refer(0, 1000), refer(1, t)]
                self.assertEqual(answers_of(*line)[1:], [TAKEN, TAKEN])
                self.assertEqual(last_answer(*line, rate()), [0, bound, bound, bound])

    def test_without_ppm_all_is_nothing(self):
        self.assertEqual(self.rates(MILLION + 100, 1000, ppm=0), [0, 0, 0, 0])

    def test_a_long_tick(self):
        for t in [-1, 0, 1]:
            with self.subTest(t=t):
                line = [begin(BILLION, 1, 1), refer(0, MILLION, 1), refer(1, MILLION + BILLION + t, 0), rate()]
                self.assertEqual(last_answer(*line), [0, t - 1, t + 1, t])

    def test_with_num_and_den(self):
        # In 7000 ticks of 3 / 7 microseconds 3003 have passed: 1000 parts in a million more; a microsecond is
        # 333333.3 parts in 10^9.
        line = [begin(3, 7, 10000), refer(0, MILLION), refer(7000, MILLION + 3003, 1), rate()]
        self.assertEqual(last_answer(*line), [0, 666666, 1333334, 1000000])

    def test_at_the_edges_of_the_numbers(self):
        line = [begin(1, 1, 10000), refer(0, 0, TWO_40), refer(TWO_62, TWO_62, TWO_40)]
        self.assertEqual(answers_of(*line)[1:], [TAKEN, TAKEN])
        # 2^41 in 2^62 ticks are 476.8 parts in 10^9.
        self.assertEqual(last_answer(*line, rate()), [0, -477, 477, 0])


class ByWhichReferences(unittest.TestCase):
    def test_by_the_first_and_the_last(self):
        line = [begin(1, 1, 10000), refer(0, MILLION)]
        line += [refer(MILLION, 2 * MILLION + 5000), refer(2 * MILLION, 3 * MILLION + 400), rate()]
        self.assertEqual(last_answer(*line), [0, 200000, 200000, 200000])

    def test_by_the_first_of_the_sixteen_that_stay(self):
        line = [begin(1, 1, 10000), refer(0, MILLION)]
        line += [refer(MILLION * k, MILLION + MILLION * k + 100 * (k - 1)) for k in range(1, 17)]
        self.assertEqual(last_answer(*line[:-1], rate()), [0, 93333, 93334, 93333])
        self.assertEqual(last_answer(*line, rate()), [0, 100000, 100000, 100000])

    def test_doubted_ones_dont_count_till_they_are_believed(self):
        line = [begin(1, 1, 10000), refer(0, MILLION)]
        line += [refer(MILLION * k, 5 * MILLION + MILLION * k + 300 * k) for k in range(1, 4)]
        self.assertEqual(answers_of(*line)[1:], [TAKEN, DOUBTED, DOUBTED, BELIEVED])
        self.assertEqual(last_answer(*line[:-1], rate()), [0, -10 ** 7, 10 ** 7, 0])
        self.assertEqual(last_answer(*line, rate()), [0, 300000, 300000, 300000])

    def test_it_is_the_base_of_the_told_time(self):
        line = [begin(1, 1, 10000), refer(0, MILLION, 7), refer(3 * MILLION, 4 * MILLION - 31, 5)]
        far = 10 ** 13
        found = told(*line, now(far), now(far + BILLION))
        self.assertEqual(last_answer(*line, rate())[3], found[1] - found[0] - BILLION)

    def test_it_changes_nothing(self):
        line = [begin(1, 1, 100), refer(0, MILLION, 10), rate(), rate(), look(5), refer(0, MILLION, 5), rate()]
        self.assertEqual(answers_of(*line)[2:], [
            [0, -100000, 100000, 0], [0, -100000, 100000, 0], [0, MILLION - 6, MILLION + 16, MILLION + 5], TAKEN,
            [0, -100000, 100000, 0]])


if __name__ == "__main__":
    unittest.main()
