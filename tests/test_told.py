import unittest

from tests.helper import BELIEVED, TAKEN, answers_of, begin, last_answer, look, now, refer, told

SPAN = 64 * 10 ** 6
WIDE = 10 ** 9


class AtFirst(unittest.TestCase):
    def test_goes_from_the_first_reference_on(self):
        line = [begin(3, 2), refer(10, 100, 7)]
        self.assertEqual(told(*line, now(10), now(11), now(12), now(13)), [100, 101, 103, 104])

    def test_base_is_nothing_by_one_reference(self):
        far = 10 ** 15
        self.assertEqual(told(begin(1, 1, 10000), refer(0, 100, 7), now(far)), [100 + far])

    def test_nothing_more_at_first(self):
        self.assertEqual(told(begin(), refer(5, 10 ** 9), now(5), now(5 + SPAN)), [10 ** 9, 10 ** 9 + SPAN])


class BroughtNearer(unittest.TestCase):
    def off_by(self, off):
        """At 100 the told time is 1100 + 10^6 and the reference says off more; the tick is one microsecond."""
        return [begin(), refer(0, 1000 + 10 ** 6, WIDE), refer(100, 1100 + 10 ** 6 + off, 0)]

    def gained(self, off, c):
        """How much more has been told at c than the ticks alone would tell."""
        return told(*self.off_by(off), now(c))[0] - 1000 - 10 ** 6 - c

    def test_doesnt_jump(self):
        for off in [-10 ** 6, -1, 0, 1, 10 ** 6]:
            with self.subTest(off=off):
                self.assertEqual(answers_of(*self.off_by(off))[1:], [TAKEN, TAKEN])
                self.assertEqual(self.gained(off, 100), 0)

    def test_before_at_and_behind_its_till(self):
        till = 100 + SPAN
        for off in [128, -128]:
            for c, gained in [
                (100 + SPAN // 4, off // 4), (100 + SPAN // 2, off // 2), (till, off),
                (till + 1, off), (till + SPAN, off), (till + 10 ** 15, off),
            ]:
                with self.subTest(off=off, c=c):
                    self.assertEqual(self.gained(off, c), gained)
        # 499999 ticks of 2000 parts in 10^9 are not yet a microsecond.
        self.assertEqual(self.gained(128, 100 + 499999), 0)
        self.assertEqual(self.gained(128, 100 + 500000), 1)
        self.assertEqual(self.gained(128, till - 1), 127)
        self.assertEqual(self.gained(-128, 100 + 1), -1)
        self.assertEqual(self.gained(-128, 100 + 500000), -1)
        self.assertEqual(self.gained(-128, 100 + 500001), -2)

    def test_more_is_cut_off_downward(self):
        # 15.625 is cut off to 15: 0.96 microseconds are gained; -15.625 to -16: 1.024 are lost.
        self.assertEqual(self.gained(1, 100 + SPAN), 0)
        self.assertEqual(self.gained(-1, 100 + SPAN), -2)
        self.assertEqual(self.gained(8, 100 + SPAN), 8)
        self.assertEqual(self.gained(-8, 100 + SPAN), -8)

    def test_more_within_its_bounds(self):
        self.assertEqual(self.gained(31872, 100 + SPAN), 31872)
        self.assertEqual(self.gained(-31872, 100 + SPAN), -31872)
        self.assertEqual(self.gained(31999, 100 + SPAN), 31998)
        self.assertEqual(self.gained(-31900, 100 + SPAN), -31901)

    def test_more_at_both_of_its_bounds(self):
        for off in [32000, 32001, 32008, 40000, 10 ** 6]:
            for sign in [1, -1]:
                with self.subTest(off=off, sign=sign):
                    self.assertEqual(self.gained(sign * off, 100 + 2000), sign)
                    self.assertEqual(self.gained(sign * off, 100 + SPAN), sign * 32000)
                    self.assertEqual(self.gained(sign * off, 100 + 2 * SPAN), sign * 32000)

    def test_till_is_up(self):
        # A tick of 10^9 microseconds: the till is one tick on, 500000 microseconds are gained in it.
        line = [begin(10 ** 9), refer(0, 10 ** 6, WIDE), refer(0, 10 ** 6 + 10 ** 6, 0)]
        found = told(*line, now(0), now(1), now(2), now(9))
        self.assertEqual([value - 10 ** 9 * c for value, c in zip(found, [0, 1, 2, 9])], [10 ** 6] + [1500000] * 3)

    def test_till_of_a_whole_quotient(self):
        line = [begin(SPAN), refer(0, 10 ** 6, WIDE), refer(0, 10 ** 6 + 10 ** 6, 0)]
        found = told(*line, now(0), now(1), now(2), now(9))
        self.assertEqual([value - SPAN * c for value, c in zip(found, [0, 1, 2, 9])], [10 ** 6] + [1032000] * 3)

    def test_till_with_num_and_den(self):
        # 64000000 / 3 is up 21333334: 32000.001 microseconds are gained.
        line = [begin(3), refer(0, 10 ** 6, WIDE), refer(0, 2 * 10 ** 6, 0)]
        till = 21333334
        found = told(*line, now(till - 1), now(till), now(till + 1))
        self.assertEqual([value - 10 ** 6 for value in found], [63999999 + 31999, 64000002 + 32000, 64000005 + 32000])
        # 64000000 7 / 3 is up 149333334.
        line = [begin(3, 7), refer(0, 10 ** 6, WIDE), refer(0, 10 ** 6 + 128, 0)]
        self.assertEqual(told(*line, now(7 * 10 ** 9)), [10 ** 6 + 3 * 10 ** 9 + 128])
        self.assertEqual(told(*line, now(149333331 // 2 + 2)), [10 ** 6 + 32000000 + 64])

    def test_again_before_its_till(self):
        half = SPAN // 2
        t = 10 ** 6
        line = [begin(), refer(0, t, WIDE), refer(0, t + 128, 1000), refer(half, t + half + 96, 9)]
        self.assertEqual(answers_of(*line)[1:], [TAKEN] * 3)
        # 64 of the 128 are gained; from there on 32 in another 64 seconds.
        found = told(*line, now(half), now(2 * half), now(3 * half), now(6 * half))
        self.assertEqual(found, [t + half + 64, t + 2 * half + 80, t + 3 * half + 96, t + 6 * half + 96])

    def test_again_behind_its_till(self):
        line = [begin(), refer(0, 10 ** 6, WIDE), refer(0, 10 ** 6 + 128, 1000), refer(SPAN * 2, 10 ** 6 + SPAN * 2, 9)]
        found = told(*line, now(SPAN * 2), now(SPAN * 3), now(SPAN * 4))
        self.assertEqual(found, [10 ** 6 + SPAN * 2 + 128, 10 ** 6 + SPAN * 3, 10 ** 6 + SPAN * 4])

    def test_believed_brings_nearer_too(self):
        line = [begin(), refer(0, 10 ** 6, 0)] + [refer(0, 10 ** 6 + 128, 0)] * 3
        self.assertEqual(answers_of(*line)[-1], BELIEVED)
        found = told(*line, now(0), now(SPAN), now(SPAN * 2))
        self.assertEqual(found, [10 ** 6, 10 ** 6 + SPAN + 128, 10 ** 6 + SPAN * 2 + 128])

    def test_it_isnt_rounded_when_it_is_kept(self):
        line = [begin(1, 2), refer(0, 1000, 5), refer(1, 1000, 5)]
        self.assertEqual(told(*line, now(1), now(2)), [1000, 1001])
        # A third of a microsecond a tick: brought nearer at each of them, by nothing.
        line = [begin(1, 3)] + [refer(c, 1000 + c // 3, 5) for c in range(6)]
        self.assertEqual(answers_of(*line)[1:], [TAKEN] * 6)
        self.assertEqual(told(*line, now(5), now(6)), [1001, 1002])

    def test_more_is_from_what_is_told_cut_off(self):
        # At 1 it is 1000.5, told 1000; so nothing is missing, and nothing is lost in 64 seconds.
        line = [begin(1, 2), refer(0, 1000, 5), refer(1, 1000, 5)]
        self.assertEqual(told(*line, now(1 + 2 * SPAN)), [1000 + SPAN])

    def test_the_middle_is_cut_off(self):
        # At 1 the time is between 995 and 1006: the middle is 1000, and nothing is missing.
        line = [begin(1, 2), refer(0, 1000, 5), refer(1, 1001, 6)]
        self.assertEqual(last_answer(*line, look(1)), [0, 995, 1006, 1000])
        self.assertEqual(told(*line, now(1 + 2 * SPAN)), [1000 + SPAN])


class Base(unittest.TestCase):
    def base(self, *line):
        """Parts in 10^9, from two told times far behind every till, 10^9 ticks of a microsecond apart."""
        far = 10 ** 13
        found = told(*line, now(far), now(far + 10 ** 9))
        return found[1] - found[0] - 10 ** 9

    def by_two(self, t, u, first_u=0, ppm=10000, c=10 ** 6):
        line = [begin(1, 1, ppm), refer(0, 10 ** 6, first_u), refer(c, 10 ** 6 + t, u)]
        self.assertEqual(answers_of(*line)[1:], [TAKEN, TAKEN])
        return self.base(*line)

    def test_by_exact_references(self):
        self.assertEqual(self.by_two(10 ** 6 + 100, 0), 100000)
        self.assertEqual(self.by_two(10 ** 6 - 100, 0), -100000)

    def test_by_both_offs(self):
        self.assertEqual(self.by_two(10 ** 6 + 100, 20, 10), 100000)
        # The bounds are 1000 parts in a million; only one of the rates is cut to them.
        self.assertEqual(self.by_two(10 ** 6 + 500, 300, 400, 1000), (-200000 + 1000000) // 2)
        self.assertEqual(self.by_two(10 ** 6 + 500, 700, 0, 1000), (-200000 + 1000000) // 2)
        self.assertEqual(self.by_two(10 ** 6 + 500, 0, 700, 1000), (-200000 + 1000000) // 2)

    def test_least_rate_is_cut_off(self):
        self.assertEqual(self.by_two(3 * 10 ** 6 + 1, 0, c=3 * 10 ** 6), 333)

    def test_greatest_rate_is_up(self):
        self.assertEqual(self.by_two(3 * 10 ** 6, 1, c=3 * 10 ** 6), 0)

    def test_the_rate_is_cut_off_downward(self):
        self.assertEqual(self.by_two(3 * 10 ** 6 - 1, 0, c=3 * 10 ** 6), -334)

    def test_each_is_cut_to_its_bounds(self):
        self.assertEqual(self.by_two(10 ** 6 + 100, 0, ppm=100), 100000)
        self.assertEqual(self.by_two(10 ** 6 + 100, 50, ppm=100), 75000)
        self.assertEqual(self.by_two(10 ** 6 - 100, 50, ppm=100), -75000)
        self.assertEqual(self.by_two(10 ** 6 + 100, 1000, ppm=100), 0)
        self.assertEqual(self.by_two(10 ** 6 + 100, 1000, ppm=0), 0)

    def test_both_are_cut_to_the_same_bound(self):
        for t, base in [(1001, 100000), (1000, -100000)]:
            with self.subTest(t=t):
                far = 10 ** 13
                line = [begin(1, 2, 100), refer(0, 1000), refer(1, t)]
                self.assertEqual(answers_of(*line)[1:], [TAKEN, TAKEN])
                found = told(*line, now(far), now(far + 2 * 10 ** 9))
                self.assertEqual(found[1] - found[0], 10 ** 9 + base)

    def test_at_one_counter_it_is_nothing(self):
        line = [begin(1, 1, 10000), refer(5, 10 ** 6, 100), refer(5, 10 ** 6 + 50, 70)]
        self.assertEqual(self.base(*line), 0)

    def test_by_the_first_and_the_last(self):
        million = 10 ** 6
        line = [begin(1, 1, 10000), refer(0, million)]
        line += [refer(million, 2 * million + 5000), refer(2 * million, 3 * million + 400)]
        self.assertEqual(answers_of(*line)[1:], [TAKEN] * 3)
        self.assertEqual(self.base(*line), 200000)

    def test_by_the_three_that_are_believed(self):
        million = 10 ** 6
        line = [begin(1, 1, 10000), refer(0, million)]
        line += [refer(million * k, 5 * million + million * k + 300 * k) for k in range(1, 4)]
        self.assertEqual(answers_of(*line)[1:], [TAKEN, [1], [1], BELIEVED])
        self.assertEqual(self.base(*line), 300000)

    def test_with_num_and_den(self):
        # In 7000 ticks of 3 / 7 microseconds 3003 have passed: 1000 parts in a million more.
        line = [begin(3, 7, 10000), refer(0, 10 ** 6), refer(7000, 10 ** 6 + 3003)]
        self.assertEqual(answers_of(*line)[1:], [TAKEN, TAKEN])
        far = 10 ** 13
        found = told(*line, now(far), now(far + 7 * 10 ** 6))
        self.assertEqual(found[1] - found[0], 3 * 10 ** 6 + 3000)

    def test_base_holds_beside_more(self):
        # Base 100000 and more 2000 up to the till, then the base alone.
        line = [begin(1, 1, 10000), refer(0, 10 ** 6, 0), refer(10 ** 6, 2 * 10 ** 6 + 100, 0)]
        # Told is 2 10^6 at 10^6, 100 are missing: more is 1562.
        found = told(*line, now(10 ** 6), now(10 ** 6 + SPAN), now(10 ** 6 + SPAN + 10 ** 7))
        gained = SPAN * (100000 + 1562) // 10 ** 9
        self.assertEqual(found[:2], [2 * 10 ** 6, 2 * 10 ** 6 + SPAN + gained])
        self.assertEqual(found[2], 2 * 10 ** 6 + SPAN + gained + 10 ** 7 + 1000)


if __name__ == "__main__":
    unittest.main()
