import unittest

from tests.helper import (
    BILLION, DOUBTED, NOTHING_THERE, OUT_OF_RANGE, OUT_OF_TURN, TAKEN, TWO_62, TWO_63,
    answers_of, begin, count, last_answer, look, now, refer, refs, when,
)

SPAN = 64 * 10 ** 6
WIDE = 10 ** 9
MILLION = 10 ** 6


class Refusals(unittest.TestCase):
    def test_out_of_range(self):
        for t in [-1, -TWO_63, TWO_62 + 1, TWO_63 - 1]:
            with self.subTest(t=t):
                self.assertEqual(last_answer(begin(), refer(0, 5), when(t)), OUT_OF_RANGE)

    def test_out_of_range_is_told_before_nothing_there(self):
        for t in [-1, TWO_62 + 1]:
            with self.subTest(t=t):
                self.assertEqual(last_answer(begin(), when(t)), OUT_OF_RANGE)

    def test_no_told_time(self):
        for t in [0, 5, TWO_62]:
            with self.subTest(t=t):
                self.assertEqual(last_answer(begin(), when(t)), NOTHING_THERE)
                self.assertEqual(last_answer(begin(), refer(0, 5), begin(), when(t)), NOTHING_THERE)

    def test_at_its_edges(self):
        line = [begin(), refer(7, 5)]
        self.assertEqual(last_answer(*line, when(0)), [0, 7])
        self.assertEqual(last_answer(*line, when(TWO_62)), [0, TWO_62 + 2])


class AlreadyTold(unittest.TestCase):
    def test_at_the_counter_of_the_first_reference(self):
        line = [begin(), refer(100, 1000, 5)]
        for t, c in [(0, 100), (999, 100), (1000, 100), (1001, 101), (1002, 102)]:
            with self.subTest(t=t):
                self.assertEqual(last_answer(*line, when(t)), [0, c])

    def test_from_the_last_counter_seen_on(self):
        line = [begin(), refer(100, 1000, 5), now(150)]
        for t, c in [(0, 150), (1000, 150), (1049, 150), (1050, 150), (1051, 151)]:
            with self.subTest(t=t):
                self.assertEqual(last_answer(*line, when(t)), [0, c])

    def test_a_doubted_counter_is_seen(self):
        line = [begin(), refer(100, 1000, 5), refer(150, 9000, 5)]
        self.assertEqual(answers_of(*line, when(1020), when(1060))[2:], [DOUBTED, [0, 150], [0, 160]])

    def test_a_counter_that_is_looked_at_or_refused_isnt_seen(self):
        line = [begin(), refer(100, 1000, 5), look(150), now(TWO_62 + 1), refer(150, -1), when(1020)]
        self.assertEqual(last_answer(*line), [0, 120])

    def test_seen_behind_the_till(self):
        line = [begin(), refer(0, MILLION, WIDE), refer(0, MILLION + 128, 9), now(2 * SPAN)]
        at = MILLION + 2 * SPAN + 128
        self.assertEqual(answers_of(*line, when(5), when(MILLION + SPAN), when(at), when(at + 1))[3:], [
            [0, at], [0, 2 * SPAN], [0, 2 * SPAN], [0, 2 * SPAN], [0, 2 * SPAN + 1]])

    def test_a_reference_behind_doesnt_set_it_back(self):
        # The told time is far ahead of the reference, and never goes back.
        line = [begin(), refer(0, 10 * MILLION, WIDE), refer(0, 5 * MILLION, 0), when(5 * MILLION), when(10 * MILLION)]
        self.assertEqual(answers_of(*line)[2:], [TAKEN, [0, 0], [0, 0]])


class BroughtNearer(unittest.TestCase):
    start = MILLION + 1100
    till = 100 + SPAN

    def line(self, off):
        """At 100 the told time is start, and off is missing; the tick is one microsecond, up to the till it gains."""
        return [begin(), refer(0, MILLION + 1000, WIDE), refer(100, self.start + off, 0)]

    def check(self, off, found):
        for passed, c in found:
            with self.subTest(off=off, passed=passed):
                self.assertEqual(last_answer(*self.line(off), when(self.start + passed)), [0, c])

    def test_before_the_till(self):
        # A tick is 1.000002 microseconds, told.
        self.check(128, [(0, 100), (1, 101), (500000, 500100), (500001, 500100), (500002, 500101)])
        # A tick is 0.999998 microseconds, told.
        self.check(-128, [(0, 100), (1, 102), (2, 103), (499999, 500100), (500000, 500102)])

    def test_at_and_behind_the_till(self):
        self.check(128, [
            (SPAN + 126, self.till - 1), (SPAN + 127, self.till), (SPAN + 128, self.till),
            (SPAN + 129, self.till + 1), (SPAN + 128 + BILLION, self.till + BILLION)])
        self.check(-128, [
            (SPAN - 130, self.till - 2), (SPAN - 129, self.till - 1), (SPAN - 128, self.till),
            (SPAN - 127, self.till + 1), (SPAN - 128 + BILLION, self.till + BILLION)])

    def test_at_the_most_and_the_least(self):
        # 500000 parts in 10^9 more or less: 32000 microseconds up to the till.
        for sign in [1, -1]:
            self.check(sign * MILLION, [
                (SPAN + sign * 32000, self.till), (SPAN + sign * 32000 + 1, self.till + 1),
                (MILLION + sign * 500, 100 + MILLION)])

    def test_a_long_tick(self):
        # A tick of 10^9 microseconds: the till is one tick on, 500000 microseconds are gained in it.
        line = [begin(BILLION), refer(0, MILLION, WIDE), refer(0, 2 * MILLION, 0)]
        for passed, c in [
            (0, 0), (1, 1), (BILLION + 500000, 1), (BILLION + 500001, 2),
            (2 * BILLION + 500000, 2), (2 * BILLION + 500001, 3),
        ]:
            with self.subTest(passed=passed):
                self.assertEqual(last_answer(*line, when(MILLION + passed)), [0, c])

    def test_what_isnt_rounded_counts(self):
        # At 1 the told time is 1000.5 and is kept so: at 2 it is 1001.
        line = [begin(1, 2), refer(0, 1000, 5), refer(1, 1000, 5)]
        self.assertEqual(answers_of(*line, when(1000), when(1001), when(1002))[3:], [[0, 1], [0, 2], [0, 4]])
        line = [begin(1, 3)] + [refer(c, 1000 + c // 3, 5) for c in range(6)]
        self.assertEqual(answers_of(*line, when(1001), when(1002), when(1003))[7:], [[0, 5], [0, 6], [0, 9]])

    def test_if_nothing_else_comes(self):
        # The second one shows that 5 are missing, of which 4.992 are gained up to the till.
        line = [begin(), refer(0, 1000, 10), when(1000 + SPAN), refer(0, 1010, 10), when(1000 + SPAN)]
        self.assertEqual(answers_of(*line)[2:], [[0, SPAN], TAKEN, [0, SPAN - 4]])


class Base(unittest.TestCase):
    def test_the_base_holds_before_and_behind_the_till(self):
        line = [begin(1, 1, 10000), refer(0, MILLION, 0), refer(MILLION, 2 * MILLION + 100, 0)]
        # At 10^6 2 10^6 are told, base is 100000, more 1562: 6499.968 more are told at the till.
        till = MILLION + SPAN
        at_till = 2 * MILLION + SPAN + 6499
        self.assertEqual(
            answers_of(*line, when(at_till), when(at_till + 1), when(at_till + 2))[3:],
            [[0, till], [0, till + 1], [0, till + 2]])
        # 0.968 are over at the till; with 10^9 more ticks 100000 more.
        late = at_till + BILLION + 100000
        self.assertEqual(
            answers_of(*line, when(late), when(late + 1), when(late + 2))[3:],
            [[0, till + BILLION], [0, till + BILLION + 1], [0, till + BILLION + 2]])

    def test_the_slowest(self):
        # The base is -10^7, more is -16: 73360098.976 are told at the till, behind that 0.99 a tick.
        line = [begin(1, 1, 10000), refer(0, 10 * MILLION, 0), refer(100, 10 * MILLION + 98, 1)]
        self.assertEqual(answers_of(*line)[1:], [TAKEN, TAKEN])
        late = 100 + SPAN - (73360098976 - 1000 * TWO_62) // 990
        self.assertEqual(last_answer(*line, when(TWO_62)), [0, late])

    def test_a_counter_beyond_the_greatest(self):
        line = [begin(1, BILLION), refer(0, 0), when(TWO_62), when(1), when(0)]
        self.assertEqual(answers_of(*line)[2:], [[0, TWO_62 * BILLION], [0, BILLION], [0, 0]])
        line = [begin(), refer(TWO_62, 0), when(TWO_62)]
        self.assertEqual(last_answer(*line), [0, 2 * TWO_62])


class OneCounterLess(unittest.TestCase):
    lines = [
        [begin(), refer(5, 1000, 5)],
        [begin(7, 3, 100), refer(5, 1000, 5), now(8)],
        [begin(3, 7, 10000), refer(0, MILLION, MILLION), refer(5, MILLION + 999, 100)],
        [begin(3, 7, 10000), refer(0, MILLION, MILLION), refer(5, MILLION - 999, 100), now(7)],
        [begin(999983, 1000, 50), refer(0, MILLION, MILLION), refer(9, MILLION + 77777, 10)],
        [begin(BILLION, 7, 10000), refer(0, MILLION, WIDE), refer(1, 150 * MILLION, 10)],
    ]

    def test_tells_too_little(self):
        for line in self.lines:
            seen = last_answer(*line, count())[5]
            start = last_answer(*line, look(seen))[3]
            for passed in [0, 1, 2, 3, 1000, 31999999, SPAN - 3000, SPAN, SPAN + 3000, 2 * SPAN, 10 ** 12, 10 ** 15]:
                with self.subTest(line=line, passed=passed):
                    c = last_answer(*line, when(start + passed))[1]
                    self.assertGreaterEqual(c, seen)
                    self.assertGreaterEqual(last_answer(*line, look(c))[3], start + passed)
                    if c > seen:
                        self.assertLess(last_answer(*line, look(c - 1))[3], start + passed)

    def test_it_changes_nothing(self):
        for line in self.lines:
            rest = [count(), refs(), now(20), look(21), refer(22, 5, 5), count()]
            with self.subTest(line=line):
                plain = answers_of(*line, *rest)
                found = answers_of(*line, when(TWO_62), when(0), *rest)
                self.assertEqual(found[:len(line)] + found[len(line) + 2:], plain)

    def test_it_isnt_seen(self):
        line = [begin(), refer(5, 1000), when(2000), now(6), refer(5, 1000)]
        self.assertEqual(answers_of(*line)[2:], [[0, 1005], [0, 1001], OUT_OF_TURN])


if __name__ == "__main__":
    unittest.main()
