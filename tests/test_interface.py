import unittest

import stationclock.clock
from tests.helper import begin, count, look, now, one_list, rate, refer, refs, when

LINE = [
    begin(3, 2, 100), refer(10, 1000, 10), now(11), look(12), begin(0), now(3), refer(12, 7000, 0),
    refer(13, 7001, 1), count(), refer(13, 7002, 2), look(20), rate(), when(1010), refs(), count(),
    begin(), now(0), look(0), rate(), when(5), when(-1), refs(), count(),
    refer(0, -1), refer(1, 5, 2), look(2), refs(),
]
ANSWERED = [
    1, 0, 1, 0, 2, 0, 1001, 4, 0, 992, 1014, 1003, 1, -1, 1, -4, 1, 1,
    1, 1, 6, 0, 1, 2, 0, 2, 13, 1, 2, 4, 0, 7011, 7013, 1015,
    4, 0, -100000, 100000, 0, 2, 0, 17, 10, 3, 12, 7000, 0, 13, 7001, 1, 13, 7002, 2, 6, 0, 1, 2, 1, 0, 13,
    1, 0, 1, -2, 1, -2, 1, -2, 1, -2, 1, -1, 1, 0, 6, 0, 0, 0, 0, 0, 0,
    1, -1, 1, 0, 4, 0, 4, 8, 6, 4, 1, 1, 5, 2,
]


class Interface(unittest.TestCase):
    def test_layout_over_several_calls(self):
        self.assertEqual(stationclock.clock.answers(one_list(LINE)), ANSWERED)

    def test_a_line_of_one_call(self):
        self.assertEqual(stationclock.clock.answers([0, 1, 1, 0]), [1, 0])

    def test_answers_are_plain_whole_numbers_in_a_list(self):
        found = stationclock.clock.answers(one_list(LINE))
        self.assertIs(type(found), list)
        for number in found:
            self.assertIs(type(number), int)

    def test_what_is_handed_in_is_not_changed(self):
        calls = one_list(LINE)
        same = list(calls)
        found = stationclock.clock.answers(calls)
        self.assertEqual(calls, same)
        self.assertIsNot(found, calls)

    def test_not_changed_for_a_while_either(self):
        class Watched(list):
            def refuse(self, *args):
                raise AssertionError("changed")

            append = extend = insert = pop = remove = clear = sort = reverse = refuse
            __setitem__ = __delitem__ = __iadd__ = __imul__ = refuse

        self.assertEqual(stationclock.clock.answers(Watched(one_list(LINE))), ANSWERED)

    def test_nothing_is_kept_from_one_time_to_the_next(self):
        calls = one_list(LINE)
        first = stationclock.clock.answers(calls)
        same = list(first)
        stationclock.clock.answers([0, 1, 1, 0, 1, 10 ** 9, 5, 5])
        second = stationclock.clock.answers(calls)
        self.assertEqual(second, same)
        self.assertEqual(first, same)
        self.assertIsNot(first, second)
        self.assertEqual(stationclock.clock.answers([2, 0]), [1, -4])

    def test_a_line_of_two_thousand_calls(self):
        line = [begin(7, 3, 10000)] + [refer(k, 10 ** 6 + 7 * k // 3, 10) for k in range(1, 2000)]
        self.assertEqual(stationclock.clock.answers(one_list(line)), [1, 0] * 2000)

    def test_two_thousand_calls_that_answer_much(self):
        line = [begin()] + [refer(k, 1000 + k, 1) for k in range(16)] + [refs()] * 1983
        kept = [number for k in range(16) for number in (k, 1000 + k, 1)]
        self.assertEqual(stationclock.clock.answers(one_list(line)), [1, 0] * 17 + ([49, 16] + kept) * 1983)


if __name__ == "__main__":
    unittest.main()
