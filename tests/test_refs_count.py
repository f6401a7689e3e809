import unittest

from tests.helper import (
    BELIEVED, DOUBTED, NOTHING_THERE, OUT_OF_RANGE, OUT_OF_TURN, TAKEN, TWO_40, TWO_62,
    answers_of, begin, count, last_answer, look, now, rate, refer, refs, when,
)


def rows(references):
    """What refs answers by these calls of refer."""
    return [len(references)] + [number for call in references for number in call[1:]]


def agreeing(how_many):
    return [refer(3 * k, 1000 + 3 * k, k % 5) for k in range(how_many)]


class Refs(unittest.TestCase):
    def test_none(self):
        self.assertEqual(last_answer(begin(), refs()), [0])

    def test_some(self):
        self.assertEqual(last_answer(begin(), refer(7, 1000, 3), refs()), [1, 7, 1000, 3])
        self.assertEqual(
            last_answer(begin(), refer(7, 1000, 3), refer(7, 1002, 4), refer(9, 1003, 2), refs()),
            [3, 7, 1000, 3, 7, 1002, 4, 9, 1003, 2])

    def test_at_the_edges(self):
        line = [begin(), refer(0, 0), refs(), begin(), refer(TWO_62, TWO_62, TWO_40), refs()]
        self.assertEqual(answers_of(*line)[2::3], [[1, 0, 0, 0], [1, TWO_62, TWO_62, TWO_40]])

    def test_the_last_sixteen(self):
        for how_many in [1, 2, 15, 16, 17, 18, 31, 32, 33, 100]:
            with self.subTest(how_many=how_many):
                line = agreeing(how_many)
                found = answers_of(begin(), *line, refs())
                self.assertEqual(found[1:-1], [TAKEN] * how_many)
                self.assertEqual(found[-1], rows(line[-16:]))

    def test_doubted_ones_arent_kept(self):
        line = [begin(), refer(0, 1000, 5), refer(1, 5000, 5), refs(), refer(2, 5001, 5), refs()]
        self.assertEqual(answers_of(*line)[2:], [DOUBTED, [1, 0, 1000, 5], DOUBTED, [1, 0, 1000, 5]])

    def test_three_that_were_believed_are_all(self):
        wrong = [refer(60 + k, 5000 + k, 2 + k) for k in range(3)]
        for before in [1, 5, 16, 20]:
            with self.subTest(before=before):
                found = answers_of(begin(), *agreeing(before), *wrong, refs(), refer(70, 5010, 9), refs())
                self.assertEqual(found[-6:-2], [DOUBTED, DOUBTED, BELIEVED, rows(wrong)])
                self.assertEqual(found[-2:], [TAKEN, rows(wrong + [refer(70, 5010, 9)])])

    def test_one_doubted_alone_and_two_more_are_believed(self):
        line = [begin(), refer(0, 1000, 5)]
        line += [refer(1, 5000, 5), refer(2, 9001, 5), refer(3, 9002, 5), refer(4, 9003, 5), refs()]
        self.assertEqual(last_answer(*line), [3, 2, 9001, 5, 3, 9002, 5, 4, 9003, 5])

    def test_those_doubted_before_one_was_taken_arent_believed(self):
        line = [begin(), refer(0, 1000, 5), refer(1, 5000, 5), refer(2, 5001, 5), refer(3, 1003, 5), refs()]
        self.assertEqual(last_answer(*line), [2, 0, 1000, 5, 3, 1003, 5])
        line += [refer(4, 5003, 5), refer(5, 5004, 5), refer(6, 5005, 5), refs()]
        self.assertEqual(last_answer(*line), [3, 4, 5003, 5, 5, 5004, 5, 6, 5005, 5])

    def test_others_leave_them(self):
        line = [begin(1, 1, 100), refer(0, 1000, 5), refer(2, 1001, 6)]
        kept = [2, 0, 1000, 5, 2, 1001, 6]
        for call in [now(9), look(9), rate(), when(9999), refs(), count(), refer(9, -1), refer(1, 1001, 5), begin(0)]:
            with self.subTest(call=call):
                self.assertEqual(last_answer(*line, call, refs()), kept)

    def test_begin_again_leaves_none(self):
        self.assertEqual(last_answer(begin(), *agreeing(17), begin(), refs()), [0])
        self.assertEqual(last_answer(begin(), *agreeing(17), begin(), refer(1, 2, 3), refs()), [1, 1, 2, 3])


class Count(unittest.TestCase):
    def counted(self, *calls):
        """What count answers behind each of the calls."""
        line = [part for call in calls for part in (call, count())]
        return [answer[1:] for answer in answers_of(*line)[1::2]]

    def test_its_first_number(self):
        self.assertEqual(last_answer(begin(), count()), [0, 0, 0, 0, 0, 0])
        self.assertEqual(last_answer(begin(), refer(4, 1000), count()), [0, 1, 0, 0, 0, 4])

    def test_taken_doubted_and_believed(self):
        found = self.counted(
            begin(), refer(1, 1000, 5), refer(2, 1001, 5), refer(3, 5000, 5), refer(4, 9000, 5), refer(5, 9001, 5),
            refer(6, 1005, 5), refer(7, 9003, 5), refer(8, 9004, 5), refer(9, 9005, 5), refer(10, 9006, 5),
            refer(11, 1010, 5), refer(12, 1011, 5), refer(13, 1012, 5))
        self.assertEqual(found, [
            [0, 0, 0, 0, 0], [1, 0, 0, 0, 1], [2, 0, 0, 0, 2], [2, 1, 0, 1, 3], [2, 2, 0, 1, 4], [2, 3, 0, 2, 5],
            [3, 3, 0, 0, 6], [3, 4, 0, 1, 7], [3, 5, 0, 2, 8], [3, 5, 1, 0, 9], [4, 5, 1, 0, 10],
            [4, 6, 1, 1, 11], [4, 7, 1, 2, 12], [4, 7, 2, 0, 13]])

    def test_all_that_were_taken_not_those_that_stay(self):
        self.assertEqual(last_answer(begin(), *agreeing(40), count()), [0, 40, 0, 0, 0, 117])

    def test_now_is_seen_and_look_isnt(self):
        found = self.counted(begin(), now(5), look(5), refer(7, 1000, 5), look(20), now(9), now(9), look(30), now(12))
        self.assertEqual([answer[:4] for answer in found], [[0] * 4] * 3 + [[1, 0, 0, 0]] * 6)
        self.assertEqual([answer[4] for answer in found], [0, 0, 0, 7, 7, 9, 9, 9, 12])

    def test_at_the_greatest_counter(self):
        self.assertEqual(last_answer(begin(), refer(0, 0), now(TWO_62), count()), [0, 1, 0, 0, 0, TWO_62])

    def test_refusals_count_nothing(self):
        line = [begin(), refer(7, 1000, 5), refer(8, 5000, 5)]
        for call, refusal in [
            (refer(9, -1), OUT_OF_RANGE), (refer(9, TWO_62 + 1), OUT_OF_RANGE), (refer(9, 5, TWO_40 + 1), OUT_OF_RANGE),
            (refer(TWO_62 + 1, 5), OUT_OF_RANGE), (refer(7, 1000, 5), OUT_OF_TURN), (refer(7, 5000, 5), OUT_OF_TURN),
            (now(7), OUT_OF_TURN), (now(TWO_62 + 1), OUT_OF_RANGE), (look(7), OUT_OF_TURN), (begin(0), OUT_OF_RANGE),
            (when(-1), OUT_OF_RANGE),
        ]:
            with self.subTest(call=call):
                self.assertEqual(answers_of(*line, call, count())[3:], [refusal, [0, 1, 1, 0, 1, 8]])
        self.assertEqual(answers_of(begin(), now(5), rate(), when(5), count())[1:], [NOTHING_THERE] * 3 + [[0] * 6])

    def test_others_count_nothing(self):
        line = [begin(), refer(7, 1000, 5), refer(8, 5000, 5)]
        for call in [look(9), rate(), when(5), when(TWO_62), refs(), count(), now(8)]:
            with self.subTest(call=call):
                self.assertEqual(last_answer(*line, call, count()), [0, 1, 1, 0, 1, 8])

    def test_begin_again_counts_from_nothing(self):
        line = [begin(), refer(1, 1000, 5)] + [refer(2, 5000, 5)] * 3 + [refer(3, 1, 1), now(9)]
        self.assertEqual(last_answer(*line, count()), [0, 1, 3, 1, 1, 9])
        self.assertEqual(last_answer(*line, begin(), count()), [0, 0, 0, 0, 0, 0])
        self.assertEqual(last_answer(*line, begin(), refer(0, 5), refer(0, 9), count()), [0, 1, 1, 0, 1, 0])


if __name__ == "__main__":
    unittest.main()
