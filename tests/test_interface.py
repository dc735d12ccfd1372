"""How calls are laid out, how answers are, and what a list of calls leaves behind."""

import copy
import time
import unittest

from seasonlake.gates import answers
from tests.helper import SMALL, ask, at, lake, play, shown, strategy, table, where, worst

GREATEST = (
    "holds 40 seasons 24 gate 10 rest 99;"
    + "".join(f"weather {name} brings {brings} then a b c d;" for name, brings in (("a", 0), ("b", 3), ("c", 7), ("d", 20)))
    + 4 * "yields 0 10 20 30 40 50 60 70 80 90 999;"
)


def flat(calls):
    return [number for call in calls for number in call]


class Layout(unittest.TestCase):
    def test_the_whole_answer_of_one_list(self):
        calls = [lake(SMALL), at(0, 3, 0), table(2, 1), worst(4, 1), play(4, 0, [1]), play(4, 1, [1]), at(2, 0, 0),
                 strategy("when was dry let 1;else let 2;"), strategy("else let 11;"), where("holds 5"), where(SMALL)]
        self.assertEqual(answers(flat(calls)), [
            3, 0, 2, 2,
            4, 0, 14, 1, 0,
            7, 0, 0, 3, 6, 9, 12, 15,
            8, 0, 17, 1, 0, 3, 2, 0, 1,
            5, 0, 5, 1, 1, 5,
            1, -3,
            1, -1,
            2, 0, 1,
            3, 1, 4, 9,
            3, 1, 1, 7,
            1, 0,
        ])

    def test_numbers_as_they_stand(self):
        self.assertEqual(answers([2]), [1, -20])
        self.assertEqual(answers([0, 0]), [3, 1, 1, 0])
        self.assertEqual(answers([1, 1, 63]), [3, 1, 1, 0])
        self.assertEqual(answers([3, 0, 0, 0, 4, 0, 0, 5, 0, 0, 6, 0, 0, 0, 7, 0]), [1, -20] * 5)
        self.assertEqual(answers([6, 0, 0, 2, 7, 7, 6, 0, 0, 0, 1, 0]), [1, -20, 1, -20, 3, 1, 1, 0])

    def test_whole_numbers_alone(self):
        calls = [lake(SMALL), shown(), at(0, 0, 0), table(0, 0), worst(0, 0), play(0, 0, [0, 0]), strategy("else let 0;"), where("")]
        given = answers(flat(calls))
        self.assertIs(type(given), list)
        self.assertEqual({type(number) for number in given}, {int})

    def test_refused_lists_are_passed_over_whole(self):
        calls = [lake(1600 * [2]), lake(SMALL), play(0, 0, 40 * [2]), where(1501 * [0]), strategy(1600 * [5]), table(2, 0)]
        self.assertEqual(ask(*calls), [[-1], [0, 2, 2], [-1], [-1], [-1], [0, 0, 3, 6, 9, 12, 15]])


class NothingIsKept(unittest.TestCase):
    CALLS = flat([lake(SMALL), shown(), at(1, 2, 0), worst(5, 0), play(5, 0, [1, 0]), strategy("else let 2;"), lake("?"), where("?")])

    def test_the_list_handed_in_stays_as_it_was(self):
        handed = list(self.CALLS)
        before = copy.deepcopy(handed)
        answers(handed)
        self.assertEqual(handed, before)

    def test_a_second_time_is_as_the_first(self):
        first = answers(list(self.CALLS))
        self.assertEqual(answers([2]), [1, -20])
        self.assertEqual(answers(list(self.CALLS)), first)
        answers(flat([lake(GREATEST), strategy("else let 9;"), table(0, 0)]))
        self.assertEqual(answers(list(self.CALLS)), first)

    def test_what_is_given_back_is_ones_own(self):
        first = answers(list(self.CALLS))
        kept = list(first)
        first.clear()
        self.assertEqual(answers(list(self.CALLS)), kept)


class Speed(unittest.TestCase):
    def within_seconds(self, calls):
        handed = flat(calls)
        self.assertLessEqual(len(calls), 120)
        self.assertLessEqual(len(handed), 16000)
        begin = time.perf_counter()
        given = ask(*calls)
        self.assertLess(time.perf_counter() - begin, 5)
        return given

    def test_120_calls_with_a_new_greatest_lake_ahead_of_each_reckoning(self):
        calls = []
        for number in range(20):
            last = [at(0, 40, 3), table(0, 2), worst(40, 1), play(40, 0, 24 * [number % 4])][number % 4]
            calls += [lake(GREATEST), strategy("when was a let 1;else let 0;"), last, shown(), where("?"), shown()]
        given = self.within_seconds(calls)
        self.assertEqual(len(given), 120)
        self.assertEqual({row[0] for row in given[2::6]}, {0})
        self.assertEqual([len(row) for row in given[2:24:6]], [4, 42, 74, 74])

    def test_120_calls_on_one_greatest_lake(self):
        calls = [lake(GREATEST)] + 20 * [worst(40, 0)] + 99 * [shown()]
        given = self.within_seconds(calls)
        self.assertEqual({tuple(row) for row in given[1:21]}, {tuple(given[1])})

    def test_the_longest_texts(self):
        long = 500 * "a ;" + 100 * "a"
        given = self.within_seconds([lake(SMALL)] + 9 * [where(long[:1500])] + [strategy(1500 * "a")])
        self.assertEqual(given[1:], 10 * [[1, 1, 0]])


if __name__ == "__main__":
    unittest.main()
