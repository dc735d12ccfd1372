"""How calls are laid out, how answers are, and what a list of calls leaves behind."""

import copy
import time
import unittest
from pathlib import Path

from seasonlake.gates import answers
from tests.helper import (
    SMALL, against, ask, at, clear, counts, known, lake, more, play, shown, strategy, sure, table, told, weathers, where, worst,
)

GREATEST = (
    "holds 40 seasons 24 gate 10 rest 99;"
    + "".join(f"weather {name} brings {brings} then a b c d;" for name, brings in (("a", 0), ("b", 3), ("c", 7), ("d", 20)))
    + 4 * "yields 0 10 20 30 40 50 60 70 80 90 999;"
)


def flat(calls):
    return [number for call in calls for number in call]


class Layout(unittest.TestCase):
    def test_the_whole_answer_of_one_list(self):
        calls = [lake(SMALL), at(0, 3, 0), table(2, 1), worst(4, 1), play(4, 0, [1]), play(4, 1, [1]), at(2, 0, 0),
                 strategy("when was dry let 1;else let 2;"), strategy("else let 11;"), where("holds 5"), where(SMALL)]
        self.assertEqual(answers(flat(calls)), [
            3, 0, 2, 2,
            4, 0, 14, 1, 0,
            7, 0, 0, 3, 6, 9, 12, 15,
            8, 0, 17, 1, 0, 3, 2, 0, 1,
            5, 0, 5, 1, 1, 5,
            1, -3,
            1, -1,
            2, 0, 1,
            3, 1, 4, 9,
            3, 1, 1, 7,
            1, 0,
        ])

    def test_the_whole_answer_of_the_later_calls(self):
        calls = [lake(SMALL), told(), strategy("when was dry let 1;else let 2;"), sure(3, 0), against(3, 0, [0, 1]), against(3, 1, []),
                 against(3, 1, [1]), known(3, 0, [1, 0]), known(3, 0, [1]), more(2, 3, 0), more(36, 3, 0), weathers(), counts(),
                 clear(), counts(), clear()]
        self.assertEqual(answers(flat(calls)), [
            3, 0, 2, 2,
            13, 0, 101, 108, 115, 101, 32, 108, 101, 116, 32, 48, 59, 10,
            2, 0, 1,
            3, 0, 10, 14,
            8, 0, 22, 1, 0, 2, 1, 1, 5,
            2, 0, 0,
            1, -3,
            2, 0, 25,
            1, -1,
            3, 0, 14, 14,
            1, -3,
            17, 0, 2, 3, 100, 114, 121, 0, 2, 0, 1, 3, 119, 101, 116, 4, 1, 0,
            8, 0, 5, 2, 2, 3, 2, 2, 1,
            1, 0,
            1, -20,
            1, 0,
        ])

    def test_numbers_as_they_stand(self):
        self.assertEqual(answers([2]), [1, -20])
        self.assertEqual(answers([0, 0]), [3, 1, 1, 0])
        self.assertEqual(answers([1, 1, 63]), [3, 1, 1, 0])
        self.assertEqual(answers([3, 0, 0, 0, 4, 0, 0, 5, 0, 0, 6, 0, 0, 0, 7, 0]), [1, -20] * 5)
        self.assertEqual(answers([6, 0, 0, 2, 7, 7, 6, 0, 0, 0, 1, 0]), [1, -20, 1, -20, 3, 1, 1, 0])
        self.assertEqual(answers([8, 9, 8, 8, 10, 8, 8, 1, 8, 11, 8, 8, 2, 8, 8, 12, 8, 8, 8, 13, 14, 15]), [1, -20] * 7 + [1, 0])
        self.assertEqual(answers([10, 0, 0, 0, 11, 0, 0, 0, 15, 1, 0]), [1, -20, 1, -20, 1, 0, 3, 1, 1, 0])

    def test_whole_numbers_alone(self):
        calls = [lake(SMALL), shown(), at(0, 0, 0), table(0, 0), worst(0, 0), play(0, 0, [0, 0]), strategy("else let 0;"), where(""),
                 told(), sure(0, 0), against(0, 0, [0, 0]), known(0, 0, [0, 0]), more(0, 0, 0), weathers(), counts(), clear(), told()]
        given = answers(flat(calls))
        self.assertIs(type(given), list)
        self.assertEqual({type(number) for number in given}, {int})

    def test_refused_lists_are_passed_over_whole(self):
        calls = [lake(1600 * [2]), lake(SMALL), play(0, 0, 40 * [2]), where(1501 * [0]), strategy(1600 * [5]), table(2, 0)]
        self.assertEqual(ask(*calls), [[-1], [0, 2, 2], [-1], [-1], [-1], [0, 0, 3, 6, 9, 12, 15]])
        calls = [lake(SMALL), against(0, 0, 40 * [15]), known(0, 0, 40 * [15]), known(0, 0, 3 * [15]), counts()]
        self.assertEqual(ask(*calls)[1:], [[-1], [-1], [-1], [0, 5, 2, 2, 3, 2, 2, 0]])


class Readme(unittest.TestCase):
    def test_its_example(self):
        text = (Path(__file__).resolve().parent.parent / "README.md").read_text()
        example = text.split("```python\n")[1].split("```")[0]
        printed = []
        exec(example, {"print": printed.append})
        self.assertEqual("# " + str(printed[0]), example.strip().split("\n")[-1])


class NothingIsKept(unittest.TestCase):
    CALLS = flat([
        lake(SMALL), shown(), at(1, 2, 0), worst(5, 0), play(5, 0, [1, 0]), told(), strategy("else let 2;"), lake("?"), where("?"),
        told(), sure(3, 0), against(5, 0, [1, 0]), known(5, 0, [1, 0]), more(3, 5, 0), weathers(), counts(), more(40, 5, 0),
        known(5, 0, [1, 1]), clear(), counts(), lake(SMALL), told(), sure(3, 0), strategy("when was wet let 1;else let 2;"),
    ])

    def test_the_list_handed_in_stays_as_it_was(self):
        handed = list(self.CALLS)
        before = copy.deepcopy(handed)
        answers(handed)
        self.assertEqual(handed, before)

    def test_a_second_time_is_as_the_first(self):
        first = answers(list(self.CALLS))
        self.assertEqual(answers([2]), [1, -20])
        self.assertEqual(answers(list(self.CALLS)), first)
        answers(flat([lake(GREATEST), strategy("else let 9;"), table(0, 0)]))
        self.assertEqual(answers(list(self.CALLS)), first)

    def test_what_is_given_back_is_ones_own(self):
        first = answers(list(self.CALLS))
        kept = list(first)
        first.clear()
        self.assertEqual(answers(list(self.CALLS)), kept)


    def test_the_list_may_be_one_that_cannot_be_changed(self):
        class Fixed(list):
            def refuse(self, *given):
                raise AssertionError("what is handed in was changed")

            append = extend = insert = pop = remove = clear = sort = reverse = refuse
            __setitem__ = __delitem__ = __iadd__ = __imul__ = refuse

        self.assertEqual(answers(Fixed(self.CALLS)), answers(list(self.CALLS)))


class Speed(unittest.TestCase):
    def within_seconds(self, calls):
        handed = flat(calls)
        self.assertLessEqual(len(calls), 120)
        self.assertLessEqual(len(handed), 16000)
        begin = time.perf_counter()
        given = ask(*calls)
        self.assertLess(time.perf_counter() - begin, 5)
        return given

    def test_120_calls_with_a_new_greatest_lake_ahead_of_each_reckoning(self):
        calls = []
        for number in range(20):
            last = [at(0, 40, 3), table(0, 2), worst(40, 1), play(40, 0, 24 * [number % 4])][number % 4]
            calls += [lake(GREATEST), strategy("when was a let 1;else let 0;"), last, shown(), where("?"), shown()]
        given = self.within_seconds(calls)
        self.assertEqual(len(given), 120)
        self.assertEqual({row[0] for row in given[2::6]}, {0})
        self.assertEqual([len(row) for row in given[2:24:6]], [4, 42, 74, 74])

    def test_120_calls_on_one_greatest_lake(self):
        calls = [lake(GREATEST)] + 20 * [worst(40, 0)] + 99 * [shown()]
        given = self.within_seconds(calls)
        self.assertEqual({tuple(row) for row in given[1:21]}, {tuple(given[1])})

    def test_the_longest_strategies(self):
        # All conditions but the last hold everywhere.
        long = "when " + 89 * "level least0and " + "level least40let 1;else let 2;"
        self.assertLessEqual(len(long), 1500)
        calls = [lake(GREATEST)]
        for number in range(9):
            calls += [strategy(long), sure(40, number % 4), sure(39, 0)] + 7 * [against(39, 0, 24 * [0])]
        given = self.within_seconds(calls)
        self.assertEqual({row[0] for row in given}, {0})

    def test_many_known_and_many_more(self):
        calls = [lake(GREATEST)] + 20 * [sure(40, 0)] + 99 * [known(40, 3, 24 * [1])]
        self.assertEqual({row[0] for row in self.within_seconds(calls)}, {0})
        calls = 20 * [lake(GREATEST.replace("holds 40", "holds 39")), more(1, 39, 0)]
        self.assertEqual({row[0] for row in self.within_seconds(calls)}, {0})

    def test_the_longest_texts(self):
        long = 500 * "a ;" + 100 * "a"
        given = self.within_seconds([lake(SMALL)] + 9 * [where(long[:1500])] + [strategy(1500 * "a")])
        self.assertEqual(given[1:], 10 * [[1, 1, 0]])


if __name__ == "__main__":
    unittest.main()
