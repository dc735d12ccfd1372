"""What a lake is made of, and how all is cleared: calls weathers, counts and clear."""

import unittest
from random import Random

from tests.helper import (
    SMALL, against, as_bytes, ask, at, clear, counts, known, lake, more, play, shown, small_lakes, strategy, sure, table,
    told, weathers, where, worst,
)

OTHER = "holds 40 seasons 24 gate 10 rest 99;"
OTHER += "weather z brings 20 then m z abcdefgh b;weather b brings 0 then z;weather m brings 10 then b z;weather abcdefgh brings 1 then m;"
OTHER += 3 * "yields 0 1 2 3 4 5 6 7 8 9 10;"
LEAST = "holds 0 seasons 1 gate 0 rest 0;weather a brings 0 then a;yields 7;"


class Weathers(unittest.TestCase):
    def test_of_the_small_lake(self):
        expected = [0, 2, 3, 100, 114, 121, 0, 2, 0, 1, 3, 119, 101, 116, 4, 1, 0]
        self.assertEqual(ask(lake(SMALL), weathers())[1], expected)

    def test_names_and_next_ones_in_the_order_told(self):
        expected = [0, 4]
        expected += [1, 122, 20, 4, 2, 0, 3, 1]
        expected += [1, 98, 0, 1, 0]
        expected += [1, 109, 10, 2, 1, 0]
        expected += [8, 97, 98, 99, 100, 101, 102, 103, 104, 1, 1, 2]
        self.assertEqual(ask(lake(OTHER), weathers())[1], expected)

    def test_of_one_kind(self):
        self.assertEqual(ask(lake(LEAST), weathers())[1], [0, 1, 1, 97, 0, 1, 0])

    def test_of_small_lakes(self):
        for small in small_lakes(Random(71), 30):
            expected = [0, len(small.kinds)]
            for name, brings, following in small.kinds:
                expected += [len(name)] + as_bytes(name) + [brings, len(following)] + following
            self.assertEqual(ask(lake(small.text()), weathers())[1], expected)

    def test_of_the_lake_that_is_there_now(self):
        given = ask(lake(OTHER), lake(LEAST), lake("holds"), lake([256]), where(OTHER), weathers())
        self.assertEqual(given[5], [0, 1, 1, 97, 0, 1, 0])


class Counts(unittest.TestCase):
    def test_by_hand(self):
        self.assertEqual(ask(lake(SMALL), counts())[1], [0, 5, 2, 2, 3, 2, 2, 0])
        self.assertEqual(ask(lake(OTHER), counts())[1], [0, 40, 24, 10, 99, 4, 3, 0])
        self.assertEqual(ask(lake(LEAST), counts())[1], [0, 0, 1, 0, 0, 1, 1, 0])

    def test_rules_are_those_of_the_strategy_now(self):
        rule = "when was dry let 1;"
        calls = [strategy(12 * rule + "else let 0;"), counts(), strategy(rule), counts(), strategy(rule + "else let 0;"), counts(),
                 strategy("else let 1;"), counts(), strategy(2 * rule + "else let 0;"), counts(), lake(SMALL), counts()]
        given = ask(lake(SMALL), *calls)
        self.assertEqual([row[7] for row in given[2::2]], [12, 12, 1, 0, 2, 0])
        self.assertEqual({tuple(row[:7]) for row in given[2::2]}, {(0, 5, 2, 2, 3, 2, 2)})


class Clear(unittest.TestCase):
    NEEDING_A_LAKE = [
        shown(), at(0, 0, 0), table(0, 0), worst(0, 0), play(0, 0, [0]), strategy("else let 0;"), told(), sure(0, 0),
        against(0, 0, [0]), known(0, 0, [0, 0]), more(0, 0, 0), weathers(), counts(),
    ]

    def test_with_a_lake_and_without(self):
        self.assertEqual(ask(clear(), clear(), lake(SMALL), clear(), clear()), [[0], [0], [0, 2, 2], [0], [0]])

    def test_then_all_but_lake_where_and_clear_are_refused(self):
        given = ask(lake(SMALL), strategy("else let 2;"), sure(3, 0), clear(), *self.NEEDING_A_LAKE, where(SMALL), where("?"), clear())
        self.assertEqual(given[3:], [[0]] + 13 * [[-20]] + [[0], [1, 1, 0], [0]])

    def test_before_it_none_is_refused(self):
        given = ask(lake(SMALL), *self.NEEDING_A_LAKE)
        self.assertEqual({row[0] for row in given}, {0})

    def test_behind_it_a_lake_is_new(self):
        asked = [shown(), told(), counts(), weathers(), table(0, 0), sure(3, 0), against(3, 0, [0, 0]), known(3, 0, [0, 0])]
        fresh = ask(lake(SMALL), *asked)
        before = [lake(OTHER), strategy("when was z let 3;else let 9;"), sure(40, 0), table(0, 0)]
        given = ask(*before, clear(), lake(SMALL), *asked)
        self.assertEqual(given[5:], fresh)
        before = [lake(SMALL), strategy("else let 2;"), sure(3, 0)]
        self.assertEqual(ask(*before, clear(), lake(SMALL), *asked)[4:], fresh)

    def test_a_wrong_or_refused_text_brings_no_lake_back(self):
        given = ask(lake(SMALL), clear(), lake("?"), shown(), lake([256]), told(), where(SMALL), counts(), strategy("?"))
        self.assertEqual(given[2:], [[1, 1, 0], [-20], [-1], [-20], [0], [-20], [-20]])


if __name__ == "__main__":
    unittest.main()
