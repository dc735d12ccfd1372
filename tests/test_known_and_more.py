"""What could have been had of a known weather or of a greater lake: calls known and more."""

import unittest
from itertools import product
from random import Random

from tests.helper import (
    SMALL, PlainLake, against, ask, ask_many, at, counts, known, lake, more, play, shown, small_lakes, some_strategy,
    strategy, sure, table, told,
)

# Four come each season, of which it holds too few.
BRIM = "holds 2 seasons 1 gate 0 rest 3;weather a brings 4 then a;yields 1;"


class KnownByHand(unittest.TestCase):
    def test_of_the_small_lake(self):
        # Dry: 1 and 2 let out. Wet and dry: the lake's full behind any letting, so 2 and 2, and 3 are left.
        given = ask(lake(SMALL), known(3, 0, [0, 0]), known(3, 0, [1, 0]), known(4, 0, [0, 1]), known(0, 0, [0, 0]))
        self.assertEqual(given[1:], [[0, 14], [0, 25], [0, 29], [0, 1]])

    def test_more_than_by_best_lettings(self):
        given = ask(lake(SMALL), known(3, 0, [1, 0]), play(3, 0, [1, 0]), at(0, 3, 0))
        self.assertEqual([row[1] for row in given[1:]], [25, 23, 14])

    def test_what_is_left_counts(self):
        # From 9: 2 and 2 let out for 22, and 7 left, for 35.
        text = "holds 9 seasons 2 gate 2 rest 5;weather a brings 1 then a;yields 0 4 11;"
        self.assertEqual(ask(lake(text), known(2, 0, [0, 0]), known(0, 0, [0, 0]), known(9, 0, [0, 0]))[1:],
                         [[0, 21], [0, 10], [0, 57]])

    def test_it_does_not_hang_on_the_strategy(self):
        given = ask(lake(SMALL), strategy("else let 0;"), known(3, 0, [1, 0]), strategy("else let 2;"), known(3, 0, [1, 0]))
        self.assertEqual(given[2::2], [[0, 25], [0, 25]])

    def test_a_lake_that_holds_nothing_and_a_gate_of_0(self):
        text = "holds 0 seasons 3 gate 0 rest 99;weather a brings 20 then a;yields 1;yields 10;"
        self.assertEqual(ask(lake(text), known(0, 0, [0, 0, 0]))[1], [0, 12])

    def test_24_seasons(self):
        text = "holds 40 seasons 24 gate 10 rest 0;weather a brings 10 then b;weather b brings 0 then a;"
        text += "yields 0 1 2 3 4 5 6 7 8 9 10;yields 0 0 0 0 0 0 0 0 0 0 999;"
        # Ten come in each of twelve seasons, and the other twelve seasons let them out for 999.
        self.assertEqual(ask(lake(text), known(0, 1, 12 * [0, 1]))[1], [0, 12 * 999])
        self.assertEqual(ask(lake(text), known(40, 1, 12 * [0, 1]))[1], [0, 12 * 999 + 40])


class MoreByHand(unittest.TestCase):
    def test_until_all_that_comes_is_held(self):
        given = ask(lake(BRIM), *[more(number, 1, 0) for number in (0, 1, 2, 3, 4, 38)])
        self.assertEqual(given[1:], [[0, 7, had] for had in (7, 10, 13, 16, 16, 16)])

    def test_of_the_small_lake(self):
        # Held 6: from level 5 one is let out, and by dry weather what's sure doesn't hang on the brim.
        given = ask(lake(SMALL), more(0, 5, 0), more(1, 5, 0), more(35, 3, 1))
        self.assertEqual(given[1:], [[0, 20, 20], [0, 20, 20], [0, 14, 14]])

    def test_up_to_40(self):
        empty = BRIM.replace("holds 2", "holds 0")
        self.assertEqual(ask(lake(empty), more(40, 0, 0), more(0, 0, 0))[1:], [[0, 1, 13], [0, 1, 1]])
        full = BRIM.replace("holds 2", "holds 40")
        self.assertEqual(ask(lake(full), more(0, 40, 0), more(1, 40, 0))[1:], [[0, 121, 121], [-3]])

    def test_the_lake_stays_as_it_was(self):
        asked = [shown(), table(0, 0), counts(), sure(2, 0), told()]
        given = ask(lake(BRIM), strategy("when level least 1 let 1;else let 0;"), *asked, more(3, 1, 0), *asked)
        self.assertEqual(given[7], [0, 7, 16])
        self.assertEqual(given[8:], given[2:7])


class AgainstThePlainReckoning(unittest.TestCase):
    def setUp(self):
        self.lakes = small_lakes(Random(51), 60)

    def test_known_of_every_weather(self):
        random = Random(52)
        for small in self.lakes:
            level, before = random.choice(small.states())
            every = small.weathers(before, small.seasons)
            expected = [[0, small.most_known(level, before, weather)] for weather in every]
            given = ask_many(small.text(), [known(level, before, weather) for weather in every])
            self.assertEqual(given, expected, small.text())

    def test_more(self):
        random = Random(53)
        for small in self.lakes:
            level, before = random.choice(small.states())
            numbers = [0, 1, 2, 3, 5, 40 - small.holds]
            expected = [
                [0, small.sure(0, level, before), small.holding(number).sure(0, level, before)] for number in numbers
            ]
            given = ask_many(small.text(), [more(number, level, before) for number in numbers])
            self.assertEqual(given, expected, small.text())


class WhatsAlwaysSo(unittest.TestCase):
    """Point 3, by the program's own answers."""

    def setUp(self):
        self.lakes = small_lakes(Random(61), 40)

    def test_known_is_never_less_than_what_is_sure_nor_than_what_was_had(self):
        random = Random(62)
        for small in self.lakes:
            level, before = random.choice(small.states())
            plan = some_strategy(random, small)
            for weather in small.weathers(before, small.seasons):
                calls = [known(level, before, weather), at(0, level, before), play(level, before, weather), against(level, before, weather)]
                given = ask_many(small.text(), calls, plan.text())
                self.assertGreaterEqual(given[0][1], max(row[1] for row in given[1:]), small.text())

    def test_never_less_of_a_greater_lake(self):
        for small in self.lakes:
            for level, before in small.states()[::5]:
                given = ask_many(small.text(), [more(number, level, before) for number in range(41 - small.holds)])
                self.assertEqual({row[1] for row in given}, {given[0][2]}, small.text())
                greater = [row[2] for row in given]
                self.assertEqual(greater, sorted(greater), small.text())

    def test_more_is_what_is_sure_of_a_lake_told_as_great(self):
        for small in self.lakes:
            for number, before in product((1, 4), range(len(small.kinds))):
                row = ask(lake(small.holding(number).text()), table(0, before))[1]
                given = ask_many(small.text(), [more(number, level, before) for level in range(small.holds + 1)])
                self.assertEqual([answer[2] for answer in given], row[1:small.holds + 2], small.text())

    def test_some_lakes_are_worth_more_when_greater(self):
        gained = [ask(lake(small.text()), more(3, small.holds, 0))[1] for small in self.lakes]
        self.assertTrue(any(row[2] > row[1] for row in gained))


class AtTheEdges(unittest.TestCase):
    def test_the_greatest_lake(self):
        kinds = [("a", 20, [0, 1]), ("b", 0, [1, 0])]
        plain = PlainLake(20, 24, 10, 99, kinds, [[0, 90, 250, 300, 420, 480, 600, 610, 700, 900, 999], 11 * [5]])
        weather = 12 * [0, 1]
        by_level = {level: plain.rest * level for level in range(21)}
        for season in reversed(range(24)):
            by_level = {
                level: max(plain.yielded(season, letting) + by_level[plain.after(level, letting, weather[season])]
                           for letting in plain.lettings(level))
                for level in by_level
            }
        given = ask(lake(plain.text()), known(20, 0, weather), more(20, 20, 0), more(21, 20, 0))
        self.assertEqual(given[1], [0, by_level[20]])
        self.assertEqual(given[2], [0, plain.sure(0, 20, 0), plain.holding(20).sure(0, 20, 0)])
        self.assertEqual(given[3], [-3])


if __name__ == "__main__":
    unittest.main()
