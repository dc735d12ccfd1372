"""What a strategy lets out, what it is sure of, and how it is told: calls told, sure and against."""

import unittest
from random import Random

from tests.helper import (
    SMALL, PlainStrategy, against, as_bytes, ask, ask_many, at, lake, play, shown, small_lakes, some_strategy, strategy,
    sure, told,
)

LONG = (
    "holds 10 seasons 4 gate 3 rest 1;\n"
    "weather dry brings 0 then dry wet;\n"
    "weather wet brings 2 then wet dry;\n"
    "yields 0 10 20 30;\n"
)

FOUR_RULES = (
    "when level least 8 let 3;\n"
    "when was wet and season 2 to 3 let 2;\n"
    "when level most 4 and season 0 to 1 let 0;\n"
    "else let 1;\n"
)


class Told(unittest.TestCase):
    def told(self, text, there=SMALL):
        given = ask(lake(there), strategy(text), told())[2]
        self.assertEqual(given[0], 0)
        return bytes(given[1:]).decode()

    def test_every_byte_of_a_new_lakes_strategy(self):
        expected = [0, 101, 108, 115, 101, 32, 108, 101, 116, 32, 48, 59, 10]
        self.assertEqual(ask(lake(SMALL), told())[1], expected)

    def test_every_sort_of_condition(self):
        text = "when level least 40 and level most 0 and was wet and season 0 to 1 and was dry let 10;\nelse let 7;\n"
        self.assertEqual(self.told(text), text)
        self.assertEqual(self.told(FOUR_RULES, LONG), FOUR_RULES)

    def test_one_blank_between_and_a_line_for_each_rule(self):
        text = "\n when\nlevel  least8let 3 ;when was wet\nand season2to3let2; when level most4and season 0 to 1let 0\n;else let1 ;  "
        self.assertEqual(self.told(text, LONG), FOUR_RULES)

    def test_conditions_and_rules_keep_their_order_and_come_as_often_as_told(self):
        text = "when was wet and was dry and was wet let 1;\nwhen was dry let 0;\nwhen was dry let 0;\nelse let 2;\n"
        self.assertEqual(self.told(text), text)

    def test_told_as_a_text_is_told_again(self):
        random = Random(8)
        for small in small_lakes(random, 60):
            first = some_strategy(random, small).text()
            given = self.told(first, small.text())
            self.assertEqual(given, first)
            self.assertEqual(self.told(given, small.text()), given)

    def test_told_may_be_longer_than_a_text_may(self):
        # Shown, each condition has a blank more on either side of its number.
        conditions = 89 * "level least0and " + "level least0"
        text = f"when {conditions}let 1;else let 0;"
        self.assertLessEqual(len(text), 1500)
        longer = "when " + " and ".join(90 * ["level least 0"]) + " let 1;\nelse let 0;\n"
        self.assertGreater(len(longer), 1500)
        self.assertEqual(self.told(text), longer)
        self.assertEqual(ask(lake(SMALL), strategy(longer), told())[1:], [[-1], [0] + as_bytes("else let 0;\n")])

    def test_told_of_just_1500_bytes_is_taken(self):
        conditions = " and ".join(80 * ["level least 1"] + 2 * ["was dry"])
        text = f"when {conditions} let 1;\nelse let 0;\n"
        just = text.replace("level least 1", "level least 10", 1500 - len(text))
        self.assertEqual(len(just), 1500)
        self.assertEqual(self.told(just), just)

    def test_shown_as_a_text_is_shown_again(self):
        for text in [SMALL, LONG] + [small.text() for small in small_lakes(Random(9), 20)]:
            given = ask(lake(text), shown())[1]
            self.assertEqual(ask(lake(given[1:]), shown())[1], given)
            self.assertEqual(bytes(given[1:]).decode(), text)


class AgainstByHand(unittest.TestCase):
    def against(self, text, *calls, there=LONG):
        return ask(lake(there), strategy(text), *calls)[2:]

    def test_all_seasons(self):
        # 9: level least 8. 6: none, else. 7 behind wet, in seasons 2 and 3: was wet. What's left is 5.
        given = self.against(FOUR_RULES, against(9, 0, [0, 1, 1, 0]))
        self.assertEqual(given, [[0, 85, 3, 0, 6, 1, 1, 7, 2, 1, 7, 2, 0, 5]])

    def test_some_seasons_leave_out_what_is_left(self):
        given = self.against(FOUR_RULES, against(4, 1, [1, 1]), against(9, 0, [0]), against(9, 0, []))
        self.assertEqual(given, [[0, 10, 0, 1, 6, 1, 1, 7], [0, 30, 3, 0, 6], [0, 0]])

    def test_edges_of_level_conditions(self):
        given = self.against(FOUR_RULES, *[against(level, 0, [0]) for level in (8, 7, 5, 4)])
        self.assertEqual(given, [[0, 30, 3, 0, 5], [0, 10, 1, 0, 6], [0, 10, 1, 0, 4], [0, 0, 0, 0, 4]])

    def test_edges_of_season_conditions(self):
        given = self.against("when season 1 to 2 let 2;else let 0;", against(10, 0, 4 * [0]))
        self.assertEqual(given, [[0, 46, 0, 0, 10, 2, 0, 8, 2, 0, 6, 0, 0, 6]])
        given = self.against("when season 3 to 3 let 1;when season 0 to 0 let 3;else let 0;", against(10, 0, 4 * [0]))
        self.assertEqual(given, [[0, 46, 3, 0, 7, 0, 0, 7, 0, 0, 7, 1, 0, 6]])

    def test_was_is_the_kind_before_the_season(self):
        # The kind handed in is the one before season 0; the one that comes counts a season later.
        text = "when was wet let 1;else let 0;"
        given = self.against(text, against(5, 0, [1, 0]), against(5, 1, [0, 1]))
        self.assertEqual(given, [[0, 10, 0, 1, 7, 1, 0, 6], [0, 10, 1, 0, 4, 0, 1, 6]])

    def test_the_first_rule_that_holds(self):
        text = "when level least 9 let 0;when level least 5 let 1;when level least 5 let 3;else let 2;"
        given = self.against(text, *[against(level, 0, [0]) for level in (10, 9, 8, 5, 4)])
        self.assertEqual([row[2] for row in given], [0, 0, 1, 1, 2])

    def test_all_conditions_of_a_rule(self):
        text = "when level least 3 and level most 6 and was dry and season 0 to 1 let 3;else let 0;"
        given = self.against(text, *[against(level, 0, [0]) for level in (2, 3, 6, 7)], against(5, 1, [0]))
        self.assertEqual([row[2] for row in given], [0, 3, 3, 0, 0])
        never = "when was dry and was wet let 3;when level least 5 and level most 4 let 3;else let 0;"
        self.assertEqual([row[2] for row in self.against(never, against(5, 0, [0]), against(5, 1, [0]))], [0, 0])

    def test_at_most_the_level_and_at_most_the_gate(self):
        given = self.against("else let 10;", *[against(level, 0, [0]) for level in (0, 2, 3, 10)])
        self.assertEqual(given, [[0, 0, 0, 0, 0], [0, 20, 2, 0, 0], [0, 30, 3, 0, 0], [0, 30, 3, 0, 7]])
        given = self.against("when level most 1 let 2;else let 0;", against(1, 0, [1, 0]), against(0, 0, [0]))
        self.assertEqual(given, [[0, 10, 1, 1, 2, 0, 0, 2], [0, 0, 0, 0, 0]])

    def test_a_full_lake_and_tables_by_the_season(self):
        given = self.against("when level least 3 let 2;else let 1;", against(3, 0, [1, 0]), against(5, 0, [1]), there=SMALL)
        self.assertEqual(given, [[0, 25, 2, 1, 5, 2, 0, 3], [0, 7, 2, 1, 5]])

    def test_a_new_lake_lets_nothing_out(self):
        self.assertEqual(ask(lake(LONG), against(5, 0, [0, 0, 0, 1]))[1], [0, 7, 0, 0, 5, 0, 0, 5, 0, 0, 5, 0, 1, 7])


class SureByHand(unittest.TestCase):
    def test_dry_weather_is_worst(self):
        # 3, 1, 1 and 1 are let out, 3 are left; by best lettings all 9 are let out.
        self.assertEqual(ask(lake(LONG), strategy(FOUR_RULES), sure(9, 0))[2], [0, 63, 90])

    def test_of_the_small_lake(self):
        given = ask(lake(SMALL), sure(3, 0), strategy("when level least 3 let 2;else let 1;"), sure(3, 0), sure(0, 0))
        self.assertEqual([given[1]] + given[3:], [[0, 10, 14], [0, 9, 14], [0, 1, 1]])

    def test_wet_weather_is_worst(self):
        # Behind wet weather the strategy lets nothing out, and what's left is worth nothing.
        there = SMALL.replace("rest 3", "rest 0")
        given = ask(lake(there), strategy("when was wet let 0;else let 2;"), sure(4, 0), sure(4, 1))
        self.assertEqual(given[2:], [[0, 8, 16], [0, 9, 16]])

    def test_only_weathers_that_may_come_count(self):
        there = "holds 9 seasons 2 gate 1 rest 1;weather a brings 3 then b;weather b brings 2 then a;weather c brings 0 then c;yields 0 5;"
        given = ask(lake(there), strategy("else let 1;"), sure(0, 0), sure(0, 1), sure(0, 2), sure(9, 0))
        self.assertEqual(given[2:], [[0, 9, 9], [0, 9, 9], [0, 0, 0], [0, 19, 19]])

    def test_a_strategy_of_best_lettings_is_sure_of_all(self):
        # In SMALL's season 0 the best letting is one at the levels 1, 3, 4 and 5; in season 1 two from level 2 on.
        text = "when season 0 to 0 and level least 3 let 1;when season 0 to 0 and level most 1 let 1;"
        text += "when season 0 to 0 let 0;when level least 2 let 2;else let 0;"
        given = ask_many(SMALL, [sure(level, kind) for kind in (0, 1) for level in range(6)], text)
        self.assertEqual(given, 2 * [[0, had, had] for had in (1, 6, 9, 14, 17, 20)])

    def test_a_new_strategy_and_a_new_lake_are_reckoned_anew(self):
        given = ask(
            lake(SMALL), strategy("else let 2;"), sure(3, 0), strategy("else let 1;"), sure(3, 0), sure(3, 0),
            lake(SMALL.replace("rest 3", "rest 5")), sure(3, 0), strategy("else let 1;"), sure(3, 0), lake(SMALL), sure(3, 0),
        )
        self.assertEqual([given[number] for number in (2, 4, 5, 7, 9, 11)],
                         [[0, 9, 14], [0, 10, 14], [0, 10, 14], [0, 16, 16], [0, 12, 16], [0, 10, 14]])


class AgainstThePlainReckoning(unittest.TestCase):
    def setUp(self):
        random = Random(31)
        self.pairs = [(small, some_strategy(random, small)) for small in small_lakes(random, 120)]

    def test_sure(self):
        for small, plan in self.pairs:
            expected = [
                [0, plan.sure_of(small, level, before), small.sure(0, level, before)] for level, before in small.states()
            ]
            given = ask_many(small.text(), [sure(*state) for state in small.states()], plan.text())
            self.assertEqual(given, expected, small.text() + plan.text())

    def test_against_every_weather(self):
        random = Random(32)
        for small, plan in self.pairs:
            level, before = random.choice(small.states())
            every = [row for seasons in range(small.seasons + 1) for row in small.weathers(before, seasons)]
            expected = [[0] + plan.gone_by(small, level, before, weather) for weather in every]
            given = ask_many(small.text(), [against(level, before, weather) for weather in every], plan.text())
            self.assertEqual(given, expected, small.text() + plan.text())

    def test_random_strategies_use_all_sorts_of_conditions(self):
        used = {words[0] for small, plan in self.pairs for conditions, letting in plan.rules for words in conditions}
        self.assertEqual(used, {"level", "was", "season"})


class WhatIsKept(unittest.TestCase):
    TEXT = "when level least 3 and was wet let 2;\nelse let 4;\n"

    def rows(self, *calls):
        return [bytes(row[1:]).decode() for row in ask(*calls) if row[0] == 0 and len(row) > 9]

    def test_a_lake_told_anew_brings_else_let_0(self):
        calls = [lake(SMALL), told(), strategy(self.TEXT), told(), lake(SMALL), told(), lake(LONG), told()]
        nothing = "else let 0;\n"
        self.assertEqual(self.rows(*calls), [nothing, self.TEXT, nothing, nothing])

    def test_the_last_strategy_is_the_one(self):
        calls = [lake(SMALL), strategy(self.TEXT), strategy(FOUR_RULES.replace("2 to 3", "1 to 1")), strategy("else let 9;"), told()]
        self.assertEqual(self.rows(*calls), ["else let 9;\n"])

    def test_wrong_texts_and_refusals_keep_the_strategy(self):
        changes = [
            (strategy("else let 5;else"), [1, 1, 11]), (strategy("when was fog let 1;else let 5;"), [1, 2, 9]),
            (strategy("when season 0 to 2 let 1;else let 5;"), [1, 4, 17]), (strategy(""), [1, 1, 0]),
            (strategy([256]), [-1]), (strategy(1501 * [32]), [-1]),
            (lake("holds 9"), [1, 1, 7]), (lake([-1]), [-1]), (lake(1501 * [32]), [-1]),
            ([1] + lake(SMALL)[1:], [0]), (sure(6, 0), [-1]), (against(0, 1, [1]), [-3]), (against(0, 1, [2]), [-1]),
        ]
        for call, answer in changes:
            given = ask(lake(SMALL), strategy(self.TEXT), told(), sure(4, 1), shown(), call, told(), sure(4, 1), shown())
            self.assertEqual(given[5], answer, call)
            self.assertEqual(given[6:], given[2:5], call)
            self.assertEqual(bytes(given[6][1:]).decode(), self.TEXT)

    def test_calls_that_ask_change_no_strategy(self):
        asked = [sure(4, 1), against(4, 0, [0, 0]), play(4, 0, [0, 0]), at(0, 4, 0), shown(), told()]
        given = ask(lake(SMALL), strategy(self.TEXT), *asked, *asked)
        self.assertEqual(given[2:8], given[8:])
        self.assertEqual(bytes(given[7][1:]).decode(), self.TEXT)


class NoStrategyIsSureOfMore(unittest.TestCase):
    """What's always so, point 2, by the program's own answers to every weather that may come."""

    def setUp(self):
        random = Random(41)
        self.pairs = [(small, some_strategy(random, small)) for small in small_lakes(random, 60)]

    def test_just_its_least_yield_over_all_weathers_and_no_more_than_is_sure(self):
        for small, plan in self.pairs:
            for level, before in small.states()[::4]:
                every = small.weathers(before, small.seasons)
                calls = [sure(level, before), at(0, level, before)] + [against(level, before, weather) for weather in every]
                given = ask_many(small.text(), calls, plan.text())
                self.assertEqual(given[0][1], min(row[1] for row in given[2:]), small.text() + plan.text())
                self.assertLessEqual(given[0][1], given[0][2])
                self.assertEqual(given[0][2], given[1][1])

    def test_best_lettings_told_as_a_strategy(self):
        # One rule for a season, a level and a kind: few enough for twelve rules on a lake as small as this.
        for small in small_lakes(Random(43), 200):
            places = [(season, level, kind) for season in range(small.seasons) for level, kind in small.states()]
            if len(places) > 12:
                continue
            rules = [
                ([("season", season, "to", season), ("level", "least", level), ("level", "most", level), ("was", small.kinds[kind][0])],
                 small.best(season, level, kind))
                for season, level, kind in places
            ]
            given = ask_many(small.text(), [sure(*state) for state in small.states()], PlainStrategy(rules, 0).text())
            for row in given:
                self.assertEqual(row[1], row[2], small.text())


if __name__ == "__main__":
    unittest.main()
