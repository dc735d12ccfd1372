"""What's sure, best lettings, the weather's best answers: calls at, table, worst and play."""

import unittest
from itertools import product
from random import Random

from tests.helper import SMALL, PlainLake, ask, ask_many, at, lake, play, small_lakes, table, worst

GREATEST = PlainLake(
    40, 24, 10, 99,
    [("a", 0, [1, 0, 3]), ("b", 20, [2]), ("c", 3, [3, 2, 1, 0]), ("d", 7, [0, 2])],
    [
        [0, 90, 250, 300, 420, 480, 600, 610, 700, 900, 999],
        [999, 0, 999, 0, 999, 0, 999, 0, 999, 0, 999],
        [0, 0, 0, 0, 0, 0, 0, 0, 0, 0, 0],
        [5, 105, 205, 305, 405, 505, 605, 705, 805, 905, 999],
    ],
)


class ByHand(unittest.TestCase):
    """Of SMALL, behind season 1 there's 3 a unit; in season 1 two let out yield most; dry weather is worst."""

    def test_table(self):
        given = ask(lake(SMALL), *[table(season, kind) for season in (0, 1, 2) for kind in (0, 1)])
        end, last, first = [0, 3, 6, 9, 12, 15], [1, 4, 9, 12, 15, 18], [1, 6, 9, 14, 17, 20]
        self.assertEqual(given[1:], [[0] + row for row in (first, first, last, last, end, end)])

    def test_at(self):
        given = ask(lake(SMALL), at(0, 3, 0), at(0, 2, 0), at(0, 0, 1), at(1, 5, 0), at(1, 1, 1), at(0, 5, 1))
        self.assertEqual(given[1:], [[0, 14, 1, 0], [0, 9, 0, 0], [0, 1, 0, 0], [0, 18, 2, 0], [0, 4, 0, 0], [0, 20, 1, 0]])

    def test_worst(self):
        given = ask(lake(SMALL), worst(4, 1), worst(0, 0), worst(2, 0))
        self.assertEqual(given[1:], [[0, 17, 1, 0, 3, 2, 0, 1], [0, 1, 0, 0, 0, 0, 0, 0], [0, 9, 0, 0, 2, 2, 0, 0]])

    def test_play(self):
        given = ask(lake(SMALL), play(4, 0, [0, 1]), play(4, 0, [1, 0]), play(4, 0, [1]), play(4, 0, []), play(4, 1, [0, 0]))
        self.assertEqual(given[1:], [
            [0, 29, 1, 0, 3, 2, 1, 5], [0, 23, 1, 1, 5, 2, 0, 3], [0, 5, 1, 1, 5], [0, 0], [0, 17, 1, 0, 3, 2, 0, 1],
        ])

    def test_the_weather_looks_at_what_may_come_behind(self):
        # high brings more than low, but behind it nothing comes, and behind low much.
        text = (
            "holds 40 seasons 2 gate 0 rest 1;weather s brings 0 then low high;weather low brings 1 then rain;"
            "weather high brings 2 then s;weather rain brings 9 then rain;yields 0;"
        )
        given = ask(lake(text), at(0, 0, 0), worst(0, 0), at(1, 0, 0), play(0, 0, [1, 3]), play(0, 0, [2, 0]))
        self.assertEqual(given[1:], [
            [0, 2, 0, 2], [0, 2, 0, 2, 2, 0, 0, 2], [0, 1, 0, 1], [0, 10, 0, 1, 1, 0, 3, 10], [0, 2, 0, 2, 2, 0, 0, 2],
        ])

    def test_the_least_letting_that_is_worth_most(self):
        text = "holds 4 seasons 1 gate 4 rest 2;weather a brings 0 then a;yields 0 2 5 7 9;"
        given = ask(lake(text), *[at(0, level, 0) for level in range(5)])
        self.assertEqual(given[1:], [[0, 0, 0, 0], [0, 2, 0, 0], [0, 5, 2, 0], [0, 7, 2, 0], [0, 9, 2, 0]])

    def test_the_first_kind_in_the_order_told(self):
        text = (
            "holds 4 seasons 2 gate 0 rest 2;weather a brings 1 then b c a;weather b brings 1 then a b c;"
            "weather c brings 1 then c b;yields 0;"
        )
        given = ask(lake(text), at(0, 0, 0), at(0, 0, 1), at(0, 0, 2), worst(1, 0))
        self.assertEqual(given[1:], [[0, 4, 0, 1], [0, 4, 0, 0], [0, 4, 0, 2], [0, 6, 0, 1, 2, 0, 0, 3]])

    def test_ties_where_the_lake_is_full(self):
        text = "holds 4 seasons 1 gate 1 rest 2;weather wet brings 20 then wet dry;weather dry brings 1 then dry wet;yields 0 0;"
        given = ask(lake(text), at(0, 4, 0), at(0, 4, 1), at(0, 2, 0), at(0, 3, 0))
        self.assertEqual(given[1:], [[0, 8, 0, 0], [0, 8, 0, 1], [0, 6, 0, 1], [0, 8, 0, 0]])

    def test_tables_go_round_by_the_season(self):
        text = "holds 0 seasons 5 gate 0 rest 9;weather a brings 5 then a;yields 1;yields 10;yields 100;"
        given = ask(lake(text), *[table(season, 0) for season in range(6)], worst(0, 0))
        self.assertEqual(given[1:7], [[0, 122], [0, 121], [0, 111], [0, 11], [0, 10], [0, 0]])
        self.assertEqual(given[7], [0, 122] + 5 * [0, 0, 0])

    def test_letting_goes_ahead_of_what_the_weather_brings(self):
        # Of a full lake one is let out before ten come: what is over the lake's brim is lost.
        text = "holds 3 seasons 1 gate 3 rest 1;weather a brings 10 then a;yields 0 1 1 1;"
        self.assertEqual(ask(lake(text), worst(3, 0), worst(0, 0))[1:], [[0, 4, 1, 0, 3], [0, 3, 0, 0, 3]])

    def test_what_is_left_counts_behind_the_last_season_alone(self):
        text = "holds 9 seasons 3 gate 1 rest 5;weather a brings 1 then a;yields 0 7;"
        given = ask(lake(text), play(2, 0, []), play(2, 0, [0]), play(2, 0, [0, 0]), play(2, 0, [0, 0, 0]))
        steps = [1, 0, 2]
        self.assertEqual(given[1:], [[0, 0], [0, 7] + steps, [0, 14] + 2 * steps, [0, 31] + 3 * steps])


class AgainstThePlainReckoning(unittest.TestCase):
    def setUp(self):
        self.lakes = small_lakes(Random(11), 80)

    def test_at(self):
        for small in self.lakes:
            calls, expected = [], []
            for season in range(small.seasons):
                for level, before in small.states():
                    letting = small.best(season, level, before)
                    answer = small.answer(season, level, before, letting)
                    calls.append(at(season, level, before))
                    expected.append([0, small.sure(season, level, before), letting, answer])
            self.assertEqual(ask_many(small.text(), calls), expected, small.text())

    def test_table(self):
        for small in self.lakes:
            asked = list(product(range(small.seasons + 1), range(len(small.kinds))))
            expected = [
                [0] + [small.sure(season, level, before) for level in range(small.holds + 1)] for season, before in asked
            ]
            self.assertEqual(ask_many(small.text(), [table(*pair) for pair in asked]), expected, small.text())

    def test_worst(self):
        for small in self.lakes:
            def choose(season, level, before):
                letting = small.best(season, level, before)
                return letting, small.answer(season, level, before, letting)

            expected = [[0] + small.gone_by(level, before, small.seasons, choose) for level, before in small.states()]
            self.assertEqual(ask_many(small.text(), [worst(*pair) for pair in small.states()]), expected, small.text())

    def test_play(self):
        random = Random(5)
        for small in self.lakes:
            calls, expected = [], []
            for level, before in small.states():
                seasons = random.randint(0, small.seasons)
                for weather in random.choices(small.weathers(before, seasons), k=3):
                    def choose(season, level, before):
                        return small.best(season, level, before), weather[season]

                    calls.append(play(level, before, weather))
                    expected.append([0] + small.gone_by(level, before, seasons, choose))
            self.assertEqual(ask_many(small.text(), calls), expected, small.text())

    def test_the_greatest_lake(self):
        asked = [(0, 0), (0, 3), (11, 1), (23, 2), (24, 0)]
        expected = [[0] + [GREATEST.sure(season, level, kind) for level in range(41)] for season, kind in asked]
        self.assertEqual(ask_many(GREATEST.text(), [table(*pair) for pair in asked]), expected)

        def choose(season, level, before):
            letting = GREATEST.best(season, level, before)
            return letting, GREATEST.answer(season, level, before, letting)

        def choose_known(season, level, before):
            return GREATEST.best(season, level, before), weather[season]

        states = [(0, 0), (40, 0), (17, 2), (40, 3)]
        expected = [[0] + GREATEST.gone_by(level, before, 24, choose) for level, before in states]
        self.assertEqual(ask_many(GREATEST.text(), [worst(*pair) for pair in states]), expected)
        weather = [3, 2, 2, 1] + [2, 0, 0, 3] * 5
        expected = [0] + GREATEST.gone_by(40, 0, 24, choose_known)
        self.assertEqual(ask_many(GREATEST.text(), [play(40, 0, weather)]), [expected])
        self.assertEqual(len(expected), 2 + 3 * 24)


class WhatsAlwaysSo(unittest.TestCase):
    def setUp(self):
        self.lakes = small_lakes(Random(23), 30)

    def test_best_lettings_have_what_is_sure_whatever_weather_comes(self):
        for small in self.lakes:
            for level, before in small.states()[::3]:
                weathers = small.weathers(before, small.seasons)
                calls = [at(0, level, before)] + [play(level, before, weather) for weather in weathers]
                given = ask_many(small.text(), calls)
                had = [row[1] for row in given[1:]]
                self.assertEqual(min(had), given[0][1], small.text())

    def test_the_weather_holds_every_letting_down_to_what_is_sure(self):
        random = Random(4)
        for small in self.lakes:
            pairs = list(product(range(small.seasons + 1), range(len(small.kinds))))
            rows = dict(zip(pairs, ask_many(small.text(), [table(*pair) for pair in pairs])))
            level, before = random.choice(small.states())

            def answered(season, level, before, letting):
                return min(small.following(before), key=lambda kind: rows[season + 1, kind][1 + small.after(level, letting, kind)])

            for lettings in product(range(small.gate + 1), repeat=small.seasons):
                def choose(season, level, before):
                    letting = min(lettings[season], level)
                    return letting, answered(season, level, before, letting)

                had = small.gone_by(level, before, small.seasons, choose)[0]
                self.assertLessEqual(had, rows[0, before][1 + level], small.text())

    def test_worst_is_just_what_is_sure(self):
        for small in self.lakes + [GREATEST]:
            for level, before in small.states()[::7]:
                sure, seasons = ask_many(small.text(), [at(0, level, before), worst(level, before)])
                self.assertEqual(seasons[1], sure[1])
                self.assertEqual(seasons[2:4], sure[2:4])

    def test_what_is_sure_is_never_less_at_a_higher_level(self):
        for small in self.lakes + [GREATEST]:
            pairs = list(product(range(small.seasons + 1), range(len(small.kinds))))
            for row in ask_many(small.text(), [table(*pair) for pair in pairs]):
                self.assertEqual(row[1:], sorted(row[1:]))


class Edges(unittest.TestCase):
    def test_a_lake_that_holds_nothing(self):
        text = "holds 0 seasons 1 gate 10 rest 99;weather a brings 20 then a;yields 3" + 10 * " 999" + ";"
        given = ask(lake(text), at(0, 0, 0), table(0, 0), table(1, 0), worst(0, 0), play(0, 0, [0]), play(0, 0, []))
        self.assertEqual(given[1:], [[0, 3, 0, 0], [0, 3], [0, 0], [0, 3, 0, 0, 0], [0, 3, 0, 0, 0], [0, 0]])

    def test_a_gate_that_lets_nothing_out(self):
        text = "holds 40 seasons 1 gate 0 rest 99;weather a brings 20 then a;yields 5;"
        given = ask(lake(text), at(0, 40, 0), at(0, 0, 0), worst(25, 0), table(1, 0))
        self.assertEqual(given[1:4], [[0, 3965, 0, 0], [0, 1985, 0, 0], [0, 3965, 0, 0, 40]])
        self.assertEqual(given[4], [0] + [99 * level for level in range(41)])

    def test_rest_of_0(self):
        text = "holds 3 seasons 2 gate 1 rest 0;weather a brings 0 then a;yields 0 4;"
        given = ask(lake(text), table(0, 0), table(1, 0), table(2, 0), worst(3, 0))
        self.assertEqual(given[1:], [[0, 0, 4, 8, 8], [0, 0, 4, 4, 4], [0, 0, 0, 0, 0], [0, 8, 1, 0, 2, 1, 0, 1]])

    def test_the_widest_gate_and_24_seasons(self):
        text = "holds 40 seasons 24 gate 10 rest 0;weather a brings 20 then a;yields 0 0 0 0 0 0 0 0 0 0 999;"
        given = ask(lake(text), worst(40, 0), play(40, 0, 24 * [0]), table(24, 0), at(23, 40, 0), at(23, 9, 0))
        self.assertEqual(given[1], [0, 24 * 999] + 24 * [10, 0, 40])
        self.assertEqual(given[2], given[1])
        self.assertEqual(given[3:], [[0] + 41 * [0], [0, 999, 10, 0], [0, 0, 0, 0]])

    def test_a_new_lake_is_reckoned_anew(self):
        other = SMALL.replace("rest 3", "rest 4")
        given = ask(lake(SMALL), table(2, 0), lake(other), table(2, 0), lake(SMALL), table(2, 0))
        self.assertEqual(given[1], [0, 0, 3, 6, 9, 12, 15])
        self.assertEqual(given[3], [0, 0, 4, 8, 12, 16, 20])
        self.assertEqual(given[5], given[1])


if __name__ == "__main__":
    unittest.main()
