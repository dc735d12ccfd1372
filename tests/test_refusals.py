"""Refusals: their numbers, their order, and that they change nothing."""

import unittest

from tests.helper import (
    LEAST_WHOLE, MOST_WHOLE, SMALL, against, as_bytes, ask, at, clear, counts, known, lake, more, play, shown, strategy, sure,
    table, told, weathers, where, worst,
)

FAR = [LEAST_WHOLE, LEAST_WHOLE + 1, -2 ** 32, -6, -1, 2 ** 31, 2 ** 32, MOST_WHOLE - 1, MOST_WHOLE]
# Of SMALL: 2 seasons, levels 0 to 5, 2 kinds.
NO_SEASONS = FAR + [2, 3]
NO_LEVELS = FAR + [6, 40, 41]
NO_KINDS = FAR + [2, 3, 4]
NO_BYTES = [LEAST_WHOLE, -256, -1, 256, 257, 288, MOST_WHOLE]


class Refusals(unittest.TestCase):
    def refused(self, number, *calls):
        """Each call is refused, and the lake, the strategy and what's sure stay as they were."""
        plan = "when was wet let 1;\nelse let 2;\n"
        for call in calls:
            asked = [shown(), table(0, 0), told(), sure(4, 0), counts()]
            given = ask(lake(SMALL), strategy(plan), *asked, call, *asked)
            self.assertEqual(given[7], [number], call)
            self.assertEqual(given[8:], given[2:7])
            self.assertEqual([given[8], given[10]], [[0] + as_bytes(SMALL), [0] + as_bytes(plan)])

    def without_lake(self, call):
        self.assertEqual(ask(call, call), [[-20], [-20]])
        self.assertEqual(ask(where(SMALL), lake("holds"), lake([256]), call)[3], [-20])


class NoLake(Refusals):
    def test_calls_as_they_should_be(self):
        for call in (shown(), at(0, 0, 0), table(0, 0), worst(0, 0), play(0, 0, []), play(0, 0, [0]), strategy("else let 0;"),
                     told(), sure(0, 0), against(0, 0, []), against(0, 0, [0]), known(0, 0, [0]), more(0, 0, 0), weathers(), counts()):
            self.without_lake(call)

    def test_ahead_of_all_else(self):
        for call in (at(-1, 99, MOST_WHOLE), table(25, 4), worst(41, -1), play(-1, -1, 40 * [-1]), play(0, 0, [LEAST_WHOLE]),
                     strategy(""), strategy("?"), strategy([256]), strategy(1501 * [32]), strategy(1600 * [-1]),
                     sure(-1, 0), sure(0, 4), against(41, 0, []), against(0, 0, 40 * [7]), known(0, 0, []), known(-1, -1, 25 * [0]),
                     more(41, 0, 0), more(-1, -1, -1), more(40, 40, 0)):
            self.without_lake(call)

    def test_lake_where_and_clear_need_none(self):
        self.assertEqual(ask(where(SMALL), where("?"), where([256]), clear(), lake("?"), lake([256]), lake(SMALL), shown())[:7],
                         [[0], [1, 1, 0], [-1], [0], [1, 1, 0], [-1], [0, 2, 2]])


class NotAsTold(Refusals):
    def test_texts_longer_than_1500_bytes(self):
        for length in (1501, 1502, 1600):
            text = SMALL + " " * (length - len(SMALL))
            self.refused(-1, lake(text), where(text), strategy("else let 0;" + " " * (length - 11)))
        text = SMALL + " " * (1500 - len(SMALL))
        self.assertEqual(ask(lake(text), where(text), strategy("else let 0;" + " " * 1489)), [[0, 2, 2], [0], [0, 0]])

    def test_no_bytes_in_a_text(self):
        for number in NO_BYTES:
            for text in ([number], as_bytes(SMALL) + [number], [number] + as_bytes(SMALL), as_bytes(SMALL)[:9] + [number, 32]):
                self.refused(-1, lake(text), where(text), strategy(text))

    def test_bytes_0_and_255_are_bytes(self):
        for byte in (0, 255):
            self.assertEqual(ask(lake(SMALL), lake([byte]), where([byte]), strategy([byte]))[1:], 3 * [[1, 1, 0]])

    def test_ahead_of_what_is_wrong_with_a_text(self):
        self.refused(-1, lake([63, 256]), where([63, 256]), strategy([63, 256]))
        self.refused(-1, lake(1501 * [63]), where(1501 * [63]), strategy(1501 * [63]))

    def test_at(self):
        self.refused(-1, *[at(number, 0, 0) for number in NO_SEASONS])
        self.refused(-1, *[at(0, number, 0) for number in NO_LEVELS])
        self.refused(-1, *[at(0, 0, number) for number in NO_KINDS])
        self.assertEqual([row[0] for row in ask(lake(SMALL), at(0, 0, 0), at(1, 5, 1))[1:]], [0, 0])

    def test_table(self):
        self.refused(-1, *[table(number, 0) for number in NO_SEASONS if number != 2])
        self.refused(-1, *[table(2, number) for number in NO_KINDS])
        self.assertEqual([len(row) for row in ask(lake(SMALL), table(0, 0), table(2, 1))[1:]], [7, 7])

    def test_worst(self):
        self.refused(-1, *[worst(number, 0) for number in NO_LEVELS])
        self.refused(-1, *[worst(0, number) for number in NO_KINDS])
        self.assertEqual([len(row) for row in ask(lake(SMALL), worst(0, 0), worst(5, 1))[1:]], [8, 8])

    def test_play(self):
        self.refused(-1, *[play(number, 0, [0]) for number in NO_LEVELS])
        self.refused(-1, *[play(0, number, [0]) for number in NO_KINDS])
        self.refused(-1, *[play(0, number, []) for number in NO_KINDS])
        self.refused(-1, *[play(0, 0, [number]) for number in NO_KINDS])
        self.refused(-1, *[play(0, 0, [0, number]) for number in NO_KINDS])
        self.refused(-1, play(0, 0, 3 * [0]), play(0, 0, 40 * [0]))
        self.assertEqual([len(row) for row in ask(lake(SMALL), play(0, 0, []), play(5, 1, [0, 1]))[1:]], [2, 8])

    def test_sure(self):
        self.refused(-1, *[sure(number, 0) for number in NO_LEVELS])
        self.refused(-1, *[sure(0, number) for number in NO_KINDS])
        self.assertEqual([len(row) for row in ask(lake(SMALL), sure(0, 0), sure(5, 1))[1:]], [3, 3])

    def test_against(self):
        self.refused(-1, *[against(number, 0, [0]) for number in NO_LEVELS])
        self.refused(-1, *[against(0, number, [0]) for number in NO_KINDS])
        self.refused(-1, *[against(0, number, []) for number in NO_KINDS])
        self.refused(-1, *[against(0, 0, [number]) for number in NO_KINDS])
        self.refused(-1, *[against(0, 0, [0, number]) for number in NO_KINDS])
        self.refused(-1, against(0, 0, 3 * [0]), against(0, 0, 40 * [0]))
        self.assertEqual([len(row) for row in ask(lake(SMALL), against(0, 0, []), against(5, 1, [0, 1]))[1:]], [2, 8])

    def test_known(self):
        self.refused(-1, *[known(number, 0, [0, 0]) for number in NO_LEVELS])
        self.refused(-1, *[known(0, number, [0, 0]) for number in NO_KINDS])
        self.refused(-1, *[known(0, 0, [number, 0]) for number in NO_KINDS])
        self.refused(-1, *[known(0, 0, [0, number]) for number in NO_KINDS])
        self.assertEqual([len(row) for row in ask(lake(SMALL), known(0, 0, [0, 0]), known(5, 1, [0, 1]))[1:]], [2, 2])

    def test_known_of_a_weather_that_is_not_for_just_all_seasons(self):
        self.refused(-1, known(0, 0, []), known(0, 0, [0]), known(0, 0, 3 * [0]), known(0, 0, 40 * [0]))
        text = SMALL.replace("seasons 2", "seasons 24")
        given = ask(lake(text), *[known(5, 0, seasons * [0]) for seasons in (0, 23, 24, 25)])
        self.assertEqual([row[0] for row in given[1:]], [-1, -1, 0, -1])

    def test_more(self):
        self.refused(-1, *[more(number, 0, 0) for number in FAR + [41, 42]])
        self.refused(-1, *[more(0, number, 0) for number in NO_LEVELS])
        self.refused(-1, *[more(0, 0, number) for number in NO_KINDS])
        self.assertEqual([len(row) for row in ask(lake(SMALL), more(0, 0, 0), more(35, 5, 1))[1:]], [3, 3])

    def test_levels_of_more_are_those_of_the_lake_as_it_is(self):
        self.refused(-1, more(1, 6, 0), more(35, 6, 0), more(35, 40, 0))

    def test_weathers_of_all_24_seasons_and_of_one_more(self):
        text = SMALL.replace("seasons 2", "seasons 24")
        given = ask(lake(text), play(5, 0, 24 * [0]), play(5, 0, 25 * [0]), play(5, 0, 23 * [0]))
        self.assertEqual([row[:1] for row in given[1:]], [[0], [-1], [0]])
        self.assertEqual([len(row) for row in given[1:]], [2 + 72, 1, 2 + 69])

    def test_edges_hang_on_the_lake_that_is_there_now(self):
        one = "holds 0 seasons 1 gate 0 rest 0;weather a brings 0 then a;yields 1;"
        calls = [at(1, 0, 0), at(0, 1, 0), at(0, 0, 1), table(2, 0), worst(1, 0), worst(0, 1), play(0, 0, [0, 0]), play(0, 0, [1]),
                 sure(1, 0), sure(0, 1), against(0, 0, [0, 0]), against(0, 0, [1]), known(0, 0, [0, 0]), more(0, 1, 0), more(0, 0, 1)]
        self.assertEqual([row[0] for row in ask(lake(SMALL), *calls)[1:]], 15 * [0])
        self.assertEqual(ask(lake(SMALL), lake(one), *calls)[2:], 15 * [[-1]])


class TooGreat(Refusals):
    def test_a_lake_that_would_hold_more_than_40(self):
        self.refused(-3, more(36, 0, 0), more(37, 5, 1), more(40, 0, 0))

    def test_behind_what_is_not_as_told(self):
        self.refused(-1, more(41, 0, 0), more(36, 6, 0), more(36, -1, 0), more(36, 0, 2), more(40, 0, -1), more(40, 41, 0))


class CannotCome(Refusals):
    def test_kinds_that_do_not_follow(self):
        self.refused(-3, play(0, 1, [1]), play(5, 0, [1, 1]), play(5, 1, [1, 0]))
        given = ask(lake(SMALL), play(0, 1, [0]), play(5, 0, [1, 0]), play(5, 1, [0, 1]), play(0, 1, []))
        self.assertEqual([row[0] for row in given[1:]], 4 * [0])

    def test_behind_what_is_not_as_told(self):
        self.refused(-1, play(6, 1, [1]), play(-1, 0, [1, 1]), play(0, 2, [1, 1]), play(0, 1, [1, 2]), play(0, 1, [1, 0, 1]),
                     play(0, 1, [1, 1, 1]), play(0, 0, [1, 1, 0]))

    def test_against(self):
        self.refused(-3, against(0, 1, [1]), against(5, 0, [1, 1]), against(5, 1, [1, 0]))
        self.refused(-1, against(6, 1, [1]), against(-1, 0, [1, 1]), against(0, 2, [1, 1]), against(0, 1, [1, 2]),
                     against(0, 1, [1, 0, 1]), against(0, 1, [1, 1, 1]), against(0, 0, [1, 1, 0]))
        given = ask(lake(SMALL), against(0, 1, [0]), against(5, 0, [1, 0]), against(5, 1, [0, 1]), against(0, 1, []))
        self.assertEqual([row[0] for row in given[1:]], 4 * [0])

    def test_known(self):
        self.refused(-3, known(0, 1, [1, 0]), known(5, 0, [1, 1]), known(5, 1, [1, 1]))
        self.refused(-1, known(6, 1, [1, 0]), known(-1, 0, [1, 1]), known(0, 2, [1, 1]), known(0, 1, [1, 2]), known(0, 1, [1]),
                     known(0, 1, [1, 0, 1]), known(0, 0, [1, 1, 0]))
        given = ask(lake(SMALL), known(0, 1, [0, 0]), known(5, 0, [1, 0]), known(5, 1, [0, 1]))
        self.assertEqual([row[0] for row in given[1:]], 3 * [0])

    def test_a_kind_need_not_follow_itself(self):
        text = "holds 1 seasons 3 gate 0 rest 0;weather a brings 0 then b;weather b brings 0 then c;weather c brings 0 then a;yields 1;"
        given = ask(lake(text), play(0, 0, [1, 2, 0]), play(0, 0, [1, 2, 1]), play(0, 0, [0]), play(0, 2, [0, 1, 2]), play(0, 1, [1]))
        self.assertEqual([row[0] for row in given[1:]], [0, -3, -3, 0, -3])


if __name__ == "__main__":
    unittest.main()
