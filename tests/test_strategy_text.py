"""What a strategy's text may hold, and what is wrong with it where: call strategy."""

import unittest

from tests.helper import GRAMMAR_WORDS, SMALL, as_bytes, ask, lake, marked, shown, strategy

LONG = SMALL.replace("seasons 2", "seasons 24")
RULE = "when level least 3 let 2;"
ELSE = "else let 0;"


class StrategyTexts(unittest.TestCase):
    def right(self, text, rules, there=SMALL):
        self.assertEqual(ask(lake(there), strategy(text)), [[0, 2, 2], [0, rules]], text)

    def wrong(self, kind, text, there=SMALL):
        clean, place = marked(text)
        self.assertEqual(ask(lake(there), strategy(clean))[1], [1, kind, place], text)


class RightTexts(StrategyTexts):
    def test_ordinary(self):
        self.right(ELSE, 0)
        self.right(RULE + ELSE, 1)
        self.right("when was wet and season 0 to 1 let 1;\nwhen level most 2 let 0;\nelse let 10;\n", 2)
        self.right("when level least 1 and level most 3 and was dry and was wet and season 1 to 1 let 4;" + ELSE, 1)

    def test_blanks(self):
        self.right("\n when\nlevel  least3let\n2 ;else let0;\n\n", 1)

    def test_edges_of_the_ranges(self):
        for condition in ("level least 0", "level least 40", "level most 0", "level most 40"):
            self.right(f"when {condition} let 0;" + ELSE, 1)
        for seasons in ("0 to 0", "0 to 23", "23 to 23", "5 to 5", "5 to 6"):
            self.right(f"when season {seasons} let 10;" + ELSE, 1, LONG)
        one = SMALL.replace("seasons 2", "seasons 1")
        self.right("when season 0 to 0 let 1;" + ELSE, 1, one)
        self.right("else let 10;", 0)

    def test_twelve_rules(self):
        self.right(12 * RULE + ELSE, 12)

    def test_texts_of_1500_bytes(self):
        self.right(ELSE + " " * (1500 - len(ELSE)), 0)
        self.wrong(1, ELSE + " " * (1499 - len(ELSE)) + "^;")

    def test_many_conditions_in_one_rule(self):
        self.right("when " + 90 * "was dry and " + "was wet let 1;" + ELSE, 1)


class WrongTexts(StrategyTexts):
    # Each piece, with what else could stand in its place without being wrong there as kind 1.
    PIECES = [
        ("when", "else"), ("level", "was season"), ("least", "most"), ("3", "7"),
        ("and", "let"), ("level", "was season"), ("most", "least"), ("4", "7"),
        ("and", "let"), ("was", "level season"), ("wet", "xyz"),
        ("and", "let"), ("season", "level was"), ("0", "7"), ("to", ""), ("1", "7"),
        ("let", "and"), ("2", "7"), (";", ""),
        ("when", "else"), ("was", "level season"), ("dry", "xyz"), ("let", "and"), ("1", "7"), (";", ""),
        ("else", "when"), ("let", ""), ("0", "7"), (";", ""),
    ]

    def until(self, count):
        return " ".join(piece for piece, others in self.PIECES[:count])

    def test_the_whole_text_is_right(self):
        self.right(self.until(len(self.PIECES)), 2)

    def test_every_piece_that_cannot_stand_where_it_stands(self):
        for number, (piece, others) in enumerate(self.PIECES + [("", "")]):
            for other in GRAMMAR_WORDS + [";", "7", "xyz"]:
                if other != piece and other not in others.split():
                    self.wrong(1, self.until(number) + " ^" + other + " ;")

    def test_what_is_no_piece_in_each_place(self):
        for number in range(len(self.PIECES) + 1):
            for nothing in ("?", "abcdefghi", "1000", "00", "07", "A"):
                self.wrong(1, self.until(number) + " ^" + nothing)

    def test_end_too_early_behind_every_piece(self):
        for number in range(len(self.PIECES)):
            self.wrong(1, self.until(number) + "^")
            self.wrong(1, self.until(number) + " \n^")

    def test_names_behind_was(self):
        self.wrong(2, "when was ^fog let 1;" + ELSE)
        self.wrong(2, "when was wet and was ^dr let 1;" + ELSE)
        self.wrong(2, "when was ^fog")
        self.wrong(2, "when was ^fog ? let 11;")
        for word in GRAMMAR_WORDS:
            self.wrong(1, f"when was ^{word} let 1;" + ELSE)

    def test_a_13th_when(self):
        self.wrong(3, 12 * RULE + "^" + RULE + ELSE)
        self.wrong(3, 12 * RULE + "^when")
        self.wrong(3, 12 * RULE + "^when ?")

    def test_numbers_out_of_their_range(self):
        for number in ("41", "99", "999"):
            self.wrong(4, f"when level least ^{number} let 1;" + ELSE)
            self.wrong(4, f"when level most ^{number} let 1;" + ELSE)
        for number in ("11", "40", "999"):
            self.wrong(4, f"when level least 3 let ^{number};" + ELSE)
            self.wrong(4, f"else let ^{number};")
        for seasons in ("^2 to 1", "^2 to 0", "^24 to 24", "0 to ^2", "1 to ^2", "1 to ^0", "1 to ^999", "^999 to 0"):
            self.wrong(4, f"when season {seasons} let 1;" + ELSE)
        for seasons in ("^24 to 1", "0 to ^24", "23 to ^22", "7 to ^6", "7 to ^0"):
            self.wrong(4, f"when season {seasons} let 1;" + ELSE, LONG)

    def test_the_first_from_the_left_counts(self):
        self.wrong(4, "when level least ^41 let 11; else")
        self.wrong(4, "when season ^5 to 3 let 1;" + ELSE)
        self.wrong(2, "when was ^fog and level least 41 let 1;" + ELSE)
        self.wrong(4, "when level most ^41 and was fog let 1;" + ELSE)
        self.wrong(1, "when level ^41 and was fog let 1;" + ELSE)
        self.wrong(4, "else let ^11")

    def test_a_lakes_text_is_no_strategy_and_the_other_way_round(self):
        self.wrong(1, "^" + SMALL)
        self.assertEqual(ask(lake(ELSE)), [[1, 1, 0]])

    def test_no_text_at_all(self):
        self.wrong(1, "^")


class AgainstTheLakeThatIsThereNow(StrategyTexts):
    def test_kinds_and_seasons_are_those_of_the_last_lake(self):
        fog = "holds 9 seasons 3 gate 0 rest 1;weather fog brings 1 then fog;yields 1;"
        foggy = strategy("when was fog and season 2 to 2 let 1;" + ELSE)
        wetly = strategy("when was wet let 1;" + ELSE)
        late = strategy("when season 2 to 2 let 1;" + ELSE)
        given = ask(lake(SMALL), foggy, wetly, late, lake(fog), foggy, wetly, late, lake("?"), foggy, wetly)
        wrong, right = [1, 2, 9], [0, 1]
        self.assertEqual(given[1:4], [wrong, right, [1, 4, 12]])
        self.assertEqual(given[5:8], [right, wrong, right])
        self.assertEqual(given[9:], [right, wrong])

    def test_levels_and_lettings_do_not_hang_on_the_lake(self):
        tiny = "holds 0 seasons 1 gate 0 rest 1;weather a brings 1 then a;weather b brings 1 then a;yields 1;yields 1;"
        self.right("when level least 40 let 10;else let 10;", 1, tiny)

    def test_a_strategy_leaves_the_lake_as_it_was(self):
        given = ask(lake(SMALL), strategy(RULE + ELSE), shown(), strategy("else"), shown())
        self.assertEqual(given[2], [0] + as_bytes(SMALL))
        self.assertEqual(given[4], given[2])


if __name__ == "__main__":
    unittest.main()
