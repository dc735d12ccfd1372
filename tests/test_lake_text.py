"""What a lake's text may hold, and what is wrong with it where: calls lake and where."""

import unittest

from tests.helper import GRAMMAR_WORDS, SMALL, as_bytes, ask, at, lake, marked, shown, where

HEAD = "holds 5 seasons 2 gate 1 rest 3;"
KIND = "weather dry brings 0 then dry;"
YIELDS = "yields 1 2;"

# Places among the pieces below: there wet is no kind's yet, and there the text may end.
BEHIND_FIRST_KIND = 17
BEHIND_FIRST_YIELDS = 28


class LakeTexts(unittest.TestCase):
    def right(self, text, kinds, tables):
        self.assertEqual(ask(lake(text), where(text)), [[0, kinds, tables], [0]], text)

    def wrong(self, kind, text):
        clean, place = marked(text)
        expected = [1, kind, place]
        self.assertEqual(ask(lake(clean), where(clean)), [expected, expected], text)


class RightTexts(LakeTexts):
    def test_ordinary(self):
        self.right(HEAD + KIND + YIELDS, 1, 1)
        self.right(SMALL, 2, 2)

    def test_blanks_are_bytes_32_and_10_anywhere_between_pieces(self):
        self.right("\n  holds\n5 seasons 2\n\ngate 1 rest 3 ;\n" + KIND + " \n yields\n1\n2\n;\n \n", 1, 1)

    def test_no_blank_is_needed_where_pieces_end_anyway(self):
        self.right("holds5seasons2gate1rest3;weather dry brings0then dry;yields1 2;", 1, 1)

    def test_least_and_greatest_of_every_range(self):
        self.right("holds 0 seasons 1 gate 0 rest 0;weather a brings 0 then a;yields 0;", 1, 1)
        kinds = "".join(f"weather {name} brings 20 then d c b a;" for name in "abcd")
        self.right("holds 40 seasons 24 gate 10 rest 99;" + kinds + 4 * ("yields" + 11 * " 999" + ";"), 4, 4)

    def test_names_of_one_and_of_eight_letters(self):
        self.right(HEAD + "weather abcdefgz brings 0 then abcdefgz z;weather z brings 1 then z;" + YIELDS, 2, 1)

    def test_words_near_those_of_the_grammar_are_names(self):
        for name in ("hold", "weathers", "lets", "tot", "o", "seasonal", "an"):
            self.right(HEAD + f"weather {name} brings 0 then {name};" + YIELDS, 1, 1)

    def test_kinds_behind_then_are_told_before_or_behind(self):
        self.right(
            HEAD + "weather a brings 0 then c b a;weather b brings 0 then a;weather c brings 0 then b;" + YIELDS, 3, 1
        )

    def test_texts_of_1500_bytes(self):
        text = HEAD + KIND + YIELDS
        self.right(text + " " * (1500 - len(text)), 1, 1)
        self.wrong(1, text + " " * (1499 - len(text)) + "^x")
        self.wrong(1, "\n" * 1500 + "^")


class WrongPieces(LakeTexts):
    def test_bytes_that_are_in_no_piece(self):
        for byte in [number for number in range(256) if not (97 <= number <= 122 or 48 <= number <= 57)]:
            if byte not in (32, 10, 59):
                sign = bytes([byte]).decode("latin-1")
                if sign == "^":
                    continue  # the mark of these tests
                self.wrong(1, HEAD + "^" + sign + KIND + YIELDS)
                self.wrong(1, f"holds ^{sign} seasons 2")
                self.wrong(1, f"holds 5^{sign} seasons 2")
                self.wrong(1, f"holds 5 seasons^{sign} 2")
                self.wrong(1, HEAD + f"weather ^{sign} brings 0")
                self.wrong(1, HEAD + f"weather a^{sign} brings 0")
        self.assertEqual(ask(lake("holds ^"), lake("^"), lake("holds^ 5")), [[1, 1, 6], [1, 1, 0], [1, 1, 5]])

    def test_words_of_nine_letters(self):
        self.wrong(1, HEAD + "weather ^abcdefghi brings 0 then a;" + YIELDS)
        self.wrong(1, HEAD + "weather a brings 0 then ^abcdefghi;" + YIELDS)
        self.wrong(1, HEAD + "^weatherdry brings 0 then dry;" + YIELDS)
        self.wrong(1, "^holdsholds 5")

    def test_numbers_of_four_digits_or_with_a_0_in_front(self):
        for number in ("1000", "00", "01", "005", "0999", "12345678901234567890"):
            self.wrong(1, f"holds ^{number} seasons 2 gate 1 rest 3;" + KIND + YIELDS)
            self.wrong(1, f"holds 5 seasons ^{number} gate 1 rest 3;" + KIND + YIELDS)
            self.wrong(1, HEAD + f"weather dry brings ^{number} then dry;" + YIELDS)
            self.wrong(1, HEAD + KIND + f"yields 1 ^{number};")

    def test_signs_and_points_are_no_numbers(self):
        for number in ("^-1", "^+1", "1^.5", "1^,"):
            self.wrong(1, f"holds {number} seasons 2 gate 1 rest 3;" + KIND + YIELDS)

    def test_a_piece_is_as_long_as_can_be(self):
        self.wrong(1, "holds 5 ^season s 2")
        self.wrong(1, "holds 5 ^seasonsgate 2")
        self.wrong(1, "holds 5 seasons 2 ^3 gate 1")
        self.wrong(4, "holds ^41 seasons")

    def test_words_of_both_grammars_are_no_names(self):
        for word in GRAMMAR_WORDS:
            self.wrong(1, HEAD + f"weather ^{word} brings 0 then dry;" + YIELDS)
            self.wrong(1, HEAD + f"weather dry brings 0 then ^{word};" + YIELDS)
            self.wrong(1, HEAD + f"weather dry brings 0 then dry ^{word};" + YIELDS)


class WrongPlaces(LakeTexts):
    # Each piece, with what else could stand in its place without being wrong there as kind 1.
    PIECES = [
        ("holds", ""), ("5", "7"), ("seasons", ""), ("2", "7"), ("gate", ""), ("1", "7"), ("rest", ""), ("3", "7"),
        (";", ""),
        ("weather", ""), ("dry", "xyz"), ("brings", ""), ("0", "7"), ("then", ""), ("dry", "xyz"), ("wet", "xyz ;"),
        (";", "xyz"),
        ("weather", "yields"), ("wet", "xyz"), ("brings", ""), ("4", "7"), ("then", ""), ("dry", "xyz"), (";", "xyz"),
        ("yields", "weather"), ("0", "7"), ("5", "7"), (";", ""),
        ("yields", ""), ("1", "7"), ("2", "7"), (";", ""),
    ]

    def until(self, count):
        return " ".join(piece for piece, others in self.PIECES[:count])

    def test_the_whole_text_is_right(self):
        self.right(self.until(len(self.PIECES)), 2, 2)

    def test_every_piece_that_cannot_stand_where_it_stands(self):
        for number, (piece, others) in enumerate(self.PIECES):
            if number == BEHIND_FIRST_KIND:
                continue
            for other in GRAMMAR_WORDS + [";", "7", "xyz"]:
                if other != piece and other not in others.split():
                    self.wrong(1, self.until(number) + " ^" + other + " ;")

    def test_what_cannot_stand_behind_a_kind(self):
        for other in GRAMMAR_WORDS + [";", "7", "xyz"]:
            if other not in ("weather", "yields"):
                self.wrong(1, HEAD + KIND + "^" + other)
            if other != "yields":
                self.wrong(1, HEAD + KIND + YIELDS + "^" + other)

    def test_what_is_no_piece_in_each_place(self):
        for number in range(len(self.PIECES) + 1):
            if number != BEHIND_FIRST_KIND:
                self.wrong(1, self.until(number) + " ^? " + "x")
        self.wrong(2, "holds 5 seasons 2 gate 1 rest 3 ; weather dry brings 0 then dry ^wet ; ? x")

    def test_end_too_early_behind_every_piece(self):
        for number in range(len(self.PIECES)):
            if number not in (BEHIND_FIRST_KIND, BEHIND_FIRST_YIELDS):
                self.wrong(1, self.until(number) + "^")
                self.wrong(1, self.until(number) + " \n ^")
        self.wrong(2, "holds 5 seasons 2 gate 1 rest 3 ; weather dry brings 0 then dry ^wet ; ")
        self.right(self.until(BEHIND_FIRST_YIELDS), 2, 1)

    def test_no_text_at_all(self):
        self.wrong(1, "^")
        self.wrong(1, " \n^")

    def test_yields_with_too_many_or_too_few_numbers(self):
        self.wrong(1, HEAD + KIND + "yields 1 2 ^3;")
        self.wrong(1, HEAD + KIND + "yields 1 2 ^1000;")
        self.wrong(1, HEAD + KIND + "yields 1^;")
        self.wrong(1, HEAD + KIND + "yields ^;")
        self.wrong(1, HEAD + KIND + YIELDS + "yields 1 2 ^3;")
        self.wrong(1, HEAD + KIND + YIELDS + "yields 1^;")
        flat = "holds 5 seasons 2 gate 0 rest 3;" + KIND
        self.right(flat + "yields 7;", 1, 1)
        self.wrong(1, flat + "yields 7 ^7;")
        self.wrong(1, flat + "yields^;")
        wide = "holds 5 seasons 2 gate 10 rest 3;" + KIND
        self.right(wide + "yields" + 11 * " 8" + ";", 1, 1)
        self.wrong(1, wide + "yields" + 11 * " 8" + " ^8;")
        self.wrong(1, wide + "yields" + 10 * " 8" + "^;")


class UnknownKinds(LakeTexts):
    def test_a_name_behind_then_that_is_no_kinds(self):
        self.wrong(2, HEAD + "weather a brings 0 then ^b;" + YIELDS)
        self.wrong(2, HEAD + "weather a brings 0 then a ^b;" + YIELDS)
        self.wrong(2, HEAD + "weather a brings 0 then b;weather b brings 1 then ^aa;" + YIELDS)

    def test_the_first_of_several(self):
        self.wrong(2, HEAD + "weather a brings 0 then b ^c d;weather b brings 1 then e;" + YIELDS)
        self.wrong(2, HEAD + "weather a brings 0 then a b ^c d e;weather b brings 1 then a;" + YIELDS)

    def test_ahead_of_what_stands_behind(self):
        for behind in ("", " ", "?", "5", ";", "x", "weathers", "weatherab", "yields", "yields ;", "yields 1000", "holds",
                       YIELDS + "?", 4 * YIELDS + "yields"):
            self.wrong(2, HEAD + "weather a brings 0 then ^b;" + behind)
            self.wrong(2, HEAD + "weather a brings 0 then ^b;weather c brings 0 then d;" + behind)

    def test_behind_all_that_is_wrong_up_to_the_last_kind(self):
        told = HEAD + "weather a brings 0 then b"
        self.wrong(1, told + " ^?;" + YIELDS)
        self.wrong(1, told + "^")
        self.wrong(1, told + " ^7;" + YIELDS)
        self.wrong(3, told + " ^b;" + YIELDS)
        self.wrong(3, told + " c ^b;" + YIELDS)
        self.wrong(1, told + ";weather^")
        self.wrong(1, told + ";weather ^then")
        self.wrong(3, told + ";weather ^a brings 0 then a;" + YIELDS)
        self.wrong(4, told + ";weather c brings ^21 then a;" + YIELDS)
        self.wrong(1, told + ";weather c brings 2 then ^;" + YIELDS)
        self.wrong(1, told + ";weather c brings 2 then c^")
        self.wrong(3, told + ";weather c brings 2 then c ^c;" + YIELDS)
        self.wrong(
            3, told + ";" + "".join(f"weather {name} brings 1 then x;" for name in "cde") + "weather ^b brings 0 then b;"
        )


class ToldTooOften(LakeTexts):
    def test_a_kind_told_already(self):
        self.wrong(3, HEAD + KIND + "weather ^dry brings 0 then dry;" + YIELDS)
        self.wrong(3, HEAD + KIND + "weather a brings 0 then a;weather ^dry?")

    def test_a_fifth_kind(self):
        four = HEAD + "".join(f"weather {name} brings 0 then a b c d;" for name in "abcd")
        self.right(four + YIELDS, 4, 1)
        self.wrong(3, four + "weather ^e brings 0 then a;" + YIELDS)
        self.wrong(3, four + "weather ^a brings 0 then a;" + YIELDS)
        self.wrong(3, four + "weather ^e")
        self.wrong(1, four + "weather^")
        self.wrong(1, four + "weather ^7")
        self.wrong(1, four + "weather ^to brings")

    def test_a_name_told_twice_behind_one_then(self):
        self.wrong(3, HEAD + "weather a brings 0 then a ^a;" + YIELDS)
        self.wrong(3, HEAD + "weather a brings 0 then b a ^b a;weather b brings 0 then a;" + YIELDS)
        self.right(HEAD + "weather a brings 0 then a b;weather b brings 0 then a b;" + YIELDS, 2, 1)

    def test_more_than_four_names_behind_then_are_told_by_the_first_unknown(self):
        self.wrong(2, HEAD + "weather a brings 0 then a ^b c d e f;" + YIELDS)

    def test_a_fifth_yields(self):
        self.right(HEAD + KIND + 4 * YIELDS, 1, 4)
        self.wrong(3, HEAD + KIND + 4 * YIELDS + "^" + YIELDS)
        self.wrong(3, HEAD + KIND + 4 * YIELDS + "^yields")
        self.wrong(3, HEAD + KIND + 4 * YIELDS + "^yields ;")


class OutOfRange(LakeTexts):
    def test_every_range(self):
        for number in ("41", "99", "999"):
            self.wrong(4, f"holds ^{number} seasons 2 gate 1 rest 3;" + KIND + YIELDS)
        for number in ("0", "25", "999"):
            self.wrong(4, f"holds 5 seasons ^{number} gate 1 rest 3;" + KIND + YIELDS)
        for number in ("11", "20", "999"):
            self.wrong(4, f"holds 5 seasons 2 gate ^{number} rest 3;" + KIND + YIELDS)
        for number in ("100", "999"):
            self.wrong(4, f"holds 5 seasons 2 gate 1 rest ^{number};" + KIND + YIELDS)
        for number in ("21", "40", "999"):
            self.wrong(4, HEAD + f"weather dry brings ^{number} then dry;" + YIELDS)

    def test_the_first_from_the_left_counts(self):
        self.wrong(4, "holds ^41 seasons 0 gate 11 rest 100;")
        self.wrong(4, "holds ^41")
        self.wrong(4, "holds ^41 ?")
        self.wrong(1, "holds ^seasons 0")
        self.wrong(1, "holds 5 ^? seasons 0")
        self.wrong(4, "holds 5 seasons ^0 gate 011")
        self.wrong(4, HEAD + "weather a brings ^21 then b b;")


class NothingChanges(unittest.TestCase):
    def test_a_wrong_text_leaves_the_lake_as_it_was(self):
        wrong = "holds 9 seasons 9 gate 1 rest 1;weather z brings 9 then z;yields 1;"
        for text in (wrong, "", wrong + "?", "holds 41"):
            given = ask(lake(SMALL), shown(), at(0, 3, 0), lake(text), shown(), at(0, 3, 0))
            self.assertEqual(given[3][0], 1)
            self.assertEqual(given[4:], given[1:3])
            self.assertEqual(bytes(given[4][1:]).decode(), SMALL)

    def test_a_wrong_first_text_leaves_no_lake(self):
        self.assertEqual(ask(lake("holds"), shown()), [[1, 1, 5], [-20]])

    def test_where_changes_nothing(self):
        other = HEAD + KIND + YIELDS
        given = ask(where(other), shown(), lake(SMALL), where(other), where("?"), shown())
        self.assertEqual(given, [[0], [-20], [0, 2, 2], [0], [1, 1, 0], [0] + as_bytes(SMALL)])


if __name__ == "__main__":
    unittest.main()
