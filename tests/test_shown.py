"""How a lake is shown: call shown."""

import unittest
from random import Random

from tests.helper import SMALL, ask, lake, shown, small_lakes


def shown_text(text):
    given = ask(lake(text), shown())[1]
    assert given[0] == 0
    return bytes(given[1:]).decode()


class Shown(unittest.TestCase):
    def test_every_byte(self):
        text = "holds 0 seasons 1 gate 0 rest 0;weather a brings 0 then a;yields 7;"
        expected = [104, 111, 108, 100, 115, 32, 48, 32, 115, 101, 97, 115, 111, 110, 115, 32, 49, 32]
        expected += [103, 97, 116, 101, 32, 48, 32, 114, 101, 115, 116, 32, 48, 59, 10]
        expected += [119, 101, 97, 116, 104, 101, 114, 32, 97, 32, 98, 114, 105, 110, 103, 115, 32, 48, 32]
        expected += [116, 104, 101, 110, 32, 97, 59, 10]
        expected += [121, 105, 101, 108, 100, 115, 32, 55, 59, 10]
        self.assertEqual(ask(lake(text), shown())[1], [0] + expected)

    def test_one_blank_between_and_a_line_for_each_part(self):
        text = "\n holds 5\nseasons   2 gate 2 rest 3 ;weather dry\n\nbrings 0then dry wet;weather wet brings 4 then dry ; "
        text += "yields 0 5 7;yields 1 2 9 ;  "
        self.assertEqual(shown_text(text), SMALL)

    def test_kinds_and_next_ones_keep_their_order(self):
        text = (
            "holds 40 seasons 24 gate 10 rest 99;\n"
            "weather z brings 20 then m z abcdefgh b;\n"
            "weather b brings 0 then z;\n"
            "weather m brings 10 then b z;\n"
            "weather abcdefgh brings 1 then m;\n"
            "yields 999 0 1 10 100 5 50 500 9 90 900;\n"
            "yields 0 0 0 0 0 0 0 0 0 0 0;\n"
            "yields 0 1 2 3 4 5 6 7 8 9 10;\n"
            "yields 10 9 8 7 6 5 4 3 2 1 0;\n"
        )
        self.assertEqual(shown_text(text), text)
        self.assertEqual(shown_text(text.replace("\n", "")), text)

    def test_what_is_shown_is_a_text_of_the_same_lake(self):
        for small in small_lakes(Random(3), 40):
            self.assertEqual(shown_text(small.text()), small.text())

    def test_the_last_lake_is_shown(self):
        other = "holds 1 seasons 1 gate 0 rest 0;\nweather a brings 0 then a;\nyields 7;\n"
        given = ask(lake(SMALL), shown(), lake(other), shown(), shown())
        self.assertEqual([bytes(row[1:]).decode() for row in (given[1], given[3], given[4])], [SMALL, other, other])


if __name__ == "__main__":
    unittest.main()
