"""A text's pieces, and a reader that takes them one by one from the left."""

LETTERS = "abcdefghijklmnopqrstuvwxyz"
FIRST_LETTER = 97
LAST_LETTER = 122
FIRST_DIGIT = 48
LAST_DIGIT = 57
SEMICOLON = 59
BLANKS = (32, 10)
LONGEST_WORD = 8
LONGEST_NUMBER = 3

# The words of both grammars: none of them is a NAME in either text.
GRAMMAR_WORDS = (
    "holds", "seasons", "gate", "rest", "weather", "brings", "then", "yields",
    "when", "and", "let", "else", "level", "least", "most", "was", "season", "to",
)

CANNOT_STAND = 1
NO_KIND = 2
TOO_OFTEN = 3
OUT_OF_RANGE = 4


class WrongText(Exception):
    def __init__(self, kind, place):
        Exception.__init__(self, "the text is wrong")
        self.kind = kind
        self.place = place


class Piece:
    # The text's end and what is no piece have neither a word nor a number,
    # so that they can stand nowhere; a semicolon is the word ";".
    def __init__(self, place, word, number):
        self.place = place
        self.word = word
        self.number = number


def run_end(text, place, first, last):
    end = place
    while end < len(text) and first <= text[end] <= last:
        end += 1
    return end


def word_of(run):
    if len(run) > LONGEST_WORD:
        return None
    return "".join([LETTERS[byte - FIRST_LETTER] for byte in run])


def number_of(run):
    if len(run) > LONGEST_NUMBER or (len(run) > 1 and run[0] == FIRST_DIGIT):
        return None
    number = 0
    for byte in run:
        number = number * 10 + byte - FIRST_DIGIT
    return number


def cut(text):
    pieces = []
    place = 0
    while place < len(text):
        word_end = run_end(text, place, FIRST_LETTER, LAST_LETTER)
        number_end = run_end(text, place, FIRST_DIGIT, LAST_DIGIT)
        if word_end > place:
            pieces.append(Piece(place, word_of(text[place:word_end]), None))
            place = word_end
        elif number_end > place:
            pieces.append(Piece(place, None, number_of(text[place:number_end])))
            place = number_end
        else:
            if text[place] == SEMICOLON:
                pieces.append(Piece(place, ";", None))
            elif text[place] not in BLANKS:
                pieces.append(Piece(place, None, None))
            place += 1
    pieces.append(Piece(len(text), None, None))
    return pieces


class Reader:
    def __init__(self, text):
        self.pieces = cut(text)
        self.taken = 0

    def ahead(self):
        return self.pieces[self.taken]

    def here(self):
        return self.ahead().place

    def sees(self, word):
        return self.ahead().word == word

    def take_word(self, word):
        if not self.sees(word):
            raise WrongText(CANNOT_STAND, self.here())
        self.taken += 1

    def take_name(self):
        word = self.ahead().word
        if word is None or word == ";" or word in GRAMMAR_WORDS:
            raise WrongText(CANNOT_STAND, self.here())
        self.taken += 1
        return word

    def take_number(self, least, most):
        number = self.ahead().number
        if number is None:
            raise WrongText(CANNOT_STAND, self.here())
        if number < least or number > most:
            raise WrongText(OUT_OF_RANGE, self.here())
        self.taken += 1
        return number

    def take_end(self):
        if self.taken < len(self.pieces) - 1:
            raise WrongText(CANNOT_STAND, self.here())
