"""How texts are shown: lines of pieces, and their bytes."""


def shown_line(words):
    return " ".join([str(word) for word in words]) + ";\n"


def byte_row(text):
    return [ord(sign) for sign in text]
