"""A lake's text: read, and shown."""

from seasonlake.lakes import Kind, Lake
from seasonlake.pieces import NO_KIND, TOO_OFTEN, Reader, WrongText
from seasonlake.showing import byte_row, shown_line

MOST_HELD = 40
MOST_SEASONS = 24
WIDEST_GATE = 10
MOST_REST = 99
MOST_BROUGHT = 20
MOST_YIELDED = 999
MOST_KINDS = 4
MOST_TABLES = 4


def number_behind(reader, word, least, most):
    reader.take_word(word)
    return reader.take_number(least, most)


def read_kind_name(reader, names):
    place = reader.here()
    name = reader.take_name()
    if name in names or len(names) == MOST_KINDS:
        raise WrongText(TOO_OFTEN, place)
    return name


# Gives each name with its place, since a kind may be told behind the one that names it:
# only when all kinds are told can it be seen whether a name is a kind's.
def read_follows(reader):
    reader.take_word("then")
    told = {}
    while not told or not reader.sees(";"):
        place = reader.here()
        name = reader.take_name()
        if name in told:
            raise WrongText(TOO_OFTEN, place)
        told[name] = place
    reader.take_word(";")
    return told


def kind_numbers(told, names):
    numbers = []
    for name, place in told.items():
        if name not in names:
            raise WrongText(NO_KIND, place)
        numbers.append(names.index(name))
    return numbers


def read_kinds(reader):
    names = []
    brings = []
    follows = []
    while not names or reader.sees("weather"):
        reader.take_word("weather")
        names.append(read_kind_name(reader, names))
        brings.append(number_behind(reader, "brings", 0, MOST_BROUGHT))
        follows.append(read_follows(reader))
    kinds = []
    for number, name in enumerate(names):
        kinds.append(Kind(name, brings[number], kind_numbers(follows[number], names)))
    return kinds


def read_table(reader, gate):
    table = []
    while len(table) <= gate:
        table.append(reader.take_number(0, MOST_YIELDED))
    reader.take_word(";")
    return table


def read_tables(reader, gate):
    tables = []
    while not tables or reader.sees("yields"):
        place = reader.here()
        reader.take_word("yields")
        if len(tables) == MOST_TABLES:
            raise WrongText(TOO_OFTEN, place)
        tables.append(read_table(reader, gate))
    return tables


def read_lake(text):
    reader = Reader(text)
    holds = number_behind(reader, "holds", 0, MOST_HELD)
    seasons = number_behind(reader, "seasons", 1, MOST_SEASONS)
    gate = number_behind(reader, "gate", 0, WIDEST_GATE)
    rest = number_behind(reader, "rest", 0, MOST_REST)
    reader.take_word(";")
    kinds = read_kinds(reader)
    tables = read_tables(reader, gate)
    reader.take_end()
    return Lake(holds, seasons, gate, rest, kinds, tables)


def show_lake(lake):
    shown = shown_line(["holds", lake.holds, "seasons", lake.seasons, "gate", lake.gate, "rest", lake.rest])
    for kind in lake.kinds:
        follows = [lake.kinds[number].name for number in kind.follows]
        shown += shown_line(["weather", kind.name, "brings", kind.brings, "then"] + follows)
    for table in lake.tables:
        shown += shown_line(["yields"] + table)
    return byte_row(shown)
