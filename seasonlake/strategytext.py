"""A strategy's text: read against a lake, and shown."""

from seasonlake.pieces import CANNOT_STAND, NO_KIND, TOO_OFTEN, Reader, WrongText
from seasonlake.showing import byte_row, shown_line
from seasonlake.strategies import Rule, Strategy

MOST_LEVEL = 40
MOST_LET = 10
MOST_RULES = 12


def read_level(reader):
    reader.take_word("level")
    side = "least" if reader.sees("least") else "most"
    reader.take_word(side)
    return (side, reader.take_number(0, MOST_LEVEL))


def read_was(reader, lake):
    reader.take_word("was")
    place = reader.here()
    name = reader.take_name()
    names = [kind.name for kind in lake.kinds]
    if name not in names:
        raise WrongText(NO_KIND, place)
    return ("was", names.index(name))


def read_season(reader, lake):
    reader.take_word("season")
    first = reader.take_number(0, lake.seasons - 1)
    reader.take_word("to")
    return ("season", first, reader.take_number(first, lake.seasons - 1))


def read_condition(reader, lake):
    if reader.sees("level"):
        return read_level(reader)
    if reader.sees("was"):
        return read_was(reader, lake)
    if reader.sees("season"):
        return read_season(reader, lake)
    raise WrongText(CANNOT_STAND, reader.here())


def read_letting(reader):
    reader.take_word("let")
    letting = reader.take_number(0, MOST_LET)
    reader.take_word(";")
    return letting


def read_rule(reader, lake):
    reader.take_word("when")
    conditions = [read_condition(reader, lake)]
    while reader.sees("and"):
        reader.take_word("and")
        conditions.append(read_condition(reader, lake))
    return Rule(conditions, read_letting(reader))


def read_strategy(text, lake):
    reader = Reader(text)
    rules = []
    while reader.sees("when"):
        if len(rules) == MOST_RULES:
            raise WrongText(TOO_OFTEN, reader.here())
        rules.append(read_rule(reader, lake))
    reader.take_word("else")
    otherwise = read_letting(reader)
    reader.take_end()
    return Strategy(rules, otherwise)


def condition_words(lake, condition):
    if condition[0] == "was":
        return ["was", lake.kinds[condition[1]].name]
    if condition[0] == "season":
        return ["season", condition[1], "to", condition[2]]
    return ["level", condition[0], condition[1]]


def rule_words(lake, rule):
    words = ["when"]
    for number, condition in enumerate(rule.conditions):
        if number > 0:
            words.append("and")
        words.extend(condition_words(lake, condition))
    return words + ["let", rule.letting]


def show_strategy(lake, strategy):
    shown = ""
    for rule in strategy.rules:
        shown += shown_line(rule_words(lake, rule))
    return byte_row(shown + shown_line(["else", "let", strategy.otherwise]))
