"""The calls that tell, show or clear: lake, where, shown, strategy, told, weathers, counts and clear."""

from seasonlake.laketext import read_lake, show_lake
from seasonlake.pieces import WrongText
from seasonlake.showing import byte_row
from seasonlake.strategytext import read_strategy, show_strategy

LONGEST_TEXT = 1500
LAST_BYTE = 255


def is_text(row):
    return len(row) <= LONGEST_TEXT and all([0 <= byte <= LAST_BYTE for byte in row])


def take_lake(keeper, text):
    if not is_text(text):
        return [-1]
    try:
        lake = read_lake(text)
    except WrongText as wrong:
        return [1, wrong.kind, wrong.place]
    keeper.put_lake(lake)
    return [0, len(lake.kinds), len(lake.tables)]


def find_wrong(text):
    if not is_text(text):
        return [-1]
    try:
        read_lake(text)
    except WrongText as wrong:
        return [1, wrong.kind, wrong.place]
    return [0]


def take_strategy(keeper, text):
    if not is_text(text):
        return [-1]
    try:
        strategy = read_strategy(text, keeper.lake)
    except WrongText as wrong:
        return [1, wrong.kind, wrong.place]
    keeper.put_strategy(strategy)
    return [0, len(strategy.rules)]


def list_weathers(lake):
    listed = [len(lake.kinds)]
    for kind in lake.kinds:
        listed.append(len(kind.name))
        listed.extend(byte_row(kind.name))
        listed.append(kind.brings)
        listed.append(len(kind.follows))
        listed.extend(kind.follows)
    return listed


def list_counts(lake, strategy):
    told = [lake.holds, lake.seasons, lake.gate, lake.rest]
    return told + [len(lake.kinds), len(lake.tables), len(strategy.rules)]


def answer_telling(keeper, call, row):
    if call == 0:
        return take_lake(keeper, row)
    if call == 1:
        return find_wrong(row)
    if call == 2:
        return [0] + show_lake(keeper.lake)
    if call == 7:
        return take_strategy(keeper, row)
    if call == 8:
        return [0] + show_strategy(keeper.lake, keeper.strategy)
    if call == 13:
        return [0] + list_weathers(keeper.lake)
    if call == 14:
        return [0] + list_counts(keeper.lake, keeper.strategy)
    keeper.put_lake(None)
    return [0]
