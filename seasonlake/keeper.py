"""What one list of calls keeps, and how each call is answered.

A refusal is its number alone: -20 while there is no lake, -1 where a number or the list
isn't as told, -3 where a weather can't come so.
"""

from seasonlake.course import Course
from seasonlake.lakes import can_come
from seasonlake.laketext import read_lake, show_lake
from seasonlake.pieces import WrongText
from seasonlake.strategytext import Strategy, read_strategy
from seasonlake.sureness import all_sure, best_answer, best_letting

LONGEST_TEXT = 1500
LAST_BYTE = 255
CALLS_WITHOUT_LAKE = (0, 1)


class Keeper:
    # sure is None until a call asks for it: reckoning it for each lake that's told would be in vain for most.
    def __init__(self):
        self.lake = None
        self.sure = None
        self.strategy = None


def is_text(row):
    return len(row) <= LONGEST_TEXT and all([0 <= byte <= LAST_BYTE for byte in row])


def is_season(lake, season):
    return 0 <= season < lake.seasons


def is_level(lake, level):
    return 0 <= level <= lake.holds


def is_kind(lake, kind):
    return 0 <= kind < len(lake.kinds)


def is_weather(lake, row):
    return len(row) <= lake.seasons and all([is_kind(lake, kind) for kind in row])


def sure_of(keeper):
    if keeper.sure is None:
        keeper.sure = all_sure(keeper.lake)
    return keeper.sure


def take_lake(keeper, text):
    if not is_text(text):
        return [-1]
    try:
        lake = read_lake(text)
    except WrongText as wrong:
        return [1, wrong.kind, wrong.place]
    keeper.lake = lake
    keeper.sure = None
    keeper.strategy = Strategy([], 0)
    return [0, len(lake.kinds), len(lake.tables)]


def find_wrong(text):
    if not is_text(text):
        return [-1]
    try:
        read_lake(text)
    except WrongText as wrong:
        return [1, wrong.kind, wrong.place]
    return [0]


def look_at(keeper, season, level, before):
    lake = keeper.lake
    if not (is_season(lake, season) and is_level(lake, level) and is_kind(lake, before)):
        return [-1]
    sure = sure_of(keeper)
    letting = best_letting(lake, sure, season, level, before)
    answer = best_answer(lake, sure, season, level - letting, before)
    return [0, sure[season][before][level], letting, answer]


def look_at_table(keeper, season, before):
    lake = keeper.lake
    if not (0 <= season <= lake.seasons and is_kind(lake, before)):
        return [-1]
    return [0] + sure_of(keeper)[season][before]


def pass_worst(keeper, level, before):
    lake = keeper.lake
    if not (is_level(lake, level) and is_kind(lake, before)):
        return [-1]
    sure = sure_of(keeper)
    course = Course(lake, level, before)
    for season in range(lake.seasons):
        letting = best_letting(lake, sure, season, course.level, course.before)
        kind = best_answer(lake, sure, season, course.level - letting, course.before)
        course.pass_season(letting, kind)
    return [0] + course.report()


def pass_weather(keeper, level, before, weather):
    lake = keeper.lake
    if not (is_level(lake, level) and is_kind(lake, before) and is_weather(lake, weather)):
        return [-1]
    if not can_come(lake, before, weather):
        return [-3]
    sure = sure_of(keeper)
    course = Course(lake, level, before)
    for season, kind in enumerate(weather):
        course.pass_season(best_letting(lake, sure, season, course.level, course.before), kind)
    return [0] + course.report()


def take_strategy(keeper, text):
    if not is_text(text):
        return [-1]
    try:
        strategy = read_strategy(text, keeper.lake)
    except WrongText as wrong:
        return [1, wrong.kind, wrong.place]
    keeper.strategy = strategy
    return [0, len(strategy.rules)]


def answer_call(keeper, call, numbers, row):
    if keeper.lake is None and call not in CALLS_WITHOUT_LAKE:
        return [-20]
    if call == 0:
        return take_lake(keeper, row)
    if call == 1:
        return find_wrong(row)
    if call == 2:
        return [0] + show_lake(keeper.lake)
    if call == 3:
        return look_at(keeper, numbers[0], numbers[1], numbers[2])
    if call == 4:
        return look_at_table(keeper, numbers[0], numbers[1])
    if call == 5:
        return pass_worst(keeper, numbers[0], numbers[1])
    if call == 6:
        return pass_weather(keeper, numbers[0], numbers[1], row)
    return take_strategy(keeper, row)
