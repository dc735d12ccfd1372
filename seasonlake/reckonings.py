"""The calls that reckon with the lake that's there: at, table, worst, play, sure, against, known and more."""

from seasonlake.course import Course
from seasonlake.keeper import sure_by_strategy_of, sure_of
from seasonlake.lakes import can_come, greater_lake
from seasonlake.laketext import MOST_HELD
from seasonlake.strategies import strategy_letting
from seasonlake.sureness import all_sure, best_answer, best_if_known, best_letting


def is_season(lake, season):
    return 0 <= season < lake.seasons


def is_kind(lake, kind):
    return 0 <= kind < len(lake.kinds)


def is_start(lake, level, before):
    return 0 <= level <= lake.holds and is_kind(lake, before)


def is_weather(lake, row):
    return len(row) <= lake.seasons and all([is_kind(lake, kind) for kind in row])


# 0 where nothing is refused.
def weather_refusal(lake, level, before, weather):
    if not (is_start(lake, level, before) and is_weather(lake, weather)):
        return -1
    return 0 if can_come(lake, before, weather) else -3


def look_at(keeper, season, level, before):
    lake = keeper.lake
    if not (is_season(lake, season) and is_start(lake, level, before)):
        return [-1]
    sure = sure_of(keeper)
    letting = best_letting(lake, sure, season, level, before)
    answer = best_answer(lake, sure, season, level - letting, before)
    return [0, sure[season][before][level], letting, answer]


def look_at_table(keeper, season, before):
    lake = keeper.lake
    if not (0 <= season <= lake.seasons and is_kind(lake, before)):
        return [-1]
    return [0] + sure_of(keeper)[season][before]


def pass_worst(keeper, level, before):
    lake = keeper.lake
    if not is_start(lake, level, before):
        return [-1]
    sure = sure_of(keeper)
    course = Course(lake, level, before)
    for season in range(lake.seasons):
        letting = best_letting(lake, sure, season, course.level, course.before)
        kind = best_answer(lake, sure, season, course.level - letting, course.before)
        course.pass_season(letting, kind)
    return [0] + course.report()


def pass_by_best(keeper, level, before, weather):
    lake = keeper.lake
    refusal = weather_refusal(lake, level, before, weather)
    if refusal != 0:
        return [refusal]
    sure = sure_of(keeper)
    course = Course(lake, level, before)
    for season, kind in enumerate(weather):
        course.pass_season(best_letting(lake, sure, season, course.level, course.before), kind)
    return [0] + course.report()


def look_at_strategy(keeper, level, before):
    if not is_start(keeper.lake, level, before):
        return [-1]
    return [0, sure_by_strategy_of(keeper)[before][level], sure_of(keeper)[0][before][level]]


def pass_by_strategy(keeper, level, before, weather):
    lake = keeper.lake
    refusal = weather_refusal(lake, level, before, weather)
    if refusal != 0:
        return [refusal]
    course = Course(lake, level, before)
    for season, kind in enumerate(weather):
        course.pass_season(strategy_letting(lake, keeper.strategy, season, course.level, course.before), kind)
    return [0] + course.report()


def look_back(keeper, level, before, weather):
    lake = keeper.lake
    if len(weather) != lake.seasons:
        return [-1]
    refusal = weather_refusal(lake, level, before, weather)
    if refusal != 0:
        return [refusal]
    return [0, best_if_known(lake, weather)[level]]


def look_at_greater(keeper, more, level, before):
    lake = keeper.lake
    if not (0 <= more <= MOST_HELD and is_start(lake, level, before)):
        return [-1]
    if lake.holds + more > MOST_HELD:
        return [-3]
    greater = all_sure(greater_lake(lake, more))
    return [0, sure_of(keeper)[0][before][level], greater[0][before][level]]


def answer_reckoning(keeper, call, numbers, row):
    if call == 3:
        return look_at(keeper, numbers[0], numbers[1], numbers[2])
    if call == 4:
        return look_at_table(keeper, numbers[0], numbers[1])
    if call == 5:
        return pass_worst(keeper, numbers[0], numbers[1])
    if call == 6:
        return pass_by_best(keeper, numbers[0], numbers[1], row)
    if call == 9:
        return look_at_strategy(keeper, numbers[0], numbers[1])
    if call == 10:
        return pass_by_strategy(keeper, numbers[0], numbers[1], row)
    if call == 11:
        return look_back(keeper, numbers[0], numbers[1], row)
    return look_at_greater(keeper, numbers[0], numbers[1], numbers[2])
