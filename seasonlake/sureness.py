"""What is sure, by best lettings or by a strategy; the best letting and the weather's best answer;
and the greatest yield if the weather is known."""

from seasonlake.lakes import level_behind, most_letting, season_table
from seasonlake.strategies import strategy_letting


# In this file "behind" is what's had behind a season: by the kind before, then by the level.
# "Left" is the level less the letting.


def sure_behind_kinds(lake, behind, left, before):
    return [behind[kind][level_behind(lake, left, kind)] for kind in lake.kinds[before].follows]


# What's sure behind a season hangs on the letting only through what's left,
# so it's reckoned once for each of these and not for each letting from each level.
def least_by_left(lake, behind, before):
    return [min(sure_behind_kinds(lake, behind, left, before)) for left in range(lake.holds + 1)]


def worths(lake, season, had_by_left, level):
    table = season_table(lake, season)
    return [table[letting] + had_by_left[level - letting] for letting in range(most_letting(lake, level) + 1)]


def best_by_level(lake, season, had_by_left):
    return [max(worths(lake, season, had_by_left, level)) for level in range(lake.holds + 1)]


def sure_by_level(lake, season, behind, before):
    return best_by_level(lake, season, least_by_left(lake, behind, before))


def sure_at_end(lake):
    return [lake.rest * level for level in range(lake.holds + 1)]


# By the season, up to how many there are; then by the kind before; then by the level.
def all_sure(lake):
    sure = [[sure_at_end(lake) for kind in lake.kinds]]
    for season in range(lake.seasons - 1, -1, -1):
        behind = sure[0]
        sure.insert(0, [sure_by_level(lake, season, behind, before) for before in range(len(lake.kinds))])
    return sure


# index gives the first: the least of the lettings that are worth most.
def best_letting(lake, sure, season, level, before):
    leasts = least_by_left(lake, sure[season + 1], before)
    choices = worths(lake, season, leasts, level)
    return choices.index(max(choices))


def best_answer(lake, sure, season, left, before):
    outcomes = sure_behind_kinds(lake, sure[season + 1], left, before)
    return lake.kinds[before].follows[outcomes.index(min(outcomes))]


def strategy_by_level(lake, strategy, season, behind, before):
    table = season_table(lake, season)
    leasts = least_by_left(lake, behind, before)
    lettings = [strategy_letting(lake, strategy, season, level, before) for level in range(lake.holds + 1)]
    return [table[letting] + leasts[level - letting] for level, letting in enumerate(lettings)]


# From season 0 on, by the kind before, then by the level. What a strategy lets out hangs on
# nothing else that was, so the least yield over all weathers can be reckoned season by season.
def strategy_sure(lake, strategy):
    behind = [sure_at_end(lake) for kind in lake.kinds]
    for season in range(lake.seasons - 1, -1, -1):
        behind = [strategy_by_level(lake, strategy, season, behind, before) for before in range(len(lake.kinds))]
    return behind


# From season 0 on, by the level; weather is for all seasons.
def best_if_known(lake, weather):
    best = sure_at_end(lake)
    for season in range(lake.seasons - 1, -1, -1):
        had_by_left = [best[level_behind(lake, left, weather[season])] for left in range(lake.holds + 1)]
        best = best_by_level(lake, season, had_by_left)
    return best
