"""A lake as it was told, and what a season does to its level."""


class Kind:
    # follows: the numbers of the kinds that may come next, in the order told.
    def __init__(self, name, brings, follows):
        self.name = name
        self.brings = brings
        self.follows = follows


class Lake:
    def __init__(self, holds, seasons, gate, rest, kinds, tables):
        self.holds = holds
        self.seasons = seasons
        self.gate = gate
        self.rest = rest
        self.kinds = kinds
        self.tables = tables


def greater_lake(lake, more):
    return Lake(lake.holds + more, lake.seasons, lake.gate, lake.rest, lake.kinds, lake.tables)


def season_table(lake, season):
    return lake.tables[season % len(lake.tables)]


def most_letting(lake, level):
    return min(level, lake.gate)


def level_behind(lake, left, kind):
    return min(lake.holds, left + lake.kinds[kind].brings)


def can_come(lake, before, weather):
    for kind in weather:
        if kind not in lake.kinds[before].follows:
            return False
        before = kind
    return True
