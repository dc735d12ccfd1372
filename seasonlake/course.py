"""Seasons gone by, one after another from season 0 on."""

from seasonlake.lakes import level_behind, season_table


class Course:
    def __init__(self, lake, level, before):
        self.lake = lake
        self.level = level
        self.before = before
        self.season = 0
        self.had = 0
        self.steps = []

    def pass_season(self, letting, kind):
        self.had += season_table(self.lake, self.season)[letting]
        self.level = level_behind(self.lake, self.level - letting, kind)
        self.before = kind
        self.season += 1
        self.steps.extend([letting, kind, self.level])

    def report(self):
        had = self.had
        if self.season == self.lake.seasons:
            had += self.lake.rest * self.level
        return [had] + self.steps
