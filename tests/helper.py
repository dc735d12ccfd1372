"""Calls to hand in, answers cut apart, and a second, plain reckoning of the game."""

from functools import lru_cache
from itertools import product

from seasonlake.gates import answers

LEAST_WHOLE = -2 ** 63
MOST_WHOLE = 2 ** 63 - 1

SMALL = (
    "holds 5 seasons 2 gate 2 rest 3;\n"
    "weather dry brings 0 then dry wet;\n"
    "weather wet brings 4 then dry;\n"
    "yields 0 5 7;\n"
    "yields 1 2 9;\n"
)

GRAMMAR_WORDS = (
    "holds seasons gate rest weather brings then yields "
    "when and let else level least most was season to"
).split()


def as_bytes(text):
    return list(text.encode("latin-1")) if isinstance(text, str) else list(text)


def with_count(row):
    return [len(row)] + list(row)


def lake(text):
    return [0] + with_count(as_bytes(text))


def where(text):
    return [1] + with_count(as_bytes(text))


def shown():
    return [2]


def at(season, level, before):
    return [3, season, level, before]


def table(season, before):
    return [4, season, before]


def worst(level, before):
    return [5, level, before]


def play(level, before, weather):
    return [6, level, before] + with_count(weather)


def strategy(text):
    return [7] + with_count(as_bytes(text))


def ask(*calls):
    """The answers of one list of calls, one list of numbers for each."""
    given = answers([number for call in calls for number in call])
    apart = []
    place = 0
    while place < len(given):
        end = place + 1 + given[place]
        apart.append(given[place + 1:end])
        place = end
    assert place == len(given) and len(apart) == len(calls), given
    return apart


def ask_many(text, calls):
    """As ask behind a lake call, with no more than twenty calls in one list."""
    given = []
    for first in range(0, len(calls), 20):
        given += ask(lake(text), *calls[first:first + 20])[1:]
    return given


def marked(text):
    """A text without its mark ^, and where that stood."""
    place = text.index("^")
    return text[:place] + text[place + 1:], place


class PlainLake:
    """The game as the document words it, reckoned by trying everything."""

    def __init__(self, holds, seasons, gate, rest, kinds, tables):
        self.holds, self.seasons, self.gate, self.rest = holds, seasons, gate, rest
        self.kinds = kinds  # for each: name, what it brings, the numbers of the next ones
        self.tables = tables
        self.sure = lru_cache(None)(self._sure)

    def text(self):
        rows = [f"holds {self.holds} seasons {self.seasons} gate {self.gate} rest {self.rest};\n"]
        for name, brings, following in self.kinds:
            rows.append(f"weather {name} brings {brings} then {' '.join(self.kinds[j][0] for j in following)};\n")
        rows += [f"yields {' '.join(map(str, yields))};\n" for yields in self.tables]
        return "".join(rows)

    def following(self, before):
        return self.kinds[before][2]

    def lettings(self, level):
        return [letting for letting in range(self.gate + 1) if letting <= level]

    def yielded(self, season, letting):
        return self.tables[season % len(self.tables)][letting]

    def after(self, level, letting, kind):
        behind = level - letting + self.kinds[kind][1]
        return behind if behind <= self.holds else self.holds

    def _sure(self, season, level, before):
        if season == self.seasons:
            return self.rest * level
        return max(self.worth(season, level, before, letting) for letting in self.lettings(level))

    def worth(self, season, level, before, letting):
        behind = [self.sure(season + 1, self.after(level, letting, kind), kind) for kind in self.following(before)]
        return self.yielded(season, letting) + min(behind)

    def best(self, season, level, before):
        return max(self.lettings(level), key=lambda letting: (self.worth(season, level, before, letting), -letting))

    def answer(self, season, level, before, letting):
        return min(
            enumerate(self.following(before)),
            key=lambda told: (self.sure(season + 1, self.after(level, letting, told[1]), told[1]), told[0]),
        )[1]

    def gone_by(self, level, before, seasons, choose):
        """The seasons gone by; choose gives the letting and the kind of a season."""
        had, steps = 0, []
        for season in range(seasons):
            letting, kind = choose(season, level, before)
            had += self.yielded(season, letting)
            level, before = self.after(level, letting, kind), kind
            steps += [letting, kind, level]
        return [had + (self.rest * level if seasons == self.seasons else 0)] + steps

    def weathers(self, before, seasons):
        """All weathers of so many seasons that may come behind a kind."""
        rows = [[]]
        for _ in range(seasons):
            rows = [row + [kind] for row in rows for kind in self.following(row[-1] if row else before)]
        return rows

    def states(self):
        return list(product(range(self.holds + 1), range(len(self.kinds))))


def small_lakes(random, many):
    """Lakes small enough to try everything, alike numbers often among them so that ties come."""
    made = []
    for _ in range(many):
        kinds = random.randint(1, 3)
        gate = random.randint(0, 3)
        rows = []
        for kind in range(kinds):
            following = random.sample(range(kinds), random.randint(1, kinds))
            rows.append(("abc"[kind], random.choice([0, 1, 1, 2, 4]), following))
        tables = [[random.choice([0, 1, 2, 3, 5, 9]) for _ in range(gate + 1)] for _ in range(random.randint(1, 3))]
        made.append(PlainLake(random.randint(0, 6), random.randint(1, 4), gate, random.choice([0, 1, 2, 7]), rows, tables))
    return made
