"""Calls to hand in, answers cut apart, and a second, plain reckoning of the game."""

from functools import lru_cache
from itertools import product

from seasonlake.gates import answers

LEAST_WHOLE = -2 ** 63
MOST_WHOLE = 2 ** 63 - 1

SMALL = (
    "holds 5 seasons 2 gate 2 rest 3;\n"
    "weather dry brings 0 then dry wet;\n"
    "weather wet brings 4 then dry;\n"
    "yields 0 5 7;\n"
    "yields 1 2 9;\n"
)

GRAMMAR_WORDS = (
    "holds seasons gate rest weather brings then yields "
    "when and let else level least most was season to"
).split()


def as_bytes(text):
    return list(text.encode("latin-1")) if isinstance(text, str) else list(text)


def with_count(row):
    return [len(row)] + list(row)


def lake(text):
    return [0] + with_count(as_bytes(text))


def where(text):
    return [1] + with_count(as_bytes(text))


def shown():
    return [2]


def at(season, level, before):
    return [3, season, level, before]


def table(season, before):
    return [4, season, before]


def worst(level, before):
    return [5, level, before]


def play(level, before, weather):
    return [6, level, before] + with_count(weather)


def strategy(text):
    return [7] + with_count(as_bytes(text))


def told():
    return [8]


def sure(level, before):
    return [9, level, before]


def against(level, before, weather):
    return [10, level, before] + with_count(weather)


def known(level, before, weather):
    return [11, level, before] + with_count(weather)


def more(number, level, before):
    return [12, number, level, before]


def weathers():
    return [13]


def counts():
    return [14]


def clear():
    return [15]


def ask(*calls):
    """The answers of one list of calls, one list of numbers for each."""
    given = answers([number for call in calls for number in call])
    apart = []
    place = 0
    while place < len(given):
        end = place + 1 + given[place]
        apart.append(given[place + 1:end])
        place = end
    assert place == len(given) and len(apart) == len(calls), given
    return apart


def ask_many(text, calls, strategy_text="else let 0;"):
    """As ask behind the calls lake and strategy, with no more than twenty calls in one list."""
    given = []
    for first in range(0, len(calls), 20):
        given += ask(lake(text), strategy(strategy_text), *calls[first:first + 20])[2:]
    return given


def marked(text):
    """A text without its mark ^, and where that stood."""
    place = text.index("^")
    return text[:place] + text[place + 1:], place


class PlainLake:
    """The game as the document words it, reckoned by trying everything."""

    def __init__(self, holds, seasons, gate, rest, kinds, tables):
        self.holds, self.seasons, self.gate, self.rest = holds, seasons, gate, rest
        self.kinds = kinds  # for each: name, what it brings, the numbers of the next ones
        self.tables = tables
        self.sure = lru_cache(None)(self._sure)

    def text(self):
        rows = [f"holds {self.holds} seasons {self.seasons} gate {self.gate} rest {self.rest};\n"]
        for name, brings, following in self.kinds:
            rows.append(f"weather {name} brings {brings} then {' '.join(self.kinds[j][0] for j in following)};\n")
        rows += [f"yields {' '.join(map(str, yields))};\n" for yields in self.tables]
        return "".join(rows)

    def following(self, before):
        return self.kinds[before][2]

    def lettings(self, level):
        return [letting for letting in range(self.gate + 1) if letting <= level]

    def yielded(self, season, letting):
        return self.tables[season % len(self.tables)][letting]

    def after(self, level, letting, kind):
        behind = level - letting + self.kinds[kind][1]
        return behind if behind <= self.holds else self.holds

    def _sure(self, season, level, before):
        if season == self.seasons:
            return self.rest * level
        return max(self.worth(season, level, before, letting) for letting in self.lettings(level))

    def worth(self, season, level, before, letting):
        behind = [self.sure(season + 1, self.after(level, letting, kind), kind) for kind in self.following(before)]
        return self.yielded(season, letting) + min(behind)

    def best(self, season, level, before):
        return max(self.lettings(level), key=lambda letting: (self.worth(season, level, before, letting), -letting))

    def answer(self, season, level, before, letting):
        return min(
            enumerate(self.following(before)),
            key=lambda told: (self.sure(season + 1, self.after(level, letting, told[1]), told[1]), told[0]),
        )[1]

    def gone_by(self, level, before, seasons, choose):
        """The seasons gone by; choose gives the letting and the kind of a season."""
        had, steps = 0, []
        for season in range(seasons):
            letting, kind = choose(season, level, before)
            had += self.yielded(season, letting)
            level, before = self.after(level, letting, kind), kind
            steps += [letting, kind, level]
        return [had + (self.rest * level if seasons == self.seasons else 0)] + steps

    def weathers(self, before, seasons):
        """All weathers of so many seasons that may come behind a kind."""
        rows = [[]]
        for _ in range(seasons):
            rows = [row + [kind] for row in rows for kind in self.following(row[-1] if row else before)]
        return rows

    def states(self):
        return list(product(range(self.holds + 1), range(len(self.kinds))))

    def had_against(self, level, before, weather, lettings):
        """What fixed lettings bring against a weather, or None where one is more than the level."""
        had = 0
        for season, (letting, kind) in enumerate(zip(lettings, weather)):
            if letting > level:
                return None
            had += self.yielded(season, letting)
            level = self.after(level, letting, kind)
        return had + self.rest * level

    def most_known(self, level, before, weather):
        tried = [
            self.had_against(level, before, weather, lettings)
            for lettings in product(range(self.gate + 1), repeat=self.seasons)
        ]
        return max(had for had in tried if had is not None)

    def holding(self, more):
        return PlainLake(self.holds + more, self.seasons, self.gate, self.rest, self.kinds, self.tables)


class PlainStrategy:
    """Rules: each a list of conditions (their words) and a letting; otherwise what else lets."""

    def __init__(self, rules, otherwise):
        self.rules, self.otherwise = rules, otherwise

    def text(self):
        rows = []
        for conditions, letting in self.rules:
            rows.append(f"when {' and '.join(' '.join(map(str, words)) for words in conditions)} let {letting};\n")
        return "".join(rows) + f"else let {self.otherwise};\n"

    def letting(self, plain, season, level, before):
        wanted = self.otherwise
        for conditions, letting in reversed(self.rules):
            if all(self.met(plain, words, season, level, before) for words in conditions):
                wanted = letting
        return max(letting for letting in plain.lettings(level) if letting <= wanted)

    @staticmethod
    def met(plain, words, season, level, before):
        if words[0] == "was":
            return plain.kinds[before][0] == words[1]
        if words[0] == "season":
            return season in range(words[1], words[3] + 1)
        return level >= words[2] if words[1] == "least" else level <= words[2]

    def gone_by(self, plain, level, before, weather):
        def choose(season, level, before):
            return self.letting(plain, season, level, before), weather[season]

        return plain.gone_by(level, before, len(weather), choose)

    def sure_of(self, plain, level, before):
        every = plain.weathers(before, plain.seasons)
        return min(self.gone_by(plain, level, before, weather)[0] for weather in every)


def some_strategy(random, plain):
    """A strategy for that lake, whose rules often hold at some levels, seasons and kinds only."""
    def condition():
        first = random.randrange(plain.seasons)
        return random.choice([
            ("level", random.choice(["least", "most"]), random.randint(0, plain.holds + 1)),
            ("was", random.choice(plain.kinds)[0]),
            ("season", first, "to", random.randrange(first, plain.seasons)),
        ])

    rules = [
        ([condition() for _ in range(random.randint(1, 3))], random.choice([0, 1, 1, 2, 3, 10]))
        for _ in range(random.randint(0, 5))
    ]
    return PlainStrategy(rules, random.choice([0, 1, 2, 10]))


def small_lakes(random, many):
    """Lakes small enough to try everything, alike numbers often among them so that ties come."""
    made = []
    for _ in range(many):
        kinds = random.randint(1, 3)
        gate = random.randint(0, 3)
        rows = []
        for kind in range(kinds):
            following = random.sample(range(kinds), random.randint(1, kinds))
            rows.append(("abc"[kind], random.choice([0, 1, 1, 2, 4]), following))
        tables = [[random.choice([0, 1, 2, 3, 5, 9]) for _ in range(gate + 1)] for _ in range(random.randint(1, 3))]
        made.append(PlainLake(random.randint(0, 6), random.randint(1, 4), gate, random.choice([0, 1, 2, 7]), rows, tables))
    return made
