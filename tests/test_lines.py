"""Whole lines of calls in any order, held against a plain model of what one object keeps."""

import unittest
from random import Random

from tests.helper import (
    MOST_WHOLE, PlainStrategy, against, as_bytes, ask, at, clear, counts, known, lake, more, play, shown, small_lakes,
    some_strategy, strategy, sure, table, told, weathers, where, worst,
)

NOTHING = PlainStrategy([], 0)


class Model:
    """Makes calls by chance, each with the answer that the document asks for."""

    def __init__(self, random, lakes):
        self.random, self.lakes = random, lakes
        self.there, self.plan = None, NOTHING

    def around(self, count):
        """Mostly one of 0 to count - 1, now and then a number near or far outside."""
        if self.random.random() < 0.92:
            return self.random.randrange(count)
        return self.random.choice([-1, count, count + 1, -MOST_WHOLE])

    def weather(self, before, seasons):
        row = []
        for _ in range(seasons):
            if self.random.random() < 0.93 and before in range(len(self.there.kinds)):
                before = self.random.choice(self.there.following(before))
            else:
                before = self.around(len(self.there.kinds))
            row.append(before)
        return row

    def next_call(self):
        if self.there is None:
            return getattr(self, self.random.choice(3 * ["lake"] + ["clear", "where", "refused"]))()
        return getattr(self, self.random.choice(
            ["lake", "clear", "where"] + 2 * ["new_plan", "wrong_plan", "shown", "told", "weathers", "counts", "at", "table", "worst"]
            + 3 * ["sure", "against", "known", "more", "play"]
        ))()

    def refused(self):
        calls = [shown(), told(), sure(0, 0), counts(), weathers(), strategy("?"), more(99, 0, 0), known(0, 0, []), against(-1, 0, [])]
        return self.random.choice(calls), [-20]

    def lake(self):
        chosen = self.random.choice(self.lakes)
        if self.random.random() < 0.3:
            return lake(chosen.text() + "x"), [1, 1, len(chosen.text())]
        self.there, self.plan = chosen, NOTHING
        return lake(chosen.text()), [0, len(chosen.kinds), len(chosen.tables)]

    def clear(self):
        self.there, self.plan = None, NOTHING
        return clear(), [0]

    def where(self):
        chosen = self.random.choice(self.lakes)
        return where(chosen.text()), [0]

    def new_plan(self):
        self.plan = some_strategy(self.random, self.there)
        return strategy(self.plan.text()), [0, len(self.plan.rules)]

    def wrong_plan(self):
        text = some_strategy(self.random, self.there).text()
        return self.random.choice([
            (strategy(text + "else"), [1, 1, len(text)]), (strategy("when was q let 1;" + text), [1, 2, 9]), (strategy([999]), [-1]),
        ])

    def shown(self):
        return shown(), [0] + as_bytes(self.there.text())

    def told(self):
        return told(), [0] + as_bytes(self.plan.text())

    def weathers(self):
        expected = [0, len(self.there.kinds)]
        for name, brings, following in self.there.kinds:
            expected += [len(name)] + as_bytes(name) + [brings, len(following)] + following
        return weathers(), expected

    def counts(self):
        it = self.there
        return counts(), [0, it.holds, it.seasons, it.gate, it.rest, len(it.kinds), len(it.tables), len(self.plan.rules)]

    def start(self):
        state = self.around(self.there.holds + 1), self.around(len(self.there.kinds))
        return state, state in self.there.states()

    def best_and_answer(self, season, level, before):
        letting = self.there.best(season, level, before)
        return letting, self.there.answer(season, level, before, letting)

    def at(self):
        (level, before), fine = self.start()
        season = self.around(self.there.seasons)
        if not (fine and season in range(self.there.seasons)):
            return at(season, level, before), [-1]
        expected = [0, self.there.sure(season, level, before), *self.best_and_answer(season, level, before)]
        return at(season, level, before), expected

    def table(self):
        season, before = self.around(self.there.seasons + 1), self.around(len(self.there.kinds))
        if season not in range(self.there.seasons + 1) or before not in range(len(self.there.kinds)):
            return table(season, before), [-1]
        return table(season, before), [0] + [self.there.sure(season, level, before) for level in range(self.there.holds + 1)]

    def worst(self):
        state, fine = self.start()
        return worst(*state), [0] + self.there.gone_by(*state, self.there.seasons, self.best_and_answer) if fine else [-1]

    def sure(self):
        state, fine = self.start()
        return sure(*state), [0, self.plan.sure_of(self.there, *state), self.there.sure(0, *state)] if fine else [-1]

    def more(self):
        state, fine = self.start()
        number = self.random.choice([-1, 0, 1, 2, 3, 7, 34, 40 - self.there.holds, 41 - self.there.holds, 40, 41])
        if not fine or number not in range(41):
            return more(number, *state), [-1]
        if number > 40 - self.there.holds:
            return more(number, *state), [-3]
        return more(number, *state), [0, self.there.sure(0, *state), self.there.holding(number).sure(0, *state)]

    def against_weather(self, make, least, reckon):
        (level, before), fine = self.start()
        seasons = self.random.choice([self.there.seasons, self.around(self.there.seasons + 1)])
        weather = self.weather(before, max(0, seasons))
        call = make(level, before, weather)
        kinds = range(len(self.there.kinds))
        if not fine or not least <= len(weather) <= self.there.seasons or any(kind not in kinds for kind in weather):
            return call, [-1]
        if weather not in self.there.weathers(before, len(weather)):
            return call, [-3]
        return call, [0] + reckon(level, before, weather)

    def play(self):
        def reckon(level, before, weather):
            def choose(season, level, before):
                return self.there.best(season, level, before), weather[season]

            return self.there.gone_by(level, before, len(weather), choose)

        return self.against_weather(play, 0, reckon)

    def against(self):
        def reckon(level, before, weather):
            return self.plan.gone_by(self.there, level, before, weather)

        return self.against_weather(against, 0, reckon)

    def known(self):
        def reckon(level, before, weather):
            return [self.there.most_known(level, before, weather)]

        return self.against_weather(known, self.there.seasons, reckon)


class Lines(unittest.TestCase):
    COUNTED = (3, 4, 5, 6, 9, 12)

    def line(self, random, lakes):
        """At most 120 calls, of them at most 20 that are counted; and their answers."""
        model = Model(random, lakes)
        calls, expected = [], []
        counted = 0
        for _ in range(random.randint(1, 120)):
            call, answer = model.next_call()
            counted += call[0] in self.COUNTED
            if counted > 20:
                break
            calls.append(call)
            expected.append(answer)
        return calls, expected

    def test_every_answer_of_many_lines(self):
        random = Random(81)
        seen = {}
        for _ in range(150):
            calls, expected = self.line(random, small_lakes(random, 4))
            given = ask(*calls)
            for number, call in enumerate(calls):
                self.assertEqual(given[number], expected[number], (number, calls[:number + 1]))
                seen.setdefault(call[0], set()).add(given[number][0])
        # Each call comes, and each with every refusal that the document names for it.
        self.assertEqual(set(seen), set(range(16)))
        for call in (6, 10, 11, 12):
            self.assertLessEqual({0, -1, -3}, seen[call])
        for call in (3, 4, 5, 7, 9):
            self.assertLessEqual({0, -1}, seen[call])


if __name__ == "__main__":
    unittest.main()
