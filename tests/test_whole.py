"""Lists of calls made by chance, against a model that knows what was to be seen at each tick and sends no changes."""

import random
import unittest

from asking import LARGEST, ON_THE_WAY, STATE, counted, has, joined, sees, would
from losingnet.views import answers

ASKING = (8, 9, 10, 11, 12)


def told(view):
    return [len(view)] + [number for thing in sorted(view) for number in thing]


class Model:
    """A view is a list of (number, column, row, look); a client is the list of the ticks that it has."""

    def __init__(self):
        self.things = {}
        self.players = []
        self.next_tick = 1
        self.seen = {}
        self.letters = []
        self.words = []

    def view(self, number):
        own, far = self.players[number]["own"], self.players[number]["far"]
        view = []
        for thing, (column, row, look, hidden) in self.things.items():
            if own in self.things:
                off = max(abs(column - self.things[own][0]), abs(row - self.things[own][1]))
                if thing == own or (off <= far and not hidden):
                    view.append((thing, column, row, look))
        return view

    def changed(self, number):
        now = self.view(number)
        before = self.seen.get((number, self.players[number]["known"]), [])
        put = [thing for thing in now if thing not in before]
        gone = sorted({thing[0] for thing in before} - {thing[0] for thing in now})
        return put, gone

    def thing(self, number, column, row, look, hidden):
        if number > 99 or column > 99 or row > 99 or look > 99:
            return [-1]
        if len(set(self.things) - {number}) >= 20:
            return [-5]
        self.things[number] = (column, row, look, hidden)
        return [len(self.things)]

    def gone(self, number):
        if number not in self.things:
            return [-2]
        del self.things[number]
        return [len(self.things)]

    def player(self, own, far):
        if own > 99 or far > 99:
            return [-1]
        if len(self.players) == 4:
            return [-5]
        self.players.append({"own": own, "far": far, "known": 0, "sent": [], "ticks": []})
        return [len(self.players) - 1]

    def tick(self):
        if self.next_tick > 59 or len(self.letters) + len(self.players) > 30:
            return [-5]
        sizes = []
        for number, player in enumerate(self.players):
            put, gone = self.changed(number)
            sizes.append(4 * len(put) + len(gone))
            self.letters.append((number, self.next_tick, player["known"], sizes[-1]))
            self.seen[number, self.next_tick] = self.view(number)
            player["sent"].append(self.next_tick)
        self.next_tick += 1
        return [self.next_tick - 1, len(sizes)] + sizes

    def arrive(self, letter):
        if letter >= len(self.letters):
            return [-2]
        number, tick, since, _ = self.letters.pop(letter)
        ticks = self.players[number]["ticks"]
        if (since not in ticks and since != 0) or any(had >= tick for had in ticks):
            return [number, tick, 0]
        self.players[number]["ticks"] = [had for had in ticks if had >= since] + [tick]
        self.words.append((number, tick))
        return [number, tick, 1]

    def lose(self, letter):
        if letter >= len(self.letters):
            return [-2]
        del self.letters[letter]
        return [len(self.letters)]

    def word_arrives(self, word):
        if word >= len(self.words):
            return [-2]
        number, tick = self.words.pop(word)
        if tick > self.players[number]["known"]:
            self.players[number]["known"] = tick
        return [number, self.players[number]["known"]]

    def word_lost(self, word):
        if word >= len(self.words):
            return [-2]
        del self.words[word]
        return [len(self.words)]

    def sees(self, number):
        return [-2] if number >= len(self.players) else told(self.view(number))

    def has(self, number):
        if number >= len(self.players):
            return [-2]
        ticks = self.players[number]["ticks"]
        if not ticks:
            return [-6]
        return [max(ticks), len(ticks)] + told(self.seen[number, max(ticks)])

    def on_the_way(self):
        return [len(self.letters)] + joined(self.letters) + [len(self.words)] + joined(self.words)

    def would(self, number):
        if number >= len(self.players):
            return [-2]
        put, gone = self.changed(number)
        return [self.next_tick, self.players[number]["known"]] + told(put) + [len(gone)] + gone

    def state(self):
        players = [
            (player["known"], len([tick for tick in player["sent"] if tick > player["known"]]), len(player["ticks"]))
            for player in self.players]
        return [self.next_tick, len(self.things), len(self.players)] + joined(players)

    def answer(self, call):
        methods = (
            self.thing, self.gone, self.player, self.tick, self.arrive, self.lose, self.word_arrives, self.word_lost,
            self.sees, self.has, self.on_the_way, self.would, self.state)
        return methods[call[0]](*call[1:])


class Chance:
    def __init__(self, seed):
        self.random = random.Random(seed)
        self.model = Model()

    def number_below(self, many):
        """Mostly one of so many, at times the first one behind them, at times one far behind."""
        if self.random.random() < 0.05:
            return self.random.choice((many, many + 1, 99, 100, LARGEST))
        return self.random.randrange(max(many, 1))

    def call(self):
        number = self.random.choice((0, 0, 0, 0, 1, 2, 3, 3, 3, 3, 4, 4, 4, 4, 5, 6, 6, 7) + ASKING)
        if number == 0:
            return [0] + [self.number_below(many) for many in (8, 5, 5, 3)] + [self.random.choice((0, 0, 1))]
        if number == 2:
            return [2, self.number_below(4), self.number_below(5)]
        many = {
            1: 8, 4: len(self.model.letters), 5: len(self.model.letters), 6: len(self.model.words),
            7: len(self.model.words), 8: len(self.model.players), 9: len(self.model.players),
            11: len(self.model.players)}
        return [number, self.number_below(many[number])] if number in many else [number]

    def calls_and_answers(self):
        """40 calls; the model makes its answers beside them, so that most calls are about what there is."""
        # Without their own things in the beginning most players would see nothing most of the time.
        first = [[2, 0, 3], [0, 0, 2, 2, 1, 0], [0, 1, 3, 1, 2, 0], [2, 1, 1]]
        pairs = []
        for n in range(40):
            call = first[n] if n < len(first) else self.call()
            pairs.append((call, self.model.answer(call)))
        return pairs


class Whole(unittest.TestCase):
    def test_all_answers_are_as_the_model_tells(self):
        for seed in range(1500):
            pairs = Chance(seed).calls_and_answers()
            calls = joined([call for call, _ in pairs])
            handed_in = list(calls)
            with self.subTest(seed=seed):
                self.assertEqual(answers(handed_in), counted([answer for _, answer in pairs]))
                self.assertEqual(handed_in, calls)
                self.assertEqual(answers(handed_in), counted([answer for _, answer in pairs]))

    def test_calls_that_only_ask_leave_everything_as_it_was(self):
        all_asked = [sees(0), sees(4), has(0), has(1), ON_THE_WAY, would(0), would(1), would(LARGEST), STATE]
        for seed in range(1500):
            chance = Chance(seed)
            plain = [call for call, _ in chance.calls_and_answers() if call[0] not in ASKING][:20]
            mixed = []
            for call in plain:
                mixed += [chance.random.choice(all_asked), call]
            with self.subTest(seed=seed):
                self.assertEqual(self.answers_to_others(mixed), answers(joined(plain)))

    def answers_to_others(self, calls):
        got = answers(joined(calls))
        kept = []
        for call in calls:
            behind = 1 + got[0]
            if call[0] not in ASKING:
                kept += got[:behind]
            got = got[behind:]
        self.assertEqual(got, [])
        return kept

    def test_asking_twice_answers_the_same(self):
        for seed in range(300):
            plain = joined([call for call, _ in Chance(seed).calls_and_answers()][:30])
            for asked in (sees(0), has(0), ON_THE_WAY, would(0), STATE):
                with self.subTest(seed=seed, asked=asked):
                    before = answers(plain)
                    once = answers(plain + asked)[len(before):]
                    self.assertEqual(answers(plain + asked + asked), before + once + once)

    def test_one_tick_more_brings_everybody_up_to_now(self):
        for seed in range(300):
            chance = Chance(seed)
            plain = [call for call, _ in chance.calls_and_answers()][:25]
            model = Model()
            for call in plain:
                model.answer(call)
            many, letters = len(model.players), len(model.letters)
            tick = model.next_tick
            if letters + many > 30:
                continue
            comes = joined([[4, letters]] * many)
            with self.subTest(seed=seed):
                before = joined(plain) + [3] + comes
                said = len(answers(before))
                for number in range(many):
                    view = answers(before + sees(number))[said + 1:]
                    got = answers(before + has(number))[said + 1:]
                    self.assertEqual([got[0]] + got[2:], [tick] + view)

    def test_a_refused_call_leaves_all_as_it_was(self):
        refused = (
            [0, 100, 0, 0, 0, 0], [0, 0, 0, 0, LARGEST, 1], [1, 99], [2, 100, 0], [2, 0, LARGEST], [4, 99], [5, 99],
            [6, 99], [7, 99], [7, LARGEST], [8, 4], [9, 4], [9, LARGEST], [11, 4], [11, LARGEST])
        asked = ON_THE_WAY + STATE + joined([[call, number] for number in range(2) for call in (8, 9, 11)])
        for seed in range(100):
            plain = joined([call for call, _ in Chance(seed).calls_and_answers()][:30])
            if 99 in plain:
                continue
            before = answers(plain)
            after = answers(plain + asked)[len(before):]
            for call in refused:
                with self.subTest(seed=seed, call=call):
                    got = answers(plain + call + asked)
                    self.assertEqual(got[:len(before) + 1], before + [1])
                    self.assertLess(got[len(before) + 1], 0)
                    self.assertEqual(got[len(before) + 2:], after)


if __name__ == "__main__":
    unittest.main()
