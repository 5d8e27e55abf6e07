"""What a client has of a tick is just what its player could see then, whatever is lost, late or out of order."""

import random
import unittest

from losingnet.views import Server, Thing


def could_see(server, player):
    """Written anew, not by the program's own functions, so that a fault there is not repeated here."""
    things = server.things
    if player.own not in things:
        return {}
    eye = things[player.own]
    seen = {}
    for number, thing in things.items():
        off = max(abs(thing.column - eye.column), abs(thing.row - eye.row))
        if number == player.own or (not thing.hidden and off <= player.far):
            seen[number] = (thing.column, thing.row, thing.look)
    return seen


class Run:
    """A server that is asked by chance, with the views of each tick written down beside it."""

    def __init__(self, seed):
        self.chance = random.Random(seed)
        self.server = Server()
        self.could = {}
        for own in range(self.chance.randint(1, 4)):
            self.server.add_player(own, self.chance.randint(0, 4))

    def change_world(self):
        number = self.chance.randint(0, 7)
        if self.chance.random() < 0.2:
            self.server.take_thing_away(number)
            return
        column, row, look = [self.chance.randint(0, 4) for _ in range(3)]
        self.server.put_thing(number, Thing(column, row, look, self.chance.randint(0, 1)))

    def tick(self):
        if self.server.run_tick() != [-5]:
            for number, player in enumerate(self.server.players):
                self.could[number, self.server.ticks] = could_see(self.server, player)

    def step(self):
        server = self.server
        letter = self.chance.randint(0, max(len(server.letters) - 1, 0))
        word = self.chance.randint(0, max(len(server.words) - 1, 0))
        self.chance.choice((
            self.change_world, self.tick,
            lambda: server.letter_arrives(letter), lambda: server.letter_arrives(letter),
            lambda: server.letter_lost(letter), lambda: server.word_arrives(word)))()


class Clients(unittest.TestCase):
    def check_views(self, run):
        for number, player in enumerate(run.server.players):
            for tick, view in player.client.views.items():
                self.assertEqual(view, run.could[number, tick])

    def test_views_are_what_could_be_seen_then(self):
        for seed in range(200):
            run = Run(seed)
            for _ in range(80):
                run.step()
                self.check_views(run)

    def test_one_tick_more_brings_everybody_up_to_now(self):
        for seed in range(200):
            run = Run(seed)
            for _ in range(40):
                run.step()
            while len(run.server.letters) > 20:
                run.server.letter_lost(0)
            before = len(run.server.letters)
            run.tick()
            for number, player in enumerate(run.server.players):
                self.assertEqual(run.server.letter_arrives(before), [number, run.server.ticks, 1])
                self.assertEqual(player.client.views[run.server.ticks], could_see(run.server, player))

    def test_views_older_than_since_are_let_go(self):
        server = Server()
        server.add_player(0, 0)
        client = server.players[0].client
        had = []
        for word_comes in (False, False, True, True, False):
            server.run_tick()
            server.letter_arrives(0)
            had.append(sorted(client.views))
            if word_comes:
                server.word_arrives(len(server.words) - 1)
        self.assertEqual(had, [[1], [1, 2], [1, 2, 3], [3, 4], [4, 5]])

    def test_which_views_a_client_must_and_must_not_have(self):
        server = Server()
        server.add_player(0, 0)
        server.run_tick()
        server.letter_arrives(0)
        server.word_arrives(0)
        server.run_tick()
        server.run_tick()
        client = server.players[0].client
        letter = server.letters[1]
        self.assertEqual((letter.tick, letter.since), (3, 1))
        for ticks, takes in (([], False), ([2], False), ([1], True), ([1, 2], True), ([1, 3], False), ([1, 4], False)):
            with self.subTest(ticks=ticks):
                client.views = {tick: {} for tick in ticks}
                self.assertEqual(client.can_take(letter), takes)


if __name__ == "__main__":
    unittest.main()
