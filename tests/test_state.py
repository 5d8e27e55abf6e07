"""state: which tick comes next, how many things and players, and three numbers of each player."""

import unittest

from asking import STATE, TICK, Asking, arrive, gone, lose, player, thing, word_arrives, word_lost


class World(Asking):
    def test_at_the_beginning(self):
        self.check((STATE, [1, 0, 0]))

    def test_how_many_things(self):
        self.check(
            (thing(5), [1]), (STATE, [1, 1, 0]), (thing(5, 1), [1]), (STATE, [1, 1, 0]),
            (thing(6, hidden=1), [2]), (STATE, [1, 2, 0]), (gone(5), [1]), (STATE, [1, 1, 0]),
            (gone(5), [-2]), (thing(100), [-1]), (STATE, [1, 1, 0]), (gone(6), [0]), (STATE, [1, 0, 0]))

    def test_20_things_and_no_more(self):
        state = (STATE, [1, 20, 0])
        self.check(*[(thing(n), [n + 1]) for n in range(20)], state, (thing(20), [-5]), state)

    def test_how_many_players(self):
        self.check(
            (player(0, 0), [0]), (STATE, [1, 0, 1, 0, 0, 0]), (player(100, 0), [-1]), (STATE, [1, 0, 1, 0, 0, 0]),
            *[(player(0, 0), [n]) for n in (1, 2, 3)], (STATE, [1, 0, 4] + [0] * 12),
            (player(0, 0), [-5]), (STATE, [1, 0, 4] + [0] * 12))

    def test_which_tick_comes_next(self):
        self.check((TICK, [1, 0]), (STATE, [2, 0, 0]), (TICK, [2, 0]), (TICK, [3, 0]), (STATE, [4, 0, 0]))

    def test_a_refused_tick_still_comes_next(self):
        state = (STATE, [31, 0, 1, 0, 30, 0])
        self.check(
            (player(0, 0), [0]), *[(TICK, [n + 1, 1, 0]) for n in range(30)], state, (TICK, [-5]), state,
            (TICK, [-5]), state, (lose(0), [29]), (TICK, [31, 1, 0]), (STATE, [32, 0, 1, 0, 31, 0]))

    def test_behind_59_ticks(self):
        # More calls than a list has: within 40 calls there are no 59 ticks.
        self.check(*[(TICK, [n + 1, 0]) for n in range(59)], (STATE, [60, 0, 0]), (TICK, [-5]), (STATE, [60, 0, 0]))


class Players(Asking):
    def test_known_and_newer_sent_and_views(self):
        self.check(
            (player(0, 0), [0]), (STATE, [1, 0, 1, 0, 0, 0]),
            (TICK, [1, 1, 0]), (STATE, [2, 0, 1, 0, 1, 0]), (TICK, [2, 1, 0]), (TICK, [3, 1, 0]),
            (STATE, [4, 0, 1, 0, 3, 0]),
            (arrive(0), [0, 1, 1]), (STATE, [4, 0, 1, 0, 3, 1]), (arrive(0), [0, 2, 1]), (STATE, [4, 0, 1, 0, 3, 2]),
            (word_arrives(0), [0, 1]), (STATE, [4, 0, 1, 1, 2, 2]), (word_arrives(0), [0, 2]),
            (STATE, [4, 0, 1, 2, 1, 2]), (arrive(0), [0, 3, 1]), (STATE, [4, 0, 1, 2, 1, 3]),
            (word_arrives(0), [0, 3]), (STATE, [4, 0, 1, 3, 0, 3]),
            (TICK, [4, 1, 0]), (STATE, [5, 0, 1, 3, 1, 3]), (arrive(0), [0, 4, 1]), (STATE, [5, 0, 1, 3, 1, 2]))

    def test_lost_letters_were_sent_too(self):
        self.check(
            (player(0, 0), [0]), (TICK, [1, 1, 0]), (lose(0), [0]), (STATE, [2, 0, 1, 0, 1, 0]), (TICK, [2, 1, 0]),
            (lose(0), [0]), (STATE, [3, 0, 1, 0, 2, 0]), (TICK, [3, 1, 0]), (arrive(0), [0, 3, 1]),
            (word_arrives(0), [0, 3]), (STATE, [4, 0, 1, 3, 0, 1]))

    def test_a_lost_word_is_not_known(self):
        self.check(
            (player(0, 0), [0]), (TICK, [1, 1, 0]), (arrive(0), [0, 1, 1]), (word_lost(0), [0]),
            (STATE, [2, 0, 1, 0, 1, 1]))

    def test_an_old_word_changes_nothing(self):
        self.check(
            (player(0, 0), [0]), (TICK, [1, 1, 0]), (TICK, [2, 1, 0]), (arrive(0), [0, 1, 1]), (arrive(0), [0, 2, 1]),
            (word_arrives(1), [0, 2]), (STATE, [3, 0, 1, 2, 0, 2]), (word_arrives(0), [0, 2]),
            (STATE, [3, 0, 1, 2, 0, 2]))

    def test_a_player_that_joined_late(self):
        self.check(
            (player(0, 0), [0]), (TICK, [1, 1, 0]), (TICK, [2, 1, 0]), (player(0, 0), [1]),
            (STATE, [3, 0, 2, 0, 2, 0, 0, 0, 0]), (TICK, [3, 2, 0, 0]), (STATE, [4, 0, 2, 0, 3, 0, 0, 1, 0]),
            (TICK, [4, 2, 0, 0]), (arrive(3), [1, 3, 1]), (word_arrives(0), [1, 3]),
            (STATE, [5, 0, 2, 0, 4, 0, 3, 1, 1]))

    def test_each_player_in_order(self):
        self.check(
            *[(player(n, 0), [n]) for n in range(3)], (TICK, [1, 3, 0, 0, 0]), (TICK, [2, 3, 0, 0, 0]),
            (arrive(5), [2, 2, 1]), (arrive(1), [1, 1, 1]), (word_arrives(1), [1, 1]),
            (STATE, [3, 0, 3, 0, 2, 0, 1, 1, 1, 0, 2, 1]))


if __name__ == "__main__":
    unittest.main()
