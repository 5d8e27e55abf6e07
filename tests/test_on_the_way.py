"""on_the_way: letters and words, in the order in which they were sent."""

import unittest

from asking import ON_THE_WAY, TICK, Asking, arrive, gone, lose, player, thing, word_arrives, word_lost


class Letters(Asking):
    def test_nothing(self):
        self.check((ON_THE_WAY, [0, 0]))
        self.check(
            (ON_THE_WAY, [0, 0]), (thing(0), [1]), (player(0, 0), [0]), (ON_THE_WAY, [0, 0]), (TICK, [1, 1, 4]),
            (lose(0), [0]), (ON_THE_WAY, [0, 0]))

    def test_a_tick_without_players(self):
        self.check((TICK, [1, 0]), (ON_THE_WAY, [0, 0]))

    def test_to_whom_its_tick_since_which_its_size(self):
        self.check(
            (thing(1), [1]), (thing(2, 3, 3), [2]), (player(2, 0), [0]), (player(1, 3), [1]), (TICK, [1, 2, 4, 8]),
            (ON_THE_WAY, [2, 0, 1, 0, 4, 1, 1, 0, 8, 0]))

    def test_since_a_known_tick(self):
        self.check(
            (thing(1), [1]), (thing(2), [2]), (player(1, 0), [0]), (player(2, 0), [1]), (TICK, [1, 2, 8, 8]),
            (arrive(1), [1, 1, 1]), (word_arrives(0), [1, 1]), (gone(1), [1]), (TICK, [2, 2, 0, 1]),
            (ON_THE_WAY, [3, 0, 1, 0, 8, 0, 2, 0, 0, 1, 2, 1, 1, 0]))

    def test_behind_letters_that_came_or_were_lost(self):
        self.check(
            *[(player(0, 0), [n]) for n in range(3)], (TICK, [1, 3, 0, 0, 0]), (TICK, [2, 3, 0, 0, 0]),
            (ON_THE_WAY, [6, 0, 1, 0, 0, 1, 1, 0, 0, 2, 1, 0, 0, 0, 2, 0, 0, 1, 2, 0, 0, 2, 2, 0, 0, 0]),
            (lose(1), [5]),
            (ON_THE_WAY, [5, 0, 1, 0, 0, 2, 1, 0, 0, 0, 2, 0, 0, 1, 2, 0, 0, 2, 2, 0, 0, 0]),
            (arrive(2), [0, 2, 1]),
            (ON_THE_WAY, [4, 0, 1, 0, 0, 2, 1, 0, 0, 1, 2, 0, 0, 2, 2, 0, 0, 1, 0, 2]),
            (arrive(0), [0, 1, 0]),
            (ON_THE_WAY, [3, 2, 1, 0, 0, 1, 2, 0, 0, 2, 2, 0, 0, 1, 0, 2]),
            (TICK, [3, 3, 0, 0, 0]), (lose(2), [5]),
            (ON_THE_WAY, [5, 2, 1, 0, 0, 1, 2, 0, 0, 0, 3, 0, 0, 1, 3, 0, 0, 2, 3, 0, 0, 1, 0, 2]))

    def test_the_size_stays_what_it_was(self):
        on_the_way = (ON_THE_WAY, [1, 0, 1, 0, 8, 0])
        self.check(
            (thing(1), [1]), (thing(2), [2]), (player(1, 5), [0]), (TICK, [1, 1, 8]), on_the_way,
            (thing(3), [3]), on_the_way, (thing(2, 9, 9), [3]), on_the_way, (thing(3, hidden=1), [3]), on_the_way,
            (gone(2), [2]), on_the_way, (gone(1), [1]), on_the_way, (gone(3), [0]), on_the_way)

    def test_since_and_size_stay_whatever_is_known_afterwards(self):
        self.check(
            (thing(1), [1]), (player(1, 5), [0]), (TICK, [1, 1, 4]), (TICK, [2, 1, 4]), (arrive(0), [0, 1, 1]),
            (word_arrives(0), [0, 1]), (ON_THE_WAY, [1, 0, 2, 0, 4, 0]), (TICK, [3, 1, 0]),
            (ON_THE_WAY, [2, 0, 2, 0, 4, 0, 3, 1, 0, 0]))

    def test_30_letters(self):
        letters = [number for tick in range(1, 31) for number in (0, tick, 0, 0)]
        self.check(
            (player(0, 0), [0]), *[(TICK, [n + 1, 1, 0]) for n in range(30)], (ON_THE_WAY, [30] + letters + [0]),
            (TICK, [-5]), (ON_THE_WAY, [30] + letters + [0]))

    def test_ten_put_and_ten_gone(self):
        things = [(thing(n), [n + 1]) for n in range(10)]
        away = [(gone(n), [9 - n]) for n in range(10)]
        self.check(
            *things, (player(5, 0), [0]), (TICK, [1, 1, 40]), (arrive(0), [0, 1, 1]), (word_arrives(0), [0, 1]),
            *away, (TICK, [2, 1, 10]), (ON_THE_WAY, [1, 0, 2, 1, 10, 0]))


class Words(Asking):
    def test_from_whom_which_tick(self):
        self.check(
            (player(0, 0), [0]), (player(0, 0), [1]), (TICK, [1, 2, 0, 0]), (arrive(1), [1, 1, 1]),
            (ON_THE_WAY, [1, 0, 1, 0, 0, 1, 1, 1]), (arrive(0), [0, 1, 1]), (ON_THE_WAY, [0, 2, 1, 1, 0, 1]))

    def test_in_the_order_sent_behind_words_that_came_or_were_lost(self):
        self.check(
            (player(0, 0), [0]), (player(0, 0), [1]), (TICK, [1, 2, 0, 0]), (TICK, [2, 2, 0, 0]),
            (arrive(1), [1, 1, 1]), (arrive(0), [0, 1, 1]), (arrive(1), [1, 2, 1]), (arrive(0), [0, 2, 1]),
            (ON_THE_WAY, [0, 4, 1, 1, 0, 1, 1, 2, 0, 2]), (word_arrives(1), [0, 1]),
            (ON_THE_WAY, [0, 3, 1, 1, 1, 2, 0, 2]), (word_lost(0), [2]), (ON_THE_WAY, [0, 2, 1, 2, 0, 2]),
            (TICK, [3, 2, 0, 0]), (arrive(1), [1, 3, 1]),
            (ON_THE_WAY, [1, 0, 3, 1, 0, 3, 1, 2, 0, 2, 1, 3]), (word_lost(1), [2]),
            (ON_THE_WAY, [1, 0, 3, 1, 0, 2, 1, 2, 1, 3]))

    def test_a_dropped_or_lost_letter_sends_none(self):
        self.check(
            (player(0, 0), [0]), *[(TICK, [n, 1, 0]) for n in (1, 2, 3)], (arrive(1), [0, 2, 1]),
            (arrive(0), [0, 1, 0]), (lose(0), [0]), (ON_THE_WAY, [0, 1, 0, 2]))

    def test_an_old_word_stays_on_its_way(self):
        self.check(
            (player(0, 0), [0]), (TICK, [1, 1, 0]), (TICK, [2, 1, 0]), (arrive(0), [0, 1, 1]), (arrive(0), [0, 2, 1]),
            (word_arrives(1), [0, 2]), (ON_THE_WAY, [0, 1, 0, 1]), (word_arrives(0), [0, 2]), (ON_THE_WAY, [0, 0]))


if __name__ == "__main__":
    unittest.main()
