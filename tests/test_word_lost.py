"""word_lost: what it answers, its refusals, and what is known behind it."""

import unittest

from asking import LARGEST, ON_THE_WAY, STATE, TICK, Asking, arrive, lose, player, thing, word_arrives, word_lost


class Refusals(Asking):
    def test_none_on_its_way(self):
        for word in (0, 1, LARGEST):
            with self.subTest(word=word):
                self.check((word_lost(word), [-2]))

    def test_letters_are_no_words(self):
        self.check((player(0, 0), [0]), (TICK, [1, 1, 0]), (word_lost(0), [-2]), (lose(0), [0]), (word_lost(0), [-2]))

    def test_the_last_word_and_one_behind_it(self):
        for behind in (2, 3, LARGEST):
            with self.subTest(behind=behind):
                self.check(
                    (player(0, 0), [0]), (player(0, 0), [1]), (TICK, [1, 2, 0, 0]),
                    (arrive(0), [0, 1, 1]), (word_lost(1), [-2]), (arrive(0), [1, 1, 1]),
                    (word_lost(behind), [-2]), (word_lost(1), [1]), (word_lost(1), [-2]),
                    (word_lost(0), [0]), (word_lost(0), [-2]))

    def test_a_refusal_leaves_all_as_it_was(self):
        on_the_way = (ON_THE_WAY, [1, 1, 1, 0, 0, 1, 0, 1])
        state = (STATE, [2, 1, 2, 0, 1, 1, 0, 1, 0])
        self.check(
            (thing(0), [1]), (player(0, 0), [0]), (player(1, 0), [1]), (TICK, [1, 2, 4, 0]), (arrive(0), [0, 1, 1]),
            on_the_way, state, (word_lost(1), [-2]), on_the_way, state, (word_lost(LARGEST), [-2]), on_the_way, state,
            (word_arrives(0), [0, 1]))


class Numbering(Asking):
    """Three players took their letters of tick 1: words 0 to 2 are of players 0 to 2."""

    def with_three(self, *pairs):
        self.check(
            *[(player(0, 0), [n]) for n in range(3)], (TICK, [1, 3, 0, 0, 0]),
            *[(arrive(0), [n, 1, 1]) for n in range(3)], *pairs)

    def test_those_behind_it_are_one_lower(self):
        self.with_three(
            (word_lost(0), [2]), (ON_THE_WAY, [0, 2, 1, 1, 2, 1]), (word_arrives(1), [2, 1]), (word_arrives(0), [1, 1]))

    def test_those_ahead_of_it_stay(self):
        self.with_three((word_lost(2), [2]), (ON_THE_WAY, [0, 2, 0, 1, 1, 1]), (word_arrives(1), [1, 1]))

    def test_one_in_the_middle(self):
        self.with_three(
            (word_lost(1), [2]), (ON_THE_WAY, [0, 2, 0, 1, 2, 1]), (word_lost(1), [1]), (word_arrives(0), [0, 1]))

    def test_a_new_word_is_behind_the_old(self):
        self.with_three(
            (word_lost(0), [2]), (TICK, [2, 3, 0, 0, 0]), (arrive(0), [0, 2, 1]),
            (ON_THE_WAY, [2, 1, 2, 0, 0, 2, 2, 0, 0, 3, 1, 1, 2, 1, 0, 2]), (word_lost(2), [2]))

    def test_letters_stay_as_they_are(self):
        self.with_three(
            (TICK, [2, 3, 0, 0, 0]), (word_lost(1), [2]),
            (ON_THE_WAY, [3, 0, 2, 0, 0, 1, 2, 0, 0, 2, 2, 0, 0, 2, 0, 1, 2, 1]), (lose(2), [2]))


class Known(Asking):
    def test_a_word_that_is_lost_is_never_heard_of(self):
        self.check(
            (thing(0), [1]), (player(0, 0), [0]), (TICK, [1, 1, 4]), (arrive(0), [0, 1, 1]), (word_lost(0), [0]),
            (word_arrives(0), [-2]), (STATE, [2, 1, 1, 0, 1, 1]), (TICK, [2, 1, 4]), (ON_THE_WAY, [1, 0, 2, 0, 4, 0]))

    def test_what_was_known_stays_known(self):
        self.check(
            (thing(0), [1]), (player(0, 0), [0]), (TICK, [1, 1, 4]), (arrive(0), [0, 1, 1]), (word_arrives(0), [0, 1]),
            (thing(0, 1), [1]), (TICK, [2, 1, 4]), (arrive(0), [0, 2, 1]), (word_lost(0), [0]),
            (STATE, [3, 1, 1, 1, 1, 2]), (TICK, [3, 1, 4]), (ON_THE_WAY, [1, 0, 3, 1, 4, 0]))

    def test_a_later_word_of_a_newer_tick_is_heard_of(self):
        self.check(
            (thing(0), [1]), (player(0, 0), [0]), (TICK, [1, 1, 4]), (arrive(0), [0, 1, 1]), (word_lost(0), [0]),
            (TICK, [2, 1, 4]), (arrive(0), [0, 2, 1]), (word_arrives(0), [0, 2]), (TICK, [3, 1, 0]))

    def test_the_client_keeps_what_it_has(self):
        self.check(
            (thing(0, 1, 2, 3), [1]), (player(0, 0), [0]), (TICK, [1, 1, 4]), (arrive(0), [0, 1, 1]),
            (word_lost(0), [0]), ([9, 0], [1, 1, 1, 0, 1, 2, 3]))


if __name__ == "__main__":
    unittest.main()
