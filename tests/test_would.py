"""would: the letter that a tick would send now, and point 3's refusal."""

import unittest

from asking import (
    LARGEST, ON_THE_WAY, STATE, TICK, Asking, arrive, gone, has, lose, player, thing, word_arrives, would)


class Since0(Asking):
    def test_before_the_first_tick(self):
        self.check((thing(5, 1, 2, 3), [1]), (player(5, 0), [0]), (would(0), [1, 0, 1, 5, 1, 2, 3, 0]))

    def test_nothing_to_tell(self):
        self.check((player(5, 9), [0]), (would(0), [1, 0, 0, 0]), (thing(6), [1]), (would(0), [1, 0, 0, 0]))

    def test_put_by_rising_numbers(self):
        self.check(
            (thing(9, 1), [1]), (thing(2, 2), [2]), (thing(5, 3), [3]), (player(5, 2), [0]),
            (would(0), [1, 0, 3, 2, 2, 0, 0, 5, 3, 0, 0, 9, 1, 0, 0, 0]))

    def test_nothing_hidden_or_too_far_off(self):
        self.check(
            (thing(1, 5, 5, 0, 1), [1]), (thing(2, 6, 5, 0, 1), [2]), (thing(3, 7, 5), [3]), (thing(4, 5, 6), [4]),
            (player(1, 1), [0]), (would(0), [1, 0, 2, 1, 5, 5, 0, 4, 5, 6, 0, 0]))

    def test_behind_ticks_of_which_none_is_known(self):
        # 2 was sent at tick 1 and is not there any more; since 0 nothing is gone.
        self.check(
            (thing(1), [1]), (thing(2), [2]), (player(1, 0), [0]), (TICK, [1, 1, 8]), (gone(2), [1]),
            (would(0), [2, 0, 1, 1, 0, 0, 0, 0]), (arrive(0), [0, 1, 1]), (would(0), [2, 0, 1, 1, 0, 0, 0, 0]),
            (TICK, [2, 1, 4]), (lose(0), [0]), (would(0), [3, 0, 1, 1, 0, 0, 0, 0]))

    def test_a_player_that_joins_late(self):
        self.check(
            (thing(1), [1]), (TICK, [1, 0]), (TICK, [2, 0]), (player(1, 0), [0]), (would(0), [3, 0, 1, 1, 0, 0, 0, 0]))


class SinceKnown(Asking):
    def known(self, *pairs):
        """Things 3, 5, 7 and own thing 5; tick 1 is known."""
        self.check(
            (thing(7, 1, 1, 7), [1]), (thing(3, 1, 0, 3), [2]), (thing(5, 0, 0, 5), [3]), (player(5, 5), [0]),
            (TICK, [1, 1, 12]), (arrive(0), [0, 1, 1]), (word_arrives(0), [0, 1]), *pairs)

    def test_nothing_changed(self):
        self.known((would(0), [2, 1, 0, 0]))

    def test_put(self):
        self.known((thing(6, 2, 2, 6), [4]), (would(0), [2, 1, 1, 6, 2, 2, 6, 0]))

    def test_changed_in_column_row_or_look(self):
        for column, row, look in ((2, 1, 7), (1, 2, 7), (1, 1, 8)):
            with self.subTest(column=column, row=row, look=look):
                self.known((thing(7, column, row, look), [3]), (would(0), [2, 1, 1, 7, column, row, look, 0]))

    def test_gone(self):
        self.known((gone(7), [2]), (would(0), [2, 1, 0, 1, 7]))

    def test_gone_by_hiding_or_going_too_far_off(self):
        for away in (thing(7, 1, 1, 7, 1), thing(7, 6, 1, 7), thing(7, 1, 6, 7)):
            with self.subTest(away=away):
                self.known((away, [3]), (would(0), [2, 1, 0, 1, 7]))

    def test_gone_by_rising_numbers_with_its_own_thing(self):
        self.known((gone(5), [2]), (would(0), [2, 1, 0, 3, 3, 5, 7]))

    def test_put_and_gone_together(self):
        self.known(
            (thing(8, 1, 1, 8), [4]), (thing(4, 0, 0, 4), [5]), (gone(7), [4]), (gone(3), [3]),
            (would(0), [2, 1, 2, 4, 0, 0, 4, 8, 1, 1, 8, 2, 3, 7]))

    def test_gone_and_there_again_just_so(self):
        self.known((gone(7), [2]), (thing(7, 1, 1, 7), [3]), (would(0), [2, 1, 0, 0]))

    def test_against_the_view_of_the_known_tick_not_of_the_last_one_sent(self):
        self.known(
            (gone(7), [2]), (thing(6, 2, 2, 6), [3]), (TICK, [2, 1, 5]), (would(0), [3, 1, 1, 6, 2, 2, 6, 1, 7]),
            (thing(7, 1, 1, 7), [4]), (gone(6), [3]), (TICK, [3, 1, 0]), (would(0), [4, 1, 0, 0]),
            (arrive(0), [0, 2, 1]), (would(0), [4, 1, 0, 0]), (word_arrives(0), [0, 2]),
            (would(0), [4, 2, 1, 7, 1, 1, 7, 1, 6]))

    def test_against_what_was_sent_then_though_an_older_word_comes_later(self):
        self.known(
            (gone(7), [2]), (TICK, [2, 1, 1]), (arrive(0), [0, 2, 1]), (TICK, [3, 1, 1]), (arrive(0), [0, 3, 1]),
            (word_arrives(1), [0, 3]), (would(0), [4, 3, 0, 0]), (word_arrives(0), [0, 3]), (would(0), [4, 3, 0, 0]))

    def test_each_player_by_itself(self):
        self.known(
            (player(3, 0), [1]), (gone(7), [2]), (would(0), [2, 1, 0, 1, 7]), (would(1), [2, 0, 1, 3, 1, 0, 3, 0]))


class ThatVeryLetter(Asking):
    def test_asking_changes_nothing_and_the_tick_sends_just_that_letter(self):
        state = (STATE, [2, 2, 1, 1, 0, 1])
        asked = (would(0), [2, 1, 1, 3, 2, 2, 3, 1, 2])
        self.check(
            (thing(1), [1]), (thing(2, 1, 1), [2]), (player(1, 2), [0]), (TICK, [1, 1, 8]), (arrive(0), [0, 1, 1]),
            (word_arrives(0), [0, 1]), (gone(2), [1]), (thing(3, 2, 2, 3), [2]),
            state, asked, asked, state, (ON_THE_WAY, [0, 0]), (has(0), [1, 1, 2, 1, 0, 0, 0, 2, 1, 1, 0]), asked,
            (TICK, [2, 1, 5]), (ON_THE_WAY, [1, 0, 2, 1, 5, 0]), (arrive(0), [0, 2, 1]),
            (has(0), [2, 2, 2, 1, 0, 0, 0, 3, 2, 2, 3]))

    def test_where_a_tick_is_refused(self):
        # No more than 30 letters may be on their way; what the letter would be is still told.
        self.check(
            (thing(0), [1]), (player(0, 0), [0]), *[(TICK, [n + 1, 1, 4]) for n in range(30)],
            (TICK, [-5]), (would(0), [31, 0, 1, 0, 0, 0, 0, 0]), (lose(0), [29]), (TICK, [31, 1, 4]))


class Refusals(Asking):
    def test_no_player_at_all(self):
        for number in (0, 1, LARGEST):
            with self.subTest(number=number):
                self.check((thing(0), [1]), (would(number), [-2]))

    def test_the_last_player_and_one_behind_it(self):
        for players in (1, 2, 3, 4):
            with self.subTest(players=players):
                self.check(
                    *[(player(0, 0), [n]) for n in range(players)], *[(would(n), [1, 0, 0, 0]) for n in range(players)],
                    (would(players), [-2]), (would(players + 1), [-2]), (would(LARGEST), [-2]))

    def test_a_refusal_leaves_all_as_it_was(self):
        state, on_the_way = (STATE, [2, 1, 1, 0, 1, 0]), (ON_THE_WAY, [1, 0, 1, 0, 4, 0])
        self.check(
            (thing(0), [1]), (player(0, 0), [0]), (TICK, [1, 1, 4]), state, on_the_way,
            (would(1), [-2]), (would(LARGEST), [-2]), state, on_the_way, (would(0), [2, 0, 1, 0, 0, 0, 0, 0]))


if __name__ == "__main__":
    unittest.main()
