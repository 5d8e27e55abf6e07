"""has: the newest tick, how many ticks, the newest view; and point 3's refusals."""

import unittest

from asking import (
    LARGEST, ON_THE_WAY, STATE, TICK, Asking, arrive, gone, has, lose, player, thing, word_arrives, word_lost)


class Refusals(Asking):
    def test_no_such_player(self):
        for number in (0, 1, LARGEST):
            with self.subTest(number=number):
                self.check((has(number), [-2]))

    def test_no_view_only_where_there_is_a_player(self):
        for players in (1, 2, 3, 4):
            with self.subTest(players=players):
                self.check(
                    *[(player(0, 0), [n]) for n in range(players)], *[(has(n), [-6]) for n in range(players)],
                    (has(players), [-2]), (has(players + 1), [-2]), (has(LARGEST), [-2]))

    def test_no_view_before_a_letter_comes(self):
        self.check(
            (thing(0), [1]), (player(0, 0), [0]), (has(0), [-6]), (TICK, [1, 1, 4]), (has(0), [-6]),
            (arrive(0), [0, 1, 1]), (has(0), [1, 1, 1, 0, 0, 0, 0]), (has(1), [-2]))

    def test_no_view_where_letters_were_lost(self):
        self.check(
            (thing(0), [1]), (player(0, 0), [0]), (TICK, [1, 1, 4]), (TICK, [2, 1, 4]), (lose(0), [1]), (lose(0), [0]),
            (has(0), [-6]))

    def test_a_letter_to_another_brings_no_view(self):
        self.check(
            (player(0, 0), [0]), (player(0, 0), [1]), (TICK, [1, 2, 0, 0]), (arrive(1), [1, 1, 1]),
            (has(0), [-6]), (has(1), [1, 1, 0]), (has(2), [-2]))

    def test_a_refusal_leaves_all_as_it_was(self):
        state, on_the_way = (STATE, [2, 1, 1, 0, 1, 0]), (ON_THE_WAY, [1, 0, 1, 0, 4, 0])
        self.check(
            (thing(0), [1]), (player(0, 0), [0]), (TICK, [1, 1, 4]), state, on_the_way, (has(0), [-6]), (has(1), [-2]),
            (has(LARGEST), [-2]), state, on_the_way, (arrive(0), [0, 1, 1]), (has(0), [1, 1, 1, 0, 0, 0, 0]))


class Ticks(Asking):
    """Thing 0 has as its look the tick that comes next."""

    def sent(self, ticks):
        steps = [(player(0, 0), [0])]
        for tick in range(1, ticks + 1):
            steps += [(thing(0, look=tick), [1]), (TICK, [tick, 1, 4])]
        return steps

    def test_in_order(self):
        self.check(
            *self.sent(3), (arrive(0), [0, 1, 1]), (has(0), [1, 1, 1, 0, 0, 0, 1]),
            (arrive(0), [0, 2, 1]), (has(0), [2, 2, 1, 0, 0, 0, 2]),
            (arrive(0), [0, 3, 1]), (has(0), [3, 3, 1, 0, 0, 0, 3]))

    def test_a_late_one_is_dropped(self):
        self.check(
            *self.sent(3), (arrive(1), [0, 2, 1]), (has(0), [2, 1, 1, 0, 0, 0, 2]),
            (arrive(0), [0, 1, 0]), (has(0), [2, 1, 1, 0, 0, 0, 2]),
            (arrive(0), [0, 3, 1]), (has(0), [3, 2, 1, 0, 0, 0, 3]))

    def test_the_newest_first(self):
        self.check(
            *self.sent(3), (arrive(2), [0, 3, 1]), (arrive(1), [0, 2, 0]), (arrive(0), [0, 1, 0]),
            (has(0), [3, 1, 1, 0, 0, 0, 3]))

    def test_lost_ones_are_not_there(self):
        self.check(
            *self.sent(4), (lose(0), [3]), (arrive(0), [0, 2, 1]), (lose(0), [1]), (has(0), [2, 1, 1, 0, 0, 0, 2]),
            (arrive(0), [0, 4, 1]), (has(0), [4, 2, 1, 0, 0, 0, 4]))

    def test_it_is_the_view_of_then_not_of_now(self):
        self.check(*self.sent(2), (arrive(0), [0, 1, 1]), (gone(0), [0]), (has(0), [1, 1, 1, 0, 0, 0, 1]))

    def test_views_are_let_go_once_a_letter_since_a_newer_tick_is_taken(self):
        # Word of 2 comes: 1 and 2 stay until tick 4's letter, since 2, is taken; then 1 goes and 2 stays.
        self.check(
            *self.sent(3), (arrive(0), [0, 1, 1]), (arrive(0), [0, 2, 1]), (word_arrives(1), [0, 2]),
            (has(0), [2, 2, 1, 0, 0, 0, 2]), (thing(0, look=4), [1]), (TICK, [4, 1, 4]),
            (has(0), [2, 2, 1, 0, 0, 0, 2]), (arrive(1), [0, 4, 1]), (has(0), [4, 2, 1, 0, 0, 0, 4]),
            (STATE, [5, 1, 1, 2, 2, 2]), (arrive(0), [0, 3, 0]), (has(0), [4, 2, 1, 0, 0, 0, 4]))

    def test_a_letter_since_0_lets_nothing_go(self):
        self.check(
            *self.sent(3), (arrive(0), [0, 1, 1]), (word_arrives(0), [0, 1]), (arrive(0), [0, 2, 1]),
            (word_arrives(0), [0, 2]), (arrive(0), [0, 3, 1]), (has(0), [3, 3, 1, 0, 0, 0, 3]))

    def test_several_views_are_let_go_at_once(self):
        self.check(
            *self.sent(4), *[(arrive(0), [0, n, 1]) for n in range(1, 5)], (has(0), [4, 4, 1, 0, 0, 0, 4]),
            (word_arrives(2), [0, 3]), (TICK, [5, 1, 4]), (has(0), [4, 4, 1, 0, 0, 0, 4]), (arrive(0), [0, 5, 1]),
            (has(0), [5, 3, 1, 0, 0, 0, 4]), (word_arrives(3), [0, 5]), (TICK, [6, 1, 0]), (arrive(0), [0, 6, 1]),
            (has(0), [6, 2, 1, 0, 0, 0, 4]))

    def test_word_that_comes_or_is_lost_changes_nothing_there(self):
        self.check(
            *self.sent(2), (arrive(0), [0, 1, 1]), (arrive(0), [0, 2, 1]), (has(0), [2, 2, 1, 0, 0, 0, 2]),
            (word_lost(0), [1]), (has(0), [2, 2, 1, 0, 0, 0, 2]), (word_arrives(0), [0, 2]),
            (has(0), [2, 2, 1, 0, 0, 0, 2]))

    def test_a_letter_since_a_tick_that_is_not_the_newest_it_has(self):
        # Tick 3 tells from 1, where 1 was seen; tick 2, where it was not, must not shine through.
        self.check(
            (thing(0), [1]), (thing(1, 1), [2]), (player(0, 5), [0]), (TICK, [1, 1, 8]), (arrive(0), [0, 1, 1]),
            (word_arrives(0), [0, 1]), (gone(1), [1]), (thing(2, 2), [2]), (TICK, [2, 1, 5]), (arrive(0), [0, 2, 1]),
            (has(0), [2, 2, 2, 0, 0, 0, 0, 2, 2, 0, 0]), (gone(2), [1]), (thing(1, 1), [2]), (TICK, [3, 1, 0]),
            (arrive(0), [0, 3, 1]), (has(0), [3, 3, 2, 0, 0, 0, 0, 1, 1, 0, 0]))


class Views(Asking):
    def known(self, *pairs):
        """Things 3 and 7, own thing 3; the client has tick 1 and that is known."""
        self.check(
            (thing(7, 1, 1, 7), [1]), (thing(3, 0, 0, 3), [2]), (player(3, 5), [0]), (TICK, [1, 1, 8]),
            (arrive(0), [0, 1, 1]), (word_arrives(0), [0, 1]),
            (has(0), [1, 1, 2, 3, 0, 0, 3, 7, 1, 1, 7]), *pairs)

    def test_put_by_rising_numbers(self):
        self.known(
            (thing(5, 2, 2, 5), [3]), (thing(1, 0, 1, 1), [4]), (thing(9, 5, 5, 9), [5]), (TICK, [2, 1, 12]),
            (arrive(0), [0, 2, 1]),
            (has(0), [2, 2, 5, 1, 0, 1, 1, 3, 0, 0, 3, 5, 2, 2, 5, 7, 1, 1, 7, 9, 5, 5, 9]))

    def test_changed(self):
        self.known(
            (thing(7, 2, 1, 7), [2]), (TICK, [2, 1, 4]), (arrive(0), [0, 2, 1]),
            (has(0), [2, 2, 2, 3, 0, 0, 3, 7, 2, 1, 7]))

    def test_own_changed_still_stands_ahead(self):
        self.known(
            (thing(3, 0, 0, 9), [2]), (TICK, [2, 1, 4]), (arrive(0), [0, 2, 1]),
            (has(0), [2, 2, 2, 3, 0, 0, 9, 7, 1, 1, 7]))

    def test_gone(self):
        self.known((gone(7), [1]), (TICK, [2, 1, 1]), (arrive(0), [0, 2, 1]), (has(0), [2, 2, 1, 3, 0, 0, 3]))

    def test_gone_by_hiding_or_going_too_far_off(self):
        for away in (thing(7, 1, 1, 7, 1), thing(7, 6, 1, 7), thing(7, 1, 6, 7)):
            with self.subTest(away=away):
                self.known((away, [2]), (TICK, [2, 1, 1]), (arrive(0), [0, 2, 1]), (has(0), [2, 2, 1, 3, 0, 0, 3]))

    def test_put_changed_and_gone_together(self):
        self.known(
            (gone(7), [1]), (thing(6, 3, 3, 6), [2]), (thing(3, 1, 0, 3), [2]), (TICK, [2, 1, 9]),
            (arrive(0), [0, 2, 1]), (has(0), [2, 2, 2, 3, 1, 0, 3, 6, 3, 3, 6]))

    def test_no_things_at_all(self):
        self.known(
            (gone(3), [1]), (TICK, [2, 1, 2]), (arrive(0), [0, 2, 1]), (has(0), [2, 2, 0]), (word_arrives(0), [0, 2]),
            (TICK, [3, 1, 0]), (arrive(0), [0, 3, 1]), (has(0), [3, 2, 0]))

    def test_no_things_from_the_beginning(self):
        self.check((player(0, 0), [0]), (TICK, [1, 1, 0]), (arrive(0), [0, 1, 1]), (has(0), [1, 1, 0]))

    def test_nothing_changed_is_a_view_of_another_tick(self):
        self.known((TICK, [2, 1, 0]), (arrive(0), [0, 2, 1]), (has(0), [2, 2, 2, 3, 0, 0, 3, 7, 1, 1, 7]))

    def test_each_client_has_its_own(self):
        self.check(
            (thing(1), [1]), (thing(2, 5, 5), [2]), (player(1, 0), [0]), (player(2, 5), [1]), (TICK, [1, 2, 4, 8]),
            (arrive(1), [1, 1, 1]), (TICK, [2, 2, 4, 8]), (arrive(1), [0, 2, 1]),
            (has(0), [2, 1, 1, 1, 0, 0, 0]), (has(1), [1, 1, 2, 1, 0, 0, 0, 2, 5, 5, 0]))

    def test_a_player_that_joins_late(self):
        self.check(
            (thing(1), [1]), (TICK, [1, 0]), (TICK, [2, 0]), (player(1, 0), [0]), (has(0), [-6]), (TICK, [3, 1, 4]),
            (arrive(0), [0, 3, 1]), (has(0), [3, 1, 1, 1, 0, 0, 0]))


if __name__ == "__main__":
    unittest.main()
