"""tick, arrive, lose and word_arrives: what they answer, and point 2's refusals."""

import unittest

from asking import LARGEST, TICK, Asking, arrive, gone, lose, player, thing, word_arrives


class Ticks(Asking):
    def test_the_first_is_1_and_without_players_no_letter_is_sent(self):
        self.check((TICK, [1, 0]), (TICK, [2, 0]), (lose(0), [-2]))

    def test_a_letter_for_each_player_in_order(self):
        self.check(
            (thing(7, 1, 1), [1]), (thing(8, 5, 5), [2]), (player(7, 0), [0]), (player(9, 99), [1]),
            (player(8, 4), [2]), (TICK, [1, 3, 4, 0, 8]),
            (arrive(0), [0, 1, 1]), (arrive(0), [1, 1, 1]), (arrive(0), [2, 1, 1]))

    def test_an_empty_letter_is_a_letter(self):
        self.check((player(1, 1), [0]), (TICK, [1, 1, 0]), (arrive(0), [0, 1, 1]), (word_arrives(0), [0, 1]))

    def test_a_player_that_comes_later_is_told_from_nothing(self):
        self.check(
            (thing(1), [1]), (player(1, 0), [0]), (TICK, [1, 1, 4]), (arrive(0), [0, 1, 1]),
            (word_arrives(0), [0, 1]), (player(1, 0), [1]), (TICK, [2, 2, 0, 4]))

    def test_30_letters_may_be_on_their_way_and_31_not(self):
        for players in (1, 2, 3):
            with self.subTest(players=players):
                room = 30 // players
                self.check(
                    *[(player(0, 0), [n]) for n in range(players)],
                    *[(TICK, [n + 1, players] + [0] * players) for n in range(room)],
                    (TICK, [-5]), (TICK, [-5]))

    def test_32_letters_are_too_many(self):
        self.check(
            *[(player(0, 0), [n]) for n in range(4)], *[(TICK, [n + 1, 4, 0, 0, 0, 0]) for n in range(7)],
            (TICK, [-5]), (lose(0), [27]), (TICK, [-5]), (lose(0), [26]), (TICK, [8, 4, 0, 0, 0, 0]),
            (TICK, [-5]), (lose(29), [29]))

    def test_room_comes_back_when_a_letter_comes(self):
        self.check(
            (player(0, 0), [0]), *[(TICK, [n + 1, 1, 0]) for n in range(30)], (TICK, [-5]),
            (arrive(29), [0, 30, 1]), (TICK, [31, 1, 0]), (TICK, [-5]))

    def test_words_on_their_way_take_no_room(self):
        ticks = [pair for n in range(15) for pair in ((TICK, [n + 1, 1, 0]), (arrive(0), [0, n + 1, 1]))]
        self.check((player(0, 0), [0]), *ticks, *[(TICK, [n + 16, 1, 0]) for n in range(9)])

    def test_a_refused_tick_sends_nobody_anything(self):
        self.check(
            *[(player(0, 0), [n]) for n in range(3)], *[(TICK, [n + 1, 3, 0, 0, 0]) for n in range(9)],
            (player(0, 0), [3]), (TICK, [-5]), (lose(26), [26]), (TICK, [10, 4, 0, 0, 0, 0]), (lose(0), [29]))

    def test_59_ticks_may_be_and_no_60th(self):
        # More calls than a list has: within 40 calls there is no 60th tick.
        self.check(*[(TICK, [n + 1, 0]) for n in range(59)], (TICK, [-5]), (TICK, [-5]), (thing(0), [1]))

    def test_no_60th_tick_with_a_player(self):
        steps = [pair for n in range(59) for pair in ((TICK, [n + 1, 1, 0]), (lose(0), [0]))]
        self.check((player(0, 0), [0]), *steps, (TICK, [-5]), (lose(0), [-2]))


class Refusals(Asking):
    def test_none_on_its_way(self):
        for call in (arrive, lose, word_arrives):
            for number in (0, 1, LARGEST):
                with self.subTest(call=call.__name__, number=number):
                    self.check((call(number), [-2]))

    def test_the_last_letter_and_one_behind_it(self):
        for behind in (3, 4, LARGEST):
            with self.subTest(behind=behind):
                start = [(player(0, 0), [n]) for n in range(3)] + [(TICK, [1, 3, 0, 0, 0])]
                self.check(*start, (arrive(behind), [-2]), (lose(behind), [-2]), (arrive(2), [2, 1, 1]))
                self.check(*start, (lose(behind), [-2]), (arrive(behind), [-2]), (lose(2), [2]), (lose(2), [-2]))

    def test_the_last_word_and_one_behind_it(self):
        for behind in (2, 3, LARGEST):
            with self.subTest(behind=behind):
                self.check(
                    (player(0, 0), [0]), (player(0, 0), [1]), (TICK, [1, 2, 0, 0]),
                    (word_arrives(0), [-2]), (arrive(0), [0, 1, 1]), (word_arrives(1), [-2]),
                    (arrive(0), [1, 1, 1]), (word_arrives(behind), [-2]), (word_arrives(1), [1, 1]),
                    (word_arrives(1), [-2]), (word_arrives(0), [0, 1]), (word_arrives(0), [-2]))

    def test_a_refusal_leaves_letters_and_words_as_they_were(self):
        self.check(
            (thing(0), [1]), (player(0, 0), [0]), (TICK, [1, 1, 4]), (TICK, [2, 1, 4]), (arrive(2), [-2]),
            (lose(2), [-2]), (arrive(0), [0, 1, 1]), (arrive(1), [-2]), (lose(1), [-2]), (word_arrives(1), [-2]),
            (TICK, [3, 1, 4]), (word_arrives(0), [0, 1]), (TICK, [4, 1, 0]), (lose(0), [2]))


class Numbering(Asking):
    """Three players and two ticks: letters 0 to 5 are 0@1, 1@1, 2@1, 0@2, 1@2, 2@2."""

    def with_six(self, *pairs):
        self.check(
            *[(player(0, 0), [n]) for n in range(3)], (TICK, [1, 3, 0, 0, 0]), (TICK, [2, 3, 0, 0, 0]), *pairs)

    def test_in_the_order_sent(self):
        self.with_six(
            (arrive(0), [0, 1, 1]), (arrive(0), [1, 1, 1]), (arrive(0), [2, 1, 1]),
            (arrive(0), [0, 2, 1]), (arrive(0), [1, 2, 1]), (arrive(0), [2, 2, 1]), (arrive(0), [-2]))

    def test_each_by_its_number(self):
        told = ([0, 1, 1], [1, 1, 1], [2, 1, 1], [0, 2, 1], [1, 2, 1], [2, 2, 1])
        for number, answer in enumerate(told):
            with self.subTest(number=number):
                self.with_six((arrive(number), answer))

    def test_those_behind_one_that_came_are_one_lower(self):
        self.with_six((arrive(2), [2, 1, 1]), (arrive(1), [1, 1, 1]), (arrive(1), [0, 2, 1]), (arrive(2), [2, 2, 1]))

    def test_those_behind_one_that_was_dropped_are_one_lower(self):
        self.with_six((arrive(3), [0, 2, 1]), (arrive(0), [0, 1, 0]), (arrive(0), [1, 1, 1]), (arrive(2), [2, 2, 1]))

    def test_those_behind_one_that_is_lost_are_one_lower(self):
        self.with_six((lose(2), [5]), (lose(0), [4]), (arrive(0), [1, 1, 1]), (arrive(0), [0, 2, 1]), (lose(1), [1]))

    def test_new_letters_are_behind_the_old(self):
        self.with_six((lose(0), [5]), (TICK, [3, 3, 0, 0, 0]), (arrive(5), [0, 3, 1]), (arrive(4), [2, 2, 1]))

    def test_words_in_the_order_sent(self):
        self.with_six(
            (arrive(5), [2, 2, 1]), (arrive(1), [1, 1, 1]), (arrive(2), [0, 2, 1]),
            (word_arrives(0), [2, 2]), (word_arrives(0), [1, 1]), (word_arrives(0), [0, 2]), (word_arrives(0), [-2]))

    def test_words_behind_one_that_came_are_one_lower(self):
        self.with_six(
            (arrive(5), [2, 2, 1]), (arrive(1), [1, 1, 1]), (arrive(2), [0, 2, 1]),
            (word_arrives(1), [1, 1]), (word_arrives(1), [0, 2]), (word_arrives(1), [-2]), (word_arrives(0), [2, 2]))


class Taking(Asking):
    def test_late_letters_are_dropped_and_send_no_word(self):
        self.check(
            (player(0, 0), [0]), (TICK, [1, 1, 0]), (TICK, [2, 1, 0]), (TICK, [3, 1, 0]),
            (arrive(1), [0, 2, 1]), (arrive(0), [0, 1, 0]), (arrive(0), [0, 3, 1]),
            (word_arrives(0), [0, 2]), (word_arrives(0), [0, 3]), (word_arrives(0), [-2]))

    def test_a_client_is_not_held_back_by_another(self):
        self.check(
            (player(0, 0), [0]), (player(0, 0), [1]), (TICK, [1, 2, 0, 0]), (TICK, [2, 2, 0, 0]),
            (arrive(2), [0, 2, 1]), (arrive(1), [1, 1, 1]), (arrive(0), [0, 1, 0]), (arrive(0), [1, 2, 1]))

    def test_a_letter_since_a_view_that_was_let_go(self):
        # The letter of tick 5 is since 3, so tick 1's view goes; tick 2's and tick 4's letters are since 1.
        self.check(
            (thing(0), [1]), (player(0, 0), [0]), (TICK, [1, 1, 4]), (arrive(0), [0, 1, 1]), (word_arrives(0), [0, 1]),
            (TICK, [2, 1, 0]), (TICK, [3, 1, 0]), (arrive(1), [0, 3, 1]), (TICK, [4, 1, 0]),
            (word_arrives(0), [0, 3]), (TICK, [5, 1, 0]), (arrive(2), [0, 5, 1]),
            (arrive(0), [0, 2, 0]), (arrive(0), [0, 4, 0]), (arrive(0), [-2]),
            (word_arrives(0), [0, 5]), (word_arrives(0), [-2]))

    def test_a_letter_since_an_older_view_that_is_still_there(self):
        # Tick 3's letter is since 1 though the client has 2: nobody knows of 2 yet.
        self.check(
            (thing(0), [1]), (player(0, 0), [0]), (TICK, [1, 1, 4]), (arrive(0), [0, 1, 1]), (word_arrives(0), [0, 1]),
            (thing(0, 1), [1]), (TICK, [2, 1, 4]), (arrive(0), [0, 2, 1]), (TICK, [3, 1, 4]), (arrive(0), [0, 3, 1]),
            (word_arrives(1), [0, 3]), (TICK, [4, 1, 0]), (arrive(0), [0, 4, 1]))

    def test_letters_since_0_are_taken_by_a_client_that_has_views(self):
        self.check(
            (thing(0), [1]), (player(0, 0), [0]), (TICK, [1, 1, 4]), (TICK, [2, 1, 4]), (arrive(0), [0, 1, 1]),
            (word_arrives(0), [0, 1]), (arrive(0), [0, 2, 1]), (TICK, [3, 1, 0]), (arrive(0), [0, 3, 1]))

    def test_every_letter_lost_but_the_last(self):
        self.check(
            (thing(0), [1]), (player(0, 0), [0]), (TICK, [1, 1, 4]), (lose(0), [0]), (TICK, [2, 1, 4]),
            (lose(0), [0]), (thing(1), [2]), (TICK, [3, 1, 4 + 4]), (arrive(0), [0, 3, 1]), (word_arrives(0), [0, 3]),
            (TICK, [4, 1, 0]))

    def test_a_lost_letter_sends_no_word(self):
        self.check(
            (player(0, 0), [0]), (TICK, [1, 1, 0]), (lose(0), [0]), (word_arrives(0), [-2]), (arrive(0), [-2]))


class Known(Asking):
    def test_a_letter_taken_is_not_known_before_its_word_comes(self):
        self.check(
            (thing(0), [1]), (player(0, 0), [0]), (TICK, [1, 1, 4]), (arrive(0), [0, 1, 1]), (TICK, [2, 1, 4]),
            (word_arrives(0), [0, 1]), (TICK, [3, 1, 0]))

    def test_a_late_word_changes_nothing(self):
        self.check(
            (thing(0), [1]), (player(0, 0), [0]), (TICK, [1, 1, 4]), (arrive(0), [0, 1, 1]),
            (thing(0, 1), [1]), (TICK, [2, 1, 4]), (arrive(0), [0, 2, 1]), (word_arrives(1), [0, 2]),
            (word_arrives(0), [0, 2]), (TICK, [3, 1, 0]))

    def test_words_in_another_order(self):
        self.check(
            (player(0, 0), [0]), *[(TICK, [n, 1, 0]) for n in range(1, 5)],
            *[(arrive(0), [0, n, 1]) for n in range(1, 5)],
            (word_arrives(1), [0, 2]), (word_arrives(0), [0, 2]), (word_arrives(1), [0, 4]), (word_arrives(0), [0, 4]))

    def test_what_is_known_is_each_players_own(self):
        self.check(
            (thing(0), [1]), (player(0, 0), [0]), (player(0, 0), [1]), (TICK, [1, 2, 4, 4]),
            (arrive(1), [1, 1, 1]), (word_arrives(0), [1, 1]), (TICK, [2, 2, 4, 0]),
            (arrive(0), [0, 1, 1]), (arrive(0), [0, 2, 1]), (word_arrives(1), [0, 2]), (TICK, [3, 2, 0, 0]))

    def test_changed_is_told_from_the_view_that_is_known_not_from_the_last_one_sent(self):
        # 1 is put, moved and gone again over three ticks; only tick 1, without it, is known.
        self.check(
            (thing(0), [1]), (player(0, 9), [0]), (TICK, [1, 1, 4]), (arrive(0), [0, 1, 1]), (word_arrives(0), [0, 1]),
            (thing(1), [2]), (TICK, [2, 1, 4]), (thing(1, 1), [2]), (TICK, [3, 1, 4]),
            (gone(1), [1]), (TICK, [4, 1, 0]))

    def test_gone_is_told_until_it_is_known(self):
        self.check(
            (thing(0), [1]), (thing(1), [2]), (player(0, 9), [0]), (TICK, [1, 1, 8]), (arrive(0), [0, 1, 1]),
            (word_arrives(0), [0, 1]), (gone(1), [1]), (TICK, [2, 1, 1]), (TICK, [3, 1, 1]), (lose(0), [1]),
            (arrive(0), [0, 3, 1]), (TICK, [4, 1, 1]), (word_arrives(0), [0, 3]), (TICK, [5, 1, 0]))

    def test_a_known_tick_older_than_others_sent(self):
        # The word of tick 1 comes after ticks 2 and 3 were sent: told since tick 1's view, not theirs.
        self.check(
            (thing(0), [1]), (player(0, 9), [0]), (TICK, [1, 1, 4]), (thing(1), [2]), (TICK, [2, 1, 8]),
            (thing(2), [3]), (TICK, [3, 1, 12]), (arrive(0), [0, 1, 1]), (word_arrives(0), [0, 1]),
            (TICK, [4, 1, 8]), (arrive(2), [0, 4, 1]), (arrive(0), [0, 2, 0]), (arrive(0), [0, 3, 0]))


if __name__ == "__main__":
    unittest.main()
