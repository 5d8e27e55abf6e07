"""What a player sees, told by the size of its letters: four for each thing that is seen, since 0."""

import unittest

from asking import TICK, Asking, arrive, gone, player, thing, word_arrives


class Sight(Asking):
    def sees(self, how_many, own, far, *things):
        """The things by themselves, put in this order, then a player and its first letter."""
        self.check(
            *[(put, [n + 1]) for n, put in enumerate(things)],
            (player(own, far), [0]), (TICK, [1, 1, 4 * how_many]))

    def test_its_own_thing(self):
        self.sees(1, 5, 0, thing(5, 50, 50))

    def test_its_own_thing_hidden(self):
        self.sees(1, 5, 0, thing(5, 50, 50, 0, 1))

    def test_round_its_own_hidden_thing(self):
        self.sees(2, 5, 3, thing(5, 50, 50, 0, 1), thing(6, 53, 47))

    def test_nothing_where_there_is_nothing(self):
        self.sees(0, 5, 99)

    def test_nothing_without_its_own_thing(self):
        self.sees(0, 5, 99, thing(4, 0, 0), thing(6, 5, 5))

    def test_no_other_thing_that_is_hidden(self):
        self.sees(1, 5, 99, thing(5, 50, 50), thing(6, 50, 50, 0, 1), thing(4, 51, 50, 0, 1))
        self.sees(2, 5, 99, thing(5, 50, 50), thing(6, 50, 50, 0, 1), thing(4, 51, 50))

    def test_just_as_far_off_and_one_further(self):
        for far in (0, 1, 7, 48):
            for across, down in ((1, 0), (-1, 0), (0, 1), (0, -1), (1, 1), (-1, -1), (1, -1), (-1, 1)):
                with self.subTest(far=far, across=across, down=down):
                    eye = thing(5, 50, 50)
                    self.sees(2, 5, far, eye, thing(6, 50 + far * across, 50 + far * down))
                    one_more = far + 1
                    self.sees(1, 5, far, eye, thing(6, 50 + one_more * across, 50 + one_more * down))

    def test_too_far_one_way_and_near_the_other(self):
        self.sees(1, 5, 3, thing(5, 50, 50), thing(6, 54, 50), thing(7, 50, 54), thing(8, 54, 53), thing(9, 46, 47))

    def test_across_and_down_are_not_added(self):
        self.sees(2, 5, 3, thing(5, 50, 50), thing(6, 53, 53))

    def test_from_corner_to_corner(self):
        self.sees(2, 5, 99, thing(5, 0, 0), thing(6, 99, 99))
        self.sees(1, 5, 98, thing(5, 0, 0), thing(6, 99, 0))
        self.sees(1, 5, 98, thing(5, 0, 0), thing(6, 0, 99))
        self.sees(2, 5, 98, thing(5, 99, 99), thing(6, 1, 1))

    def test_things_at_the_same_place(self):
        self.sees(3, 5, 0, thing(5, 9, 9), thing(6, 9, 9), thing(4, 9, 9), thing(3, 9, 8))

    def test_twenty_things(self):
        self.sees(20, 19, 0, *[thing(n) for n in range(20)])

    def test_each_player_by_itself(self):
        self.check(
            (thing(1, 10, 10), [1]), (thing(2, 12, 10, 0, 1), [2]), (thing(3, 14, 10), [3]),
            (player(1, 2), [0]), (player(2, 2), [1]), (player(3, 3), [2]), (player(4, 99), [3]),
            (TICK, [1, 4, 4, 12, 4, 0]))

    def test_two_players_with_one_thing(self):
        self.check(
            (thing(1, 10, 10), [1]), (thing(2, 12, 10), [2]),
            (player(1, 1), [0]), (player(1, 2), [1]), (TICK, [1, 2, 4, 8]))

    def test_own_thing_that_comes_later(self):
        self.check(
            (player(1, 5), [0]), (thing(2), [1]), (TICK, [1, 1, 0]),
            (thing(1), [2]), (TICK, [2, 1, 8]), (gone(1), [1]), (TICK, [3, 1, 0]))

    def test_own_thing_that_moves(self):
        self.check(
            (thing(1, 0, 0), [1]), (thing(2, 50, 50), [2]), (player(1, 5), [0]), (TICK, [1, 1, 4]),
            (thing(1, 45, 55), [2]), (TICK, [2, 1, 8]))


class Changes(Asking):
    """A world of own thing 1 and others 2 and 3, all seen and known since tick 1."""

    def since_known(self, *pairs):
        self.check(
            (thing(1, 10, 10, 1), [1]), (thing(2, 11, 10, 2), [2]), (thing(3, 12, 10, 3), [3]),
            (player(1, 5), [0]), (TICK, [1, 1, 12]), (arrive(0), [0, 1, 1]), (word_arrives(0), [0, 1]), *pairs)

    def test_nothing(self):
        self.since_known((TICK, [2, 1, 0]))

    def test_put_just_so_again(self):
        self.since_known((thing(2, 11, 10, 2), [3]), (TICK, [2, 1, 0]))

    def test_column_row_or_look(self):
        for changed in (thing(2, 12, 10, 2), thing(2, 11, 11, 2), thing(2, 11, 10, 3)):
            with self.subTest(changed=changed):
                self.since_known((changed, [3]), (TICK, [2, 1, 4]))

    def test_all_three_at_once_are_one_thing_put(self):
        self.since_known((thing(2, 12, 11, 9), [3]), (TICK, [2, 1, 4]))

    def test_gone(self):
        self.since_known((gone(2), [2]), (TICK, [2, 1, 1]))

    def test_gone_by_hiding(self):
        self.since_known((thing(2, 11, 10, 2, 1), [3]), (TICK, [2, 1, 1]))

    def test_gone_by_going_too_far_off(self):
        self.since_known((thing(2, 15, 15, 2), [3]), (TICK, [2, 1, 4]), (thing(2, 16, 15, 2), [3]), (TICK, [3, 1, 1]))

    def test_hiding_its_own_thing_changes_nothing(self):
        self.since_known((thing(1, 10, 10, 1, 1), [3]), (TICK, [2, 1, 0]))

    def test_all_gone_with_its_own_thing(self):
        self.since_known((gone(1), [2]), (TICK, [2, 1, 3]))

    def test_gone_and_there_again_just_so(self):
        self.since_known((gone(2), [2]), (thing(2, 11, 10, 2), [3]), (TICK, [2, 1, 0]))

    def test_gone_and_there_again_otherwise(self):
        self.since_known((gone(2), [2]), (thing(2, 11, 10, 7), [3]), (TICK, [2, 1, 4]))

    def test_gone_one_tick_and_there_the_next(self):
        self.since_known(
            (gone(2), [2]), (TICK, [2, 1, 1]), (arrive(0), [0, 2, 1]), (word_arrives(0), [0, 2]),
            (thing(2, 11, 10, 2), [3]), (TICK, [3, 1, 4]))

    def test_put_and_gone_together(self):
        self.since_known(
            (gone(2), [2]), (thing(3, 12, 10, 9), [2]), (thing(4, 12, 10), [3]), (thing(5, 99, 99), [4]),
            (TICK, [2, 1, 9]))

    def test_a_thing_never_seen_goes_unseen(self):
        self.since_known(
            (thing(4, 99, 99), [4]), (TICK, [2, 1, 0]), (gone(4), [3]), (TICK, [3, 1, 0]))


if __name__ == "__main__":
    unittest.main()
