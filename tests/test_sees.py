"""sees: the view now, and point 3's refusal."""

import unittest

from asking import LARGEST, ON_THE_WAY, STATE, TICK, Asking, arrive, gone, player, sees, thing, word_arrives


class View(Asking):
    def view(self, seen, own, far, *things):
        """The things, put in this order, then a player and what it sees: of each number, column, row, look."""
        told = [number for each in seen for number in each]
        self.check(
            *[(put, [n + 1]) for n, put in enumerate(things)],
            (player(own, far), [0]), (sees(0), [len(seen)] + told))

    def test_number_column_row_look(self):
        self.view([(5, 10, 20, 30)], 5, 0, thing(5, 10, 20, 30))

    def test_the_least_and_the_most_of_each(self):
        self.view([(0, 0, 0, 0)], 0, 0, thing(0))
        self.view([(99, 99, 99, 99)], 99, 99, thing(99, 99, 99, 99))

    def test_by_rising_numbers_whatever_the_order(self):
        seen = [(1, 0, 0, 4), (7, 0, 1, 3), (30, 1, 0, 2), (99, 1, 1, 1)]
        put = [thing(*each) for each in seen]
        for order in ((0, 1, 2, 3), (3, 2, 1, 0), (2, 0, 3, 1)):
            for own in (1, 7, 30, 99):
                with self.subTest(order=order, own=own):
                    self.view(seen, own, 1, *[put[n] for n in order])

    def test_by_rising_numbers_behind_one_put_anew(self):
        self.check(
            (thing(3), [1]), (thing(8), [2]), (player(3, 5), [0]), (gone(3), [1]), (thing(3, 1), [2]),
            (thing(8, 2), [2]), (sees(0), [2, 3, 1, 0, 0, 8, 2, 0, 0]))

    def test_its_own_thing_hidden(self):
        self.view([(5, 9, 8, 7)], 5, 0, thing(5, 9, 8, 7, 1))
        self.view([(4, 9, 9, 0), (5, 9, 8, 7)], 5, 1, thing(5, 9, 8, 7, 1), thing(4, 9, 9))

    def test_its_own_thing_not_there(self):
        self.view([], 5, 99)
        self.view([], 5, 99, thing(4), thing(6, 1, 1))

    def test_its_own_thing_comes_and_goes(self):
        self.check(
            (player(5, 99), [0]), (sees(0), [0]), (thing(4), [1]), (sees(0), [0]),
            (thing(5, 1), [2]), (sees(0), [2, 4, 0, 0, 0, 5, 1, 0, 0]), (gone(5), [1]), (sees(0), [0]))

    def test_others_hidden(self):
        self.view([(5, 50, 50, 0)], 5, 99, thing(5, 50, 50), thing(4, 50, 50, 0, 1), thing(6, 51, 50, 0, 1))
        self.view(
            [(5, 50, 50, 0), (6, 51, 50, 0)], 5, 99, thing(4, 50, 50, 0, 1), thing(6, 51, 50), thing(5, 50, 50))

    def test_another_hides_and_shows_itself(self):
        self.check(
            (thing(1), [1]), (thing(2), [2]), (player(1, 0), [0]), (sees(0), [2, 1, 0, 0, 0, 2, 0, 0, 0]),
            (thing(2, hidden=1), [2]), (sees(0), [1, 1, 0, 0, 0]),
            (thing(2), [2]), (sees(0), [2, 1, 0, 0, 0, 2, 0, 0, 0]))

    def test_just_as_far_off_and_one_further_across_and_down(self):
        eye = (5, 50, 50, 0)
        for far in (0, 1, 9, 48):
            for across, down in ((1, 0), (-1, 0), (0, 1), (0, -1), (1, 1), (-1, -1), (1, -1), (-1, 1)):
                with self.subTest(far=far, across=across, down=down):
                    at_edge = (6, 50 + far * across, 50 + far * down, 0)
                    self.view([eye, at_edge], 5, far, thing(*eye), thing(*at_edge))
                    behind = (6, 50 + (far + 1) * across, 50 + (far + 1) * down, 0)
                    self.view([eye], 5, far, thing(*eye), thing(*behind))

    def test_near_across_is_not_enough(self):
        self.view([(5, 50, 50, 0)], 5, 3, thing(5, 50, 50), thing(6, 50, 54), thing(7, 53, 46))

    def test_near_down_is_not_enough(self):
        self.view([(5, 50, 50, 0)], 5, 3, thing(5, 50, 50), thing(6, 54, 50), thing(7, 46, 53))

    def test_from_corner_to_corner(self):
        self.view([(5, 0, 0, 0), (6, 99, 99, 0)], 5, 99, thing(5), thing(6, 99, 99))
        self.view([(5, 0, 0, 0)], 5, 98, thing(5), thing(6, 99, 99), thing(7, 99, 0), thing(8, 0, 99))

    def test_0_far_and_several_things_at_one_place(self):
        self.view(
            [(4, 9, 9, 1), (5, 9, 9, 2), (6, 9, 9, 2)], 5, 0,
            thing(6, 9, 9, 2), thing(5, 9, 9, 2), thing(4, 9, 9, 1), thing(3, 9, 8), thing(7, 8, 9),
            thing(8, 9, 9, 1, 1))

    def test_twenty_things(self):
        self.view([(n, n, n, n) for n in range(20)], 7, 12, *[thing(n, n, n, n) for n in reversed(range(20))])

    def test_each_player_by_itself(self):
        self.check(
            (thing(1, 10, 10), [1]), (thing(2, 12, 10, 0, 1), [2]), (thing(3, 14, 10), [3]),
            (player(1, 2), [0]), (player(2, 2), [1]), (player(1, 4), [2]), (player(4, 99), [3]),
            (sees(0), [1, 1, 10, 10, 0]), (sees(1), [3, 1, 10, 10, 0, 2, 12, 10, 0, 3, 14, 10, 0]),
            (sees(2), [2, 1, 10, 10, 0, 3, 14, 10, 0]), (sees(3), [0]))

    def test_it_is_the_view_now_not_one_that_was_sent(self):
        self.check(
            (thing(1), [1]), (player(1, 0), [0]), (TICK, [1, 1, 4]), (thing(1, 7), [1]), (sees(0), [1, 1, 7, 0, 0]),
            (arrive(0), [0, 1, 1]), (word_arrives(0), [0, 1]), (sees(0), [1, 1, 7, 0, 0]))


class Refusals(Asking):
    def test_no_player_at_all(self):
        for number in (0, 1, LARGEST):
            with self.subTest(number=number):
                self.check((thing(0), [1]), (sees(number), [-2]))

    def test_the_last_player_and_one_behind_it(self):
        for players in (1, 2, 3, 4):
            with self.subTest(players=players):
                self.check(
                    (thing(7), [1]), *[(player(7, n), [n]) for n in range(players)],
                    *[(sees(n), [1, 7, 0, 0, 0]) for n in range(players)],
                    (sees(players), [-2]), (sees(players + 1), [-2]), (sees(LARGEST), [-2]))

    def test_a_refused_player_is_no_player(self):
        self.check((player(100, 0), [-1]), (sees(0), [-2]), (player(0, 0), [0]), (sees(0), [0]), (sees(1), [-2]))

    def test_a_refusal_leaves_all_as_it_was(self):
        state, on_the_way = (STATE, [2, 1, 1, 0, 1, 0]), (ON_THE_WAY, [1, 0, 1, 0, 4, 0])
        self.check(
            (thing(0), [1]), (player(0, 0), [0]), (TICK, [1, 1, 4]), state, on_the_way,
            (sees(1), [-2]), (sees(LARGEST), [-2]), state, on_the_way, (sees(0), [1, 0, 0, 0, 0]))


if __name__ == "__main__":
    unittest.main()
