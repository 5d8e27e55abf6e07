"""thing, gone and player: what they answer, and point 1's refusals."""

import unittest

from asking import LARGEST, TICK, Asking, gone, player, thing


def twenty_things(first=0):
    return [(thing(first + n), [n + 1]) for n in range(20)]


class Things(Asking):
    def test_each_answers_how_many_there_are(self):
        self.check(
            (thing(5, 1, 2, 3), [1]), (thing(0), [2]), (thing(99, 99, 99, 99, 1), [3]),
            (gone(0), [2]), (gone(99), [1]), (gone(5), [0]))

    def test_one_put_anew_is_instead_of_the_old(self):
        self.check((thing(5, 1, 2, 3), [1]), (thing(5, 9, 9, 9, 1), [1]), (gone(5), [0]), (gone(5), [-2]))

    def test_one_that_went_comes_again(self):
        self.check((thing(5), [1]), (gone(5), [0]), (thing(5), [1]), (gone(5), [0]))

    def test_99_is_taken_and_100_refused_in_each_number(self):
        for place in range(1, 5):
            for value, answer in ((99, [1]), (100, [-1]), (LARGEST, [-1])):
                call = thing(1, 1, 1, 1)
                call[place] = value
                with self.subTest(place=place, value=value):
                    self.check((call, answer))

    def test_a_refused_one_is_not_there(self):
        self.check((thing(100), [-1]), (gone(100), [-2]), (thing(3, 100), [-1]), (gone(3), [-2]), (thing(4), [1]))

    def test_a_refused_one_leaves_the_old_one_as_it_was(self):
        self.check(
            (thing(5, 1, 2, 3), [1]), (player(5, 0), [0]), (TICK, [1, 1, 4]),
            ([4, 0], [0, 1, 1]), ([6, 0], [0, 1]),
            (thing(5, 100, 2, 3), [-1]), (thing(5, 1, 100, 3), [-1]), (thing(5, 1, 2, 100), [-1]),
            (TICK, [2, 1, 0]))

    def test_the_20th_is_taken_and_the_21st_refused(self):
        self.check(*twenty_things(), (thing(20), [-5]), (thing(99), [-5]), (gone(20), [-2]), (gone(0), [19]))

    def test_one_of_the_20_may_be_put_anew(self):
        self.check(*twenty_things(), (thing(0, 1), [20]), (thing(19, 1), [20]), (thing(20), [-5]))

    def test_room_comes_back_when_one_goes(self):
        self.check(*twenty_things(), (gone(7), [19]), (thing(20), [20]), (thing(7), [-5]))

    def test_above_99_is_told_before_20_others(self):
        self.check(
            *twenty_things(), (thing(100), [-1]), (thing(20, 100), [-1]), (thing(20, 0, 100), [-1]),
            (thing(20, 0, 0, 100), [-1]), (thing(LARGEST, LARGEST, LARGEST, LARGEST, 1), [-1]),
            (thing(20), [-5]))

    def test_hidden_ones_count_too(self):
        self.check(*[(thing(n, hidden=1), [n + 1]) for n in range(20)], (thing(20, hidden=1), [-5]))


class Gone(Asking):
    def test_refused_where_there_is_no_such_thing(self):
        for number in (0, 4, 6, 99, 100, LARGEST):
            with self.subTest(number=number):
                self.check((gone(number), [-2]), (thing(5), [1]), (gone(number), [-2]), (gone(5), [0]))

    def test_refused_the_second_time(self):
        self.check((thing(5), [1]), (thing(6), [2]), (gone(5), [1]), (gone(5), [-2]), (gone(6), [0]))


class Players(Asking):
    def test_numbered_from_0_on(self):
        self.check((player(0, 0), [0]), (player(1, 5), [1]), (player(99, 99), [2]), (player(1, 5), [3]))

    def test_99_is_taken_and_100_refused_in_each_number(self):
        for above in (100, LARGEST):
            with self.subTest(above=above):
                self.check(
                    (player(99, 0), [0]), (player(above, 0), [-1]),
                    (player(0, 99), [1]), (player(0, above), [-1]),
                    (player(above, above), [-1]), (player(0, 0), [2]))

    def test_the_4th_is_taken_and_the_5th_refused(self):
        self.check(*[(player(n, n), [n]) for n in range(4)], (player(4, 4), [-5]), (player(0, 0), [-5]))

    def test_above_99_is_told_before_there_are_4(self):
        self.check(
            *[(player(n, n), [n]) for n in range(4)],
            (player(100, 0), [-1]), (player(0, 100), [-1]), (player(LARGEST, LARGEST), [-1]), (player(0, 0), [-5]))

    def test_a_refused_one_is_sent_no_letter(self):
        self.check((player(100, 0), [-1]), (TICK, [1, 0]), (player(0, 0), [0]), (TICK, [2, 1, 0]))
        self.check(*[(player(0, 0), [n]) for n in range(4)], (player(0, 0), [-5]), (TICK, [1, 4, 0, 0, 0, 0]))


if __name__ == "__main__":
    unittest.main()
