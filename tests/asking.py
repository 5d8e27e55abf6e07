"""Calls by name, and a test case that compares all that is answered."""

import unittest

from losingnet.views import answers

LARGEST = 4294967295
TICK = [3]
ON_THE_WAY = [10]
STATE = [12]


def thing(number, column=0, row=0, look=0, hidden=0):
    return [0, number, column, row, look, hidden]


def gone(number):
    return [1, number]


def player(own, far):
    return [2, own, far]


def arrive(letter):
    return [4, letter]


def lose(letter):
    return [5, letter]


def word_arrives(word):
    return [6, word]


def word_lost(word):
    return [7, word]


def sees(number):
    return [8, number]


def has(number):
    return [9, number]


def would(number):
    return [11, number]


def joined(calls):
    return [number for call in calls for number in call]


def counted(answered):
    return [number for answer in answered for number in [len(answer)] + answer]


class Asking(unittest.TestCase):
    def check(self, *pairs):
        """Each pair is a call and the list of numbers that it is to answer."""
        calls = joined([call for call, _ in pairs])
        handed_in = list(calls)
        got = answers(handed_in)
        self.assertEqual(got, counted([answer for _, answer in pairs]))
        self.assertIs(type(got), list)
        self.assertEqual([number for number in got if type(number) is not int], [])
        self.assertEqual(handed_in, calls)
        self.assertEqual(answers(handed_in), got)
