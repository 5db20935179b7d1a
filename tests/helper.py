"""The calls as lists of numbers, and ways to look at what was answered and kept."""

import unittest

from signedpowers.house import answer_call, answers
from signedpowers.reading import read_calls
from signedpowers.records import House

GREATEST = 4294967295


def begins(many):
    return [0, many]


def office(*deputies):
    return [1, len(deputies), *deputies]


def term(office_number, person, first, end):
    return [2, office_number, person, first, end]


def away(person, first, end):
    return [3, person, first, end]


def power(office_number, kind, amount, first, end):
    return [4, office_number, kind, amount, first, end]


def hand(office_number, receiver, kind, amount, further, first, end):
    return [5, office_number, receiver, kind, amount, further, first, end]


def signs(kind, amount, many):
    return [6, kind, amount, many]


def ends(delegation, day):
    return [7, delegation, day]


def acts(office_number, day):
    return [8, office_number, day]


def may(person, kind, amount, day):
    return [9, person, kind, amount, day]


def who(kind, amount, day):
    return [10, kind, amount, day]


def valid(kind, amount, day, *persons):
    return [11, kind, amount, day, len(persons), *persons]


def most(person, kind, day):
    return [12, person, kind, day]


def turns(person, kind, amount, day):
    return [13, person, kind, amount, day]


def stops(kind, amount, day):
    return [14, kind, amount, day]


def one_list(calls):
    return [number for call in calls for number in call]


def told(*calls):
    """The answers call by call, taken apart by the counts ahead of them."""
    given = answers(one_list(calls))
    parts = []
    place = 0
    while place < len(given):
        behind = place + 1 + given[place]
        parts.append(given[place + 1:behind])
        place = behind
    return parts


def told_last(*calls):
    return told(*calls)[-1]


def kept(house):
    """All that a house keeps, as plain values that later calls don't change."""
    rows = {}
    for name, value in vars(house).items():
        if isinstance(value, list):
            rows[name] = [list(row) if isinstance(row, list) else dict(vars(row)) for row in value]
        else:
            rows[name] = value
    return rows


def house_after(*calls):
    house = House()
    for call in read_calls(one_list(calls)):
        answer_call(house, call)
    return house


class CallTest(unittest.TestCase):
    def assert_answer(self, before, call, *answer):
        self.assertEqual(told_last(*before, call), list(answer), call)

    def assert_refused(self, before, call, refusal):
        """It answers the refusal's number alone, and the house is as it was."""
        self.assert_asked(before, call, refusal)

    def assert_asked(self, before, call, *answer):
        """It answers this, and the house is as it was."""
        self.assert_answer(before, call, *answer)
        house = house_after(*before)
        earlier = kept(house)
        answer_call(house, read_calls(call)[0])
        self.assertEqual(kept(house), earlier, call)
