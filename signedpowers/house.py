"""The calls on one house, and their answers."""

from signedpowers.changes import add_absence, add_delegation, add_office, add_power, add_sign_rule, add_term
from signedpowers.changes import begin_house, end_delegation
from signedpowers.reading import AWAY, BEGINS, HAND, OFFICE, POWER, SIGNS, TERM, read_calls
from signedpowers.records import Absence, Delegation, House, Power, SignRule, Term


def answers(calls):
    house = House()
    answered = []
    for call in read_calls(calls):
        answer = answer_call(house, call)
        answered.append(len(answer))
        answered.extend(answer)
    return answered


def answer_call(house, call):
    which = call.which
    told = call.numbers
    if which == BEGINS:
        return begin_house(house, told[0])
    if which == OFFICE:
        return add_office(house, call.row)
    if which == TERM:
        return add_term(house, Term(told[0], told[1], told[2], told[3]))
    if which == AWAY:
        return add_absence(house, Absence(told[0], told[1], told[2]))
    if which == POWER:
        return add_power(house, Power(told[0], told[1], told[2], told[3], told[4]))
    if which == HAND:
        return add_delegation(house, Delegation(told[0], told[1], told[2], told[3], told[4], told[5], told[6]))
    if which == SIGNS:
        return add_sign_rule(house, SignRule(told[0], told[1], told[2]))
    # Only ends is left: read_calls stops at any number that is no call.
    return end_delegation(house, told[0], told[1])
