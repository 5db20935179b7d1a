"""The calls on one house, and their answers."""

from signedpowers.changes import add_absence, add_delegation, add_office, add_power, add_sign_rule, add_term
from signedpowers.changes import begin_house, end_delegation
from signedpowers.questions import tell_acting, tell_decided, tell_most, tell_persons, tell_stop, tell_turn
from signedpowers.questions import tell_whether
from signedpowers.reading import ACTS, AWAY, BEGINS, ENDS, HAND, MAY, MOST, OFFICE, POWER, SIGNS, TERM, TURNS, VALID
from signedpowers.reading import WHO, read_calls
from signedpowers.records import Absence, Delegation, House, Matter, Power, SignRule, Term


def answers(calls):
    house = House()
    answered = []
    for call in read_calls(calls):
        answer = answer_call(house, call)
        answered.append(len(answer))
        answered.extend(answer)
    return answered


def answer_call(house, call):
    if call.which <= ENDS:
        return answer_change(house, call)
    return answer_question(house, call)


def answer_change(house, call):
    which = call.which
    told = call.numbers
    if which == BEGINS:
        return begin_house(house, told[0])
    if which == OFFICE:
        return add_office(house, call.row)
    if which == TERM:
        return add_term(house, Term(told[0], told[1], told[2], told[3]))
    if which == AWAY:
        return add_absence(house, Absence(told[0], told[1], told[2]))
    if which == POWER:
        return add_power(house, Power(told[0], told[1], told[2], told[3], told[4]))
    if which == HAND:
        return add_delegation(house, Delegation(told[0], told[1], told[2], told[3], told[4], told[5], told[6]))
    if which == SIGNS:
        return add_sign_rule(house, SignRule(told[0], told[1], told[2]))
    # Only ends is left.
    return end_delegation(house, told[0], told[1])


def answer_question(house, call):
    which = call.which
    told = call.numbers
    if which == ACTS:
        return tell_acting(house, told[0], told[1])
    if which == MAY:
        return tell_whether(house, told[0], Matter(told[1], told[2], told[3]))
    if which == WHO:
        return tell_persons(house, Matter(told[0], told[1], told[2]))
    if which == VALID:
        return tell_decided(house, Matter(told[0], told[1], told[2]), call.row)
    if which == MOST:
        return tell_most(house, told[0], told[1], told[2])
    if which == TURNS:
        return tell_turn(house, told[0], Matter(told[1], told[2], told[3]))
    # Only stops is left: read_calls fails at any number that is no call.
    return tell_stop(house, Matter(told[0], told[1], told[2]))
