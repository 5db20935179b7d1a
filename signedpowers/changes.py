"""The calls that change a house. Each tests its refusals in the order in which the document tells them."""

from signedpowers.limits import FEWEST_SIGNERS, FULL, LAST_DAY, MOST_OFFICES, MOST_PERSONS, MOST_ROWS, MOST_SIGNERS
from signedpowers.limits import TAKEN, UNKNOWN, WRONG
from signedpowers.refusals import no_office, no_person, one_is_no_person, wrong_matter
from signedpowers.spans import share_a_day, wrong_span


def begin_house(house, many):
    if many > MOST_PERSONS:
        return [WRONG]
    house.begin_anew(many)
    return [0]


def add_office(house, deputies):
    if one_is_no_person(house, deputies):
        return [UNKNOWN]
    if len(set(deputies)) < len(deputies):
        return [WRONG]
    if len(house.offices) >= MOST_OFFICES:
        return [FULL]
    house.offices.append(list(deputies))
    return [len(house.offices) - 1]


def add_term(house, term):
    if no_office(house, term.office) or no_person(house, term.person):
        return [UNKNOWN]
    if wrong_span(term):
        return [WRONG]
    if held_meanwhile(house, term):
        return [TAKEN]
    if len(house.terms) >= MOST_ROWS:
        return [FULL]
    house.terms.append(term)
    return [0]


def add_absence(house, absence):
    if no_person(house, absence.person):
        return [UNKNOWN]
    if wrong_span(absence):
        return [WRONG]
    if len(house.absences) >= MOST_ROWS:
        return [FULL]
    house.absences.append(absence)
    return [0]


def add_power(house, power):
    if no_office(house, power.office):
        return [UNKNOWN]
    if wrong_matter(power) or wrong_span(power):
        return [WRONG]
    if len(house.powers) >= MOST_ROWS:
        return [FULL]
    house.powers.append(power)
    return [len(house.powers) - 1]


def add_delegation(house, delegation):
    if no_office(house, delegation.office) or no_office(house, delegation.receiver):
        return [UNKNOWN]
    if wrong_matter(delegation) or wrong_span(delegation) or delegation.office == delegation.receiver:
        return [WRONG]
    if len(house.delegations) >= MOST_ROWS:
        return [FULL]
    house.delegations.append(delegation)
    return [len(house.delegations) - 1]


def add_sign_rule(house, rule):
    if wrong_matter(rule) or rule.many < FEWEST_SIGNERS or rule.many > MOST_SIGNERS:
        return [WRONG]
    if told_from_as_much(house, rule):
        return [TAKEN]
    if len(house.sign_rules) >= MOST_ROWS:
        return [FULL]
    house.sign_rules.append(rule)
    return [0]


def end_delegation(house, number, day):
    if number >= len(house.delegations):
        return [UNKNOWN]
    delegation = house.delegations[number]
    # A day of 0 is no "without end" here: it is never behind the first day.
    if day > LAST_DAY or day <= delegation.first:
        return [WRONG]
    delegation.end = day
    return [0]


def held_meanwhile(house, term):
    return any([other.office == term.office and share_a_day(other, term) for other in house.terms])


def told_from_as_much(house, rule):
    return any([other.kind == rule.kind and other.amount >= rule.amount for other in house.sign_rules])
