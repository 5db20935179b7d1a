"""The calls that ask about a house and change nothing. Each tests its refusals in the order of the document."""

from signedpowers.acting import holder_and_deputies, persons_there, who_acts
from signedpowers.chains import chains_to_decide
from signedpowers.deciding import fewest_to_stop, must_sign, persons_who_may
from signedpowers.limits import NONE_SUCH, UNKNOWN, WRONG
from signedpowers.records import Matter
from signedpowers.refusals import no_office, no_person, one_is_no_person, wrong_kind, wrong_matter


def tell_acting(house, office, day):
    if no_office(house, office):
        return [UNKNOWN]
    person = who_acts(holder_and_deputies(house, office, day), persons_there(house, day))
    if person is None:
        return [0]
    return [1, person]


def tell_whether(house, person, matter):
    if no_person(house, person):
        return [UNKNOWN]
    if wrong_matter(matter):
        return [WRONG]
    there = persons_there(house, matter.day)
    for office, chain in chains_to_decide(house, matter).items():
        if who_acts(holder_and_deputies(house, office, matter.day), there) == person:
            return [1, office] + chain
    return [0]


def tell_persons(house, matter):
    if wrong_matter(matter):
        return [WRONG]
    persons = persons_who_may(house, matter)
    return [len(persons)] + persons


def tell_decided(house, matter, signers):
    if one_is_no_person(house, signers):
        return [UNKNOWN]
    if wrong_matter(matter):
        return [WRONG]
    needed = must_sign(house, matter)
    counted = len([person for person in persons_who_may(house, matter) if person in signers])
    return [1 if counted >= needed else 0, needed, counted]


def tell_most(house, person, kind, day):
    if no_person(house, person):
        return [UNKNOWN]
    if wrong_kind(kind):
        return [WRONG]
    # The greatest amount is the least limit on some way from an own power, so only limits need be tried.
    amounts = [row.amount for row in house.powers + house.delegations if row.kind == kind]
    within = [amount for amount in amounts if person in persons_who_may(house, Matter(kind, amount, day))]
    if len(within) == 0:
        return [NONE_SUCH]
    return [max(within)]


def tell_turn(house, person, matter):
    if no_person(house, person):
        return [UNKNOWN]
    if wrong_matter(matter):
        return [WRONG]
    now = person in persons_who_may(house, matter)
    for day in days_of_change(house, matter.day):
        then = Matter(matter.kind, matter.amount, day)
        if (person in persons_who_may(house, then)) != now:
            return [day]
    return [NONE_SUCH]


def days_of_change(house, day):
    """The days behind this one, rising, on which something begins or ends; on all others it is as the day before."""
    rows = house.terms + house.absences + house.powers + house.delegations
    days = [row.first for row in rows] + [row.end for row in rows]
    # No end at all is written 0, which is behind no day.
    return sorted(set([other for other in days if other > day]))


def tell_stop(house, matter):
    if wrong_matter(matter):
        return [WRONG]
    group = fewest_to_stop(house, matter)
    return [len(group)] + group
