"""Which persons may decide a matter, how many of them must sign, and how few absences stop it."""

from signedpowers.acting import holder_and_deputies, persons_there, who_acts
from signedpowers.chains import chains_to_decide
from signedpowers.limits import SIGNERS_UNLESS_TOLD


def orders_of_deciding_offices(house, matter):
    return [holder_and_deputies(house, office, matter.day) for office in chains_to_decide(house, matter)]


def persons_acting(orders, there):
    """Each once, rising, for however many offices a person acts."""
    found = [who_acts(order, there) for order in orders]
    return [person for person in there if person in found]


def persons_who_may(house, matter):
    return persons_acting(orders_of_deciding_offices(house, matter), persons_there(house, matter.day))


def must_sign(house, matter):
    reached = [row for row in house.sign_rules if row.kind == matter.kind and row.amount <= matter.amount]
    if len(reached) == 0:
        return SIGNERS_UNLESS_TOLD
    return max(reached, key=lambda row: row.amount).many


def fewest_to_stop(house, matter):
    there = persons_there(house, matter.day)
    orders = orders_of_deciding_offices(house, matter)
    needed = must_sign(house, matter)
    # Every group is tried: with one more away a deputy may step in, and more may decide than before.
    stopping = [group for group in groups_of(there) if len(persons_acting(orders, without(there, group))) < needed]
    # There is always one: with all away nobody decides, and at least one must sign.
    return stopping[0]


def groups_of(persons):
    """Every choice of some of these persons: the fewest first, of as many the first in order."""
    groups = [[]]
    for person in persons:
        groups = groups + [group + [person] for group in groups]
    return sorted(sorted(groups), key=len)


def without(persons, group):
    return [person for person in persons if person not in group]
