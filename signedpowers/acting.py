"""Who acts for an office on a day."""

from signedpowers.spans import in_force


def is_away(house, person, day):
    return any([row.person == person and in_force(row, day) for row in house.absences])


def persons_there(house, day):
    """All who are not away, rising."""
    return [person for person in range(house.persons) if not is_away(house, person, day)]


def holder_and_deputies(house, office, day):
    """The holder, if there is one, then the deputies: the first of them who is there acts."""
    holders = [row.person for row in house.terms if row.office == office and in_force(row, day)]
    return holders + house.offices[office]


def who_acts(order, there):
    """None, if nobody does."""
    for person in order:
        if person in there:
            return person
    return None
