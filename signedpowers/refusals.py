"""What several calls refuse alike."""

from signedpowers.limits import GREATEST_AMOUNT, GREATEST_KIND


def no_person(house, person):
    return person >= house.persons


def one_is_no_person(house, persons):
    return any([no_person(house, person) for person in persons])


def no_office(house, office):
    return office >= len(house.offices)


def wrong_kind(kind):
    return kind > GREATEST_KIND


def wrong_matter(row):
    return wrong_kind(row.kind) or row.amount > GREATEST_AMOUNT
