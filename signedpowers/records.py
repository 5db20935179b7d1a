"""What is told of a house, row by row, and the house that keeps the rows."""


class Term:
    """An office is held by a person."""

    def __init__(self, office, person, first, end):
        self.office = office
        self.person = person
        self.first = first
        self.end = end


class Absence:
    """A person is away."""

    def __init__(self, person, first, end):
        self.person = person
        self.first = first
        self.end = end


class Power:
    """An office's own power."""

    def __init__(self, office, kind, amount, first, end):
        self.office = office
        self.kind = kind
        self.amount = amount
        self.first = first
        self.end = end


class Delegation:
    """What an office hands to another one, the receiver."""

    def __init__(self, office, receiver, kind, amount, further, first, end):
        self.office = office
        self.receiver = receiver
        self.kind = kind
        self.amount = amount
        self.further = further
        self.first = first
        self.end = end


class SignRule:
    """From an amount on so many must sign."""

    def __init__(self, kind, amount, many):
        self.kind = kind
        self.amount = amount
        self.many = many


class Matter:
    """What is to be decided, on a day."""

    def __init__(self, kind, amount, day):
        self.kind = kind
        self.amount = amount
        self.day = day


class House:
    """All that has been told; a row's place in its list is its number."""

    def __init__(self):
        self.begin_anew(0)

    def begin_anew(self, persons):
        self.persons = persons
        self.offices = []
        self.terms = []
        self.absences = []
        self.powers = []
        self.delegations = []
        self.sign_rules = []
