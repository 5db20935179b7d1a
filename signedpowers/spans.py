"""Spans of days: a row is in force from its first day on, up to (not with) its end."""

from signedpowers.limits import LAST_DAY, WITHOUT_END


def wrong_span(row):
    if row.first > LAST_DAY or row.end > LAST_DAY:
        return True
    return ends_by(row, row.first)


def ends_by(row, day):
    # An end of 0 is no day, so it must not be compared with one.
    return row.end != WITHOUT_END and row.end <= day


def in_force(row, day):
    return row.first <= day and not ends_by(row, day)


def share_a_day(row, other):
    return not ends_by(row, other.first) and not ends_by(other, row.first)
