"""Limits: how many of a kind there may be, and which numbers they have."""

from countonce.errors import TooMany, UnknownNumber


def need_room(many, limit):
    """Raise TooMany(limit) if there are already so many."""
    if many >= limit:
        raise TooMany(limit)


def need_number(number, many):
    """Raise UnknownNumber(number) if it is none of the numbers of so many, from 0 on."""
    if number < 0 or number >= many:
        raise UnknownNumber(number)
