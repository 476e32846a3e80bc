"""Namings of the places: which of them lead from one kind to another one, or to itself."""

from arrowtrios.kinds import least
from arrowtrios.standings import NAMINGS, check_standing, renamed


def naming_between(one, other):
    """Return the first naming from the kind of one to the kind of the other, None if the kinds are not alike."""
    check_standing(one)
    check_standing(other)
    namings = namings_between(one, other)
    return namings[0] if namings else None


def own_namings(standing):
    """Return the ascending tuple of all namings that lead from the kind to itself."""
    check_standing(standing)
    return tuple(namings_between(standing, standing))


def namings_between(one, other):
    """Return the ascending list of all namings that lead from the kind of one to the kind of the other.

    A turn at a place and then a naming do the same as the naming and then a turn at the
    place as it is called then. So a naming leads all standings of a kind to those of one
    other kind, and this one standing decides.
    """
    form = least(other)
    return [naming for naming in NAMINGS if least(renamed(one, naming)) == form]
