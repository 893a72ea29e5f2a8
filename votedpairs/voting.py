"""Votes between matchings.

Matchings are compared by their standings. A standing is a list of whole numbers, one for each person and then one
for each host: the place of the partner in the preference list. The smaller place is the better one.
"""

from votedpairs.pairing import NOBODY, exchanged


def place_of(choices, partner):
    """The place of the partner in the preference list choices; nobody comes behind all."""
    return len(choices) if partner == NOBODY else choices.index(partner)


def find_standing(person_lists, host_lists, partners):
    """The standing of a matching."""
    everybody = partners + exchanged(partners, len(host_lists))
    return [place_of(choices, partner) for choices, partner in zip(person_lists + host_lists, everybody)]


def votes(standing, other):
    """How many persons and hosts prefer the matching of the one standing to that of the other."""
    return len([1 for mine, theirs in zip(standing, other) if mine < theirs])


def is_unbeaten(standing, rivals):
    """Tell whether none of these standings wins a majority against the one."""
    for rival in rivals:
        if votes(rival, standing) > votes(standing, rival):
            return False
    return True
