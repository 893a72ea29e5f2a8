"""The matchings of a market, all of them or those of a kind, in their order."""

from votedpairs.pairing import NOBODY, are_acceptable, find_blocking_pairs
from votedpairs.voting import find_standing, is_unbeaten


def free_hosts(person_lists, host_lists, person, begun):
    """The hosts whom the person can have when the persons ahead have those in begun, in ascending order."""
    found = []
    for host in range(len(host_lists)):
        if host not in begun and are_acceptable(person_lists, host_lists, person, host):
            found.append(host)
    return found


def list_matchings(person_lists, host_lists):
    """Every matching, in ascending order."""
    found = [[]]
    for person in range(len(person_lists)):
        longer = []
        for begun in found:
            # NOBODY is below every host, but its matchings come behind theirs.
            for host in free_hosts(person_lists, host_lists, person, begun) + [NOBODY]:
                longer.append(begun + [host])
        found = longer
    return found


def list_stable(person_lists, host_lists):
    """The stable matchings, in ascending order."""
    every = list_matchings(person_lists, host_lists)
    return [partners for partners in every if not find_blocking_pairs(person_lists, host_lists, partners)]


def list_standings(person_lists, host_lists):
    """The standing of every matching, in the order of the matchings."""
    every = list_matchings(person_lists, host_lists)
    return [find_standing(person_lists, host_lists, partners) for partners in every]


def list_popular(person_lists, host_lists):
    """The popular matchings, in ascending order."""
    every = list_matchings(person_lists, host_lists)
    standings = list_standings(person_lists, host_lists)
    return [partners for partners, standing in zip(every, standings) if is_unbeaten(standing, standings)]
