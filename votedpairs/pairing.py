"""Preference lists and matchings.

A side of a market is a list of preference lists, one for each of its members.
A matching is a list of the persons' hosts, with NOBODY for no host.
"""

NOBODY = -1


def is_preference_list(choices, size):
    """Tell whether choices are different numbers from 0 to size - 1."""
    return all([0 <= choice < size for choice in choices]) and len(set(choices)) == len(choices)


def prefers(choices, one, other):
    """Tell whether the owner of the preference list choices would rather have one than other."""
    if one not in choices:
        return False
    return other == NOBODY or choices.index(one) < choices.index(other)


def person_of(partners, host):
    """The person who has this host, or NOBODY."""
    return partners.index(host) if host in partners else NOBODY


def exchanged(partners, size):
    """The same pairs as a list of the persons of the hosts 0 to size - 1."""
    return [person_of(partners, host) for host in range(size)]


def count_pairs(partners):
    """How many persons have a host."""
    return len(partners) - partners.count(NOBODY)


def are_acceptable(person_lists, host_lists, person, host):
    """Tell whether each of the two is in the preference list of the other."""
    # Preference lists hold real hosts alone, so the second list is there whenever it is asked for.
    return host in person_lists[person] and person in host_lists[host]


def is_matching(person_lists, host_lists, partners):
    """Tell whether partners is a matching of this market."""
    if len(partners) != len(person_lists):
        return False
    for person, host in enumerate(partners):
        if host == NOBODY:
            continue
        if partners.count(host) > 1 or not are_acceptable(person_lists, host_lists, person, host):
            return False
    return True


def find_blocking_pairs(person_lists, host_lists, partners):
    """The blocking pairs (person, host) of a matching, in ascending order."""
    found = []
    for person, hosts in enumerate(person_lists):
        for host, persons in enumerate(host_lists):
            wanted = prefers(hosts, host, partners[person])
            if wanted and prefers(persons, person, person_of(partners, host)):
                found.append((person, host))
    return found
