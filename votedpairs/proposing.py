"""Deferred acceptance."""

from votedpairs.pairing import NOBODY, exchanged, person_of, prefers


def next_proposer(person_lists, partners, asked):
    """The first person without a host who has still a host to ask, or NOBODY."""
    for person, hosts in enumerate(person_lists):
        if partners[person] == NOBODY and asked[person] < len(hosts):
            return person
    return NOBODY


def propose(persons, partners, person, host):
    """Make person and host partners if the host, whose preference list is persons, agrees."""
    rival = person_of(partners, host)
    if prefers(persons, person, rival):
        if rival != NOBODY:
            partners[rival] = NOBODY
        partners[person] = host


def propose_by_persons(person_lists, host_lists):
    """The person-proposing matching."""
    partners = [NOBODY] * len(person_lists)
    asked = [0] * len(person_lists)
    person = next_proposer(person_lists, partners, asked)
    while person != NOBODY:
        host = person_lists[person][asked[person]]
        asked[person] += 1
        propose(host_lists[host], partners, person, host)
        person = next_proposer(person_lists, partners, asked)
    return partners


def propose_by_hosts(person_lists, host_lists):
    """The host-proposing matching: the sides are exchanged, and exchanged back afterwards."""
    return exchanged(propose_by_persons(host_lists, person_lists), len(person_lists))
