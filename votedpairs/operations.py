"""The calls: each gives back the list of the numbers that it answers.

A refusal is the list of its error code alone.
"""

from votedpairs.pairing import NOBODY, count_pairs, find_blocking_pairs, is_matching, is_preference_list
from votedpairs.proposing import propose_by_hosts, propose_by_persons
from votedpairs.state import Market

NO_INSTANCE = -11
NOT_THERE = -2
OUT_OF_RANGE = -22

CREATE = 0
LARGEST_SIDE = 4


def create(session, n, m):
    """Begin a new market, unless a number is out of range."""
    if not 1 <= n <= LARGEST_SIDE or not 1 <= m <= LARGEST_SIDE:
        return [OUT_OF_RANGE]
    session.market = Market(n, m)
    return [0]


def replace_preferences(market, side, member, choices, size):
    """Replace the preference list of one member of a side; the other side has this size."""
    if not 0 <= member < len(side):
        return [NOT_THERE]
    if not is_preference_list(choices, size):
        return [OUT_OF_RANGE]
    side[member] = list(choices)
    market.partners = [NOBODY] * len(market.person_lists)
    return [len(choices)]


def set_person_preferences(market, i, hosts):
    """Replace the preference list of person i."""
    return replace_preferences(market, market.person_lists, i, hosts, len(market.host_lists))


def set_host_preferences(market, h, persons):
    """Replace the preference list of host h."""
    return replace_preferences(market, market.host_lists, h, persons, len(market.person_lists))


def set_matching(market, a):
    """Replace the current matching."""
    if not is_matching(market.person_lists, market.host_lists, a):
        return [OUT_OF_RANGE]
    market.partners = list(a)
    return [count_pairs(a)]


def matching(market):
    """Tell the number of pairs and the current matching."""
    return [count_pairs(market.partners)] + market.partners


def person_proposing(market):
    """Replace the current matching by the person-proposing one."""
    market.partners = propose_by_persons(market.person_lists, market.host_lists)
    return matching(market)


def host_proposing(market):
    """Replace the current matching by the host-proposing one."""
    market.partners = propose_by_hosts(market.person_lists, market.host_lists)
    return matching(market)


def current_blocking_pairs(market):
    """The blocking pairs of the current matching."""
    return find_blocking_pairs(market.person_lists, market.host_lists, market.partners)


def is_stable(market):
    """Tell 1 if the current matching is stable, otherwise 0."""
    return [0 if current_blocking_pairs(market) else 1]


def blocking_pairs(market):
    """Tell how many blocking pairs there are, and these."""
    pairs = current_blocking_pairs(market)
    told = [len(pairs)]
    for person, host in pairs:
        told.append(person)
        told.append(host)
    return told


WITH_NUMBER_AND_ROW = {1: set_person_preferences, 2: set_host_preferences}
WITH_ROW = {3: set_matching}
PLAIN = {4: matching, 5: person_proposing, 6: host_proposing, 7: is_stable, 8: blocking_pairs}


def carry_out(session, number, numbers, row):
    """Carry out the call that has this number, with its whole numbers and its row."""
    if number == CREATE:
        return create(session, numbers[0], numbers[1])
    if session.market is None:
        return [NO_INSTANCE]
    if number in WITH_NUMBER_AND_ROW:
        return WITH_NUMBER_AND_ROW[number](session.market, numbers[0], row)
    if number in WITH_ROW:
        return WITH_ROW[number](session.market, row)
    return PLAIN[number](session.market)
