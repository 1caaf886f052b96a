"""Evenings: the host changes places with one other, as the round leads from half to half."""

from everyhalf.companies import check_company, inside_for, state_for
from everyhalf.rounds import next_state, state_before, stretch
from everyhalf.states import how_many_states, is_high, lamps_apart


def evening(company, inside):
    """Who goes in, and who goes out, on the evening behind this half."""
    state = state_for(company, inside)
    return _exchange(company, state, next_state(state))


def inside_next(company, inside):
    """The half behind that evening."""
    return inside_for(company, next_state(state_for(company, inside)))


def night_before(company, inside):
    """Who went in, and who went out, on the evening that led to this half."""
    state = state_for(company, inside)
    return _exchange(company, state_before(state), state)


def inside_before(company, inside):
    """The half ahead of that evening."""
    return inside_for(company, state_before(state_for(company, inside)))


def plan(company, inside, many):
    """Who goes in, and who goes out, on so many evenings, one behind another."""
    state = state_for(company, inside)
    # As many evenings can be told as states, and what else is passed is refused with the same error.
    states = stretch(state, many)
    return tuple([_exchange(company, one, other) for one, other in zip((state, *states), states)])


def how_many_evenings(company):
    """Behind how many evenings all begins anew."""
    check_company(company, "company")
    return how_many_states(company.pairs)


def _exchange(company, state, behind):
    """Who goes in, and who goes out, between the half of one state and that of the next one."""
    other = company.others[lamps_apart(state, behind)[0]]
    return (other, company.host) if is_high(behind) else (company.host, other)
