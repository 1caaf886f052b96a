"""Companies: each half of one is a state, with a lamp for each of them but the host."""

from everyhalf.errors import BadCompany, Misfit
from everyhalf.states import check_state, is_high

LEAST_NAMES = 4
MOST_NAMES = 402
MOST_LETTERS = 12
LETTERS = "abcdefghijklmnopqrstuvwxyz"


class Company:
    """Some people, told by their names, one of whom is the host."""

    def __init__(self, names, host):
        if not _are_names(names):
            raise BadCompany("names")
        if not isinstance(host, str) or host not in names:
            raise BadCompany("host")
        self.names = tuple(names)
        self.host = host
        self.others = tuple([name for name in names if name != host])
        self.pairs = len(names) // 2 - 1

    def __eq__(self, other):
        return type(self) is type(other) and self.names == other.names and self.host == other.host


def _are_names(value):
    """Whether any value is a list of the names of a company."""
    if not isinstance(value, (list, tuple)) or not LEAST_NAMES <= len(value) <= MOST_NAMES:
        return False
    return len(value) % 2 == 0 and all([_is_name(name) for name in value]) and len(set(value)) == len(value)


def _is_name(value):
    if not isinstance(value, str) or not 1 <= len(value) <= MOST_LETTERS:
        return False
    return all([sign in LETTERS for sign in value])


def state_for(company, inside):
    """The state of this half."""
    check_company(company, "company")
    if not _is_half(company, inside):
        raise BadCompany("inside")
    return "".join(["1" if name in inside else "0" for name in company.others])


def inside_for(company, state):
    """The half that the state is, in the order of the names."""
    check_company(company, "company")
    check_state(state, "state")
    if len(state) != len(company.others):
        raise Misfit("state")
    inside = [name for name, sign in zip(company.others, state) if sign == "1"]
    if not is_high(state):
        inside.append(company.host)
    return tuple([name for name in company.names if name in inside])


def check_company(value, part):
    """Raises BadCompany(part) unless the value is a Company."""
    if not isinstance(value, Company):
        raise BadCompany(part)


def _is_half(company, value):
    """Whether any value is a list of half of the company's names, unlike ones."""
    if not isinstance(value, (list, tuple)) or len(value) != company.pairs + 1:
        return False
    names = all([isinstance(name, str) and name in company.names for name in value])
    return names and len(set(value)) == len(value)
