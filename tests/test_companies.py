"""Companies: against lamps that the tests set themselves."""

import random
import unittest

from everyhalf.companies import Company, inside_for, state_for
from everyhalf.errors import BadCompany, BadState, Misfit
from tests.helper import (
    HUGE, NO_INTEGERS, NO_STATES, NO_STRINGS, Odd, great_names, in_short_time, raised, told_companies, told_halves,
    told_lamps,
)

FOUR = ["ann", "bob", "cy", "dot"]
NO_NAMES = [
    *NO_STRINGS, "", "Ann", "aNN", "ann ", " ann", "an n", "ann\n", "ann1", "1", "_", "an-n", "a" * 13, "a" * 10000,
    "\u00e4nn", "\u00df", "\u0430nn", "\uff41nn", "\u017ft", "\u00aa", ["ann"], ("ann",), "a\0",
]


class Companies(unittest.TestCase):
    def check(self, company, names, host):
        self.assertEqual(company.names, tuple(names))
        self.assertEqual(company.host, host)
        self.assertEqual(company.others, tuple(name for name in names if name != host))
        self.assertEqual(company.pairs, (len(names) - 2) // 2)
        self.assertEqual([type(each) for each in (company.names, company.others, company.pairs)], [tuple, tuple, int])

    def test_lists_and_tuples(self):
        for names, host in told_companies():
            for given in (list(names), tuple(names)):
                self.check(Company(given, host), names, host)
                self.check(Company(host=host, names=given), names, host)

    def test_bounds(self):
        for many in (4, 6, 100, 400, 402):
            names = great_names(many)
            for host in (names[0], names[-1], names[many // 2]):
                self.check(in_short_time(Company, names, host), names, host)
        for name in ["a", "z", "abcdefghijkl", "zzzzzzzzzzzz", "mnopqrstuvw", "xyz"]:
            self.check(Company(["bob", name, "cy", "dot"], name), ["bob", name, "cy", "dot"], name)

    def test_changed_behind_the_call(self):
        names = list(FOUR)
        company = Company(names, "bob")
        names[0] = "eve"
        names.append("hal")
        self.check(company, FOUR, "bob")
        self.assertEqual(state_for(company, ["ann", "cy"]), "110")

    def test_what_is_passed_is_not_changed(self):
        names, inside = list(FOUR), ["dot", "ann"]
        company = Company(names, "bob")
        state_for(company, inside)
        self.assertEqual((names, inside), (FOUR, ["dot", "ann"]))

    def test_equal(self):
        told = [*told_companies(), (["ann", "bob", "cy", "dot"], "ann"), (["bob", "ann", "cy", "dot"], "ann")]
        made = [Company(names, host) for names, host in told]
        for one, (names, host) in zip(made, told):
            self.assertIs(one == Company(tuple(names), host), True)
            self.assertIs(one != Company(tuple(names), host), False)
            for other in made:
                self.assertIs(one == other, one is other)
                self.assertIs(one != other, one is not other)
            for other in [None, names, tuple(names), (tuple(names), host), host, 4, Company, Odd()]:
                self.assertIs(one == other, False)

    def test_methods_stand_in_the_class_itself(self):
        for name in ("__init__", "__eq__"):
            self.assertIn(name, vars(Company))


class NoCompany(unittest.TestCase):
    def test_what_is_no_list(self):
        for names in [*NO_STRINGS, *NO_INTEGERS, "anna", "abcd", {"ann": 1, "bob": 2, "cy": 3, "dot": 4}, set(FOUR)]:
            raised(BadCompany("names"), Company, names, "ann")
            raised(BadCompany("names"), Company, host=None, names=names)
        raised(BadCompany("names"), Company, iter(FOUR), "ann")

    def test_how_many(self):
        names = great_names(420)
        for many in (0, 1, 2, 3, 5, 7, 9, 401, 403, 404, 420):
            raised(BadCompany("names"), Company, names[:many], names[0])
            raised(BadCompany("names"), Company, tuple(names[:many]), names[0])
        raised(BadCompany("names"), in_short_time, Company, ["ann"] * 1000000, "ann")

    def test_what_is_no_name(self):
        for value in NO_NAMES:
            for at in range(4):
                names = [*FOUR[:at], value, *FOUR[at + 1:]]
                raised(BadCompany("names"), Company, names, FOUR[at - 1])
                raised(BadCompany("names"), Company, tuple(names), value)

    def test_unlike_names(self):
        for one in range(6):
            for other in range(6):
                if one != other:
                    names = great_names(6)
                    names[one] = names[other]
                    raised(BadCompany("names"), Company, names, names[0])
        names = great_names(402)
        raised(BadCompany("names"), Company, [*names[:401], names[0]], names[0])

    def test_hosts(self):
        for host in [*NO_NAMES, *NO_INTEGERS, *HUGE, "eve", "an", "annn", "b", FOUR, tuple(FOUR), Odd()]:
            raised(BadCompany("host"), Company, FOUR, host)
            raised(BadCompany("host"), Company, host=host, names=tuple(FOUR))

    def test_names_come_ahead_of_the_host(self):
        for host in ("eve", None, Odd(), 1):
            raised(BadCompany("names"), Company, FOUR[:3], host)
            raised(BadCompany("names"), Company, None, host)


class Halves(unittest.TestCase):
    def test_all_halves(self):
        draw = random.Random("halves")
        for names, host in told_companies():
            company = Company(names, host)
            halves = told_halves(names)
            states = [told_lamps(names, host, half) for half in halves]
            self.assertEqual(len(set(states)), len(states))
            for half, state in zip(halves, states):
                for given in (half, tuple(half), half[::-1], draw.sample(half, len(half))):
                    self.assertEqual(state_for(company, given), state)
                    self.assertEqual(state_for(inside=given, company=company), state)
                self.assertEqual(inside_for(company, state), tuple(half))
                self.assertEqual(inside_for(state=state, company=company), tuple(half))
                self.assertIs(type(inside_for(company, state)), tuple)

    def test_low_if_the_host_is_inside(self):
        for names, host in told_companies():
            for half in told_halves(names):
                burning = state_for(Company(names, host), half).count("1")
                self.assertEqual(burning, len(names) // 2 - (1 if host in half else 0))

    def test_great_companies(self):
        draw = random.Random("great")
        for many in (402, 402, 400, 82):
            names = great_names(many)
            host = draw.choice(names)
            company = Company(names, host)
            for _ in range(5):
                half = draw.sample(names, many // 2)
                state = in_short_time(state_for, company, half)
                self.assertEqual(state, told_lamps(names, host, half))
                self.assertEqual(in_short_time(inside_for, company, state), tuple(n for n in names if n in half))


class Refused(unittest.TestCase):
    def test_what_is_no_company(self):
        for value in [*NO_STRINGS, *NO_INTEGERS, FOUR, "ann", Company, (tuple(FOUR), "ann")]:
            for other in (["ann", "bob"], "100", None, []):
                raised(BadCompany("company"), state_for, value, other)
                raised(BadCompany("company"), inside_for, value, other)
                raised(BadCompany("company"), state_for, inside=other, company=value)
                raised(BadCompany("company"), inside_for, state=other, company=value)

    def test_what_is_no_half(self):
        for host in FOUR:
            company = Company(FOUR, host)
            for inside in [
                *NO_STRINGS, "ann", "cy", "annbob", [], ["ann"], ["ann", "bob", "cy"], FOUR, ["ann", "ann"],
                ("cy", "cy"), ["ann", "eve"], ["Ann", "bob"], ["ann", "bob "], {"ann", "bob"}, {"ann": 1, "bob": 2},
                [["ann"], "bob"], [("ann",), ("bob",)], iter(["ann", "bob"]), company, ["ann", company],
            ]:
                raised(BadCompany("inside"), state_for, company, inside)
                raised(BadCompany("inside"), state_for, inside=inside, company=company)
            for value in [*NO_NAMES, *HUGE, "eve", Odd()]:
                raised(BadCompany("inside"), state_for, company, ["ann", value])
                raised(BadCompany("inside"), state_for, company, (value, "ann"))
        raised(BadCompany("inside"), in_short_time, state_for, Company(FOUR, "ann"), ["ann"] * 1000000)

    def test_what_is_no_state(self):
        for names, host in told_companies():
            for value in [*NO_STRINGS, *NO_STATES, list(names), host]:
                raised(BadState("state"), inside_for, Company(names, host), value)
                raised(BadState("state"), inside_for, state=value, company=Company(names, host))

    def test_states_of_other_pairs(self):
        for names, host in told_companies():
            for state in ["100", "11000", "1110000", "111100000", "10" * 200 + "0"]:
                if len(state) != len(names) - 1:
                    raised(Misfit("state"), inside_for, Company(names, host), state)
                    raised(Misfit("state"), inside_for, state=state, company=Company(names, host))


if __name__ == "__main__":
    unittest.main()
