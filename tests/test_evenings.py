"""Evenings: against the tests' own round of states, and halves that are changed name by name."""

import random
import unittest
from math import comb

from everyhalf.companies import Company
from everyhalf.errors import BadCompany, BadNumber
from everyhalf.evenings import evening, how_many_evenings, inside_before, inside_next, night_before, plan
from everyhalf.rounds import next_state
from tests.helper import (
    HUGE, NO_INTEGERS, NO_STRINGS, Odd, great_names, in_short_time, raised, told_chosen_words, told_companies,
    told_halves, told_lamps, told_round,
)

FOUR = ["ann", "bob", "cy", "dot"]
BEHIND = {pairs: told_round(pairs, told_chosen_words(pairs)) for pairs in (1, 2, 3)}
OF_A_HALF = [evening, inside_next, night_before, inside_before]


def told_next(names, host):
    """For each half of these names, in their order, the half that has the next state."""
    halves = {told_lamps(names, host, half): tuple(half) for half in told_halves(names)}
    behind = BEHIND[len(names) // 2 - 1]
    return {half: halves[behind[state]] for state, half in halves.items()}


def told_exchange(half, other):
    """Who goes in, and who goes out, between two halves that differ by one on each side."""
    (goes_in,), (goes_out,) = set(other) - set(half), set(half) - set(other)
    return goes_in, goes_out


class Evenings(unittest.TestCase):
    def test_all_halves(self):
        draw = random.Random("evenings")
        for names, host in told_companies():
            company = Company(names, host)
            for half, other in told_next(names, host).items():
                exchange = told_exchange(half, other)
                for given in (half, list(half), draw.sample(half, len(half))):
                    self.assertEqual(evening(company, given), exchange)
                    self.assertEqual(inside_next(company, given), other)
                for given in (other, list(other), draw.sample(other, len(other))):
                    self.assertEqual(night_before(company, given), exchange)
                    self.assertEqual(inside_before(company, given), half)
                self.assertEqual(evening(inside=half, company=company), exchange)
                self.assertEqual(inside_next(inside=half, company=company), other)
                self.assertEqual(night_before(inside=other, company=company), exchange)
                self.assertEqual(inside_before(inside=other, company=company), half)
                for value in (evening(company, half), inside_next(company, half), night_before(company, half),
                              inside_before(company, half)):
                    self.assertIs(type(value), tuple)

    def test_the_host_is_always_one_of_both(self):
        for names, host in told_companies():
            company = Company(names, host)
            for half in told_halves(names):
                self.assertEqual(evening(company, half).index(host), 1 if host in half else 0)
                self.assertEqual(night_before(company, half).index(host), 0 if host in half else 1)

    def test_all_halves_come_once_and_then_anew(self):
        for names, host in told_companies():
            company = Company(names, host)
            many = how_many_evenings(company)
            start = tuple(names[:len(names) // 2])
            here, seen = start, []
            for _ in range(many):
                seen.append(here)
                here = inside_next(company, here)
            self.assertEqual(here, start)
            self.assertEqual(sorted(seen), sorted(tuple(half) for half in told_halves(names)))
            for half in reversed(seen):
                here = inside_before(company, here)
                self.assertEqual(here, half)

    def test_great_companies(self):
        draw = random.Random("great evenings")
        for many in (402, 400, 60):
            names = great_names(many)
            host = draw.choice(names)
            company = Company(names, host)
            half = draw.sample(names, many // 2)
            state = told_lamps(names, host, half)
            for _ in range(12):
                exchange = in_short_time(evening, company, half)
                other = in_short_time(inside_next, company, half)
                self.assertEqual(told_exchange(half, other), exchange)
                self.assertIn(host, exchange)
                state = next_state(state)
                self.assertEqual(told_lamps(names, host, other), state)
                self.assertEqual(in_short_time(night_before, company, other), exchange)
                self.assertEqual(set(in_short_time(inside_before, company, other)), set(half))
                half = other


class Plans(unittest.TestCase):
    def check(self, company, half, many):
        found = in_short_time(plan, company, half, many)
        self.assertEqual(plan(many=many, inside=tuple(half), company=company), found)
        self.assertIs(type(found), tuple)
        here, told = half, []
        for _ in range(many):
            told.append(evening(company, here))
            here = inside_next(company, here)
        self.assertEqual(found, tuple(told))

    def test_all_halves(self):
        for names, host in told_companies():
            company = Company(names, host)
            for half in told_halves(names)[::3]:
                for many in (0, 1, 2, 7):
                    self.check(company, half, many)

    def test_against_the_round(self):
        for names, host in told_companies():
            behind = told_next(names, host)
            here, told = tuple(names[:len(names) // 2]), []
            for _ in range(100):
                told.append(told_exchange(here, behind[here]))
                here = behind[here]
            for many in (0, 1, 2, 6, 20, 70, 71, 100):
                self.assertEqual(plan(Company(names, host), names[:len(names) // 2], many), tuple(told[:many]))

    def test_a_thousand(self):
        for many in (4, 8, 12):
            names = great_names(many)
            self.check(Company(names, names[1]), names[::2], 1000)
            found = plan(Company(names, names[1]), names[::2], 1000)
            self.assertEqual([len(found), {len(each) for each in found}], [1000, {2}])

    def test_great_companies(self):
        names = great_names(402)
        self.check(Company(names, names[5]), names[::2], 25)
        self.check(Company(names, names[0]), names[201:], 25)
        names = great_names(102)
        self.check(Company(names, names[5]), names[51:], 100)

    def test_refused(self):
        company = Company(FOUR, "ann")
        for many in [-1, 1001, 10 ** 6, *HUGE, -HUGE[1], *NO_INTEGERS]:
            raised(BadNumber("many"), plan, company, ["ann", "bob"], many)
            raised(BadNumber("many"), plan, many=many, inside=("bob", "cy"), company=company)


class HowMany(unittest.TestCase):
    def test_how_many(self):
        for many in (4, 6, 8, 10, 100, 402):
            names = great_names(many)
            company = Company(names, names[0])
            self.assertEqual(in_short_time(how_many_evenings, company), comb(many, many // 2))
            self.assertEqual(how_many_evenings(company=company), comb(many, many // 2))


class Refused(unittest.TestCase):
    def test_what_is_no_company(self):
        for value in [*NO_STRINGS, *NO_INTEGERS, FOUR, "ann", Company, (tuple(FOUR), "ann"), Odd()]:
            raised(BadCompany("company"), how_many_evenings, value)
            raised(BadCompany("company"), how_many_evenings, company=value)
            for inside in (["ann", "bob"], [], None):
                for call in OF_A_HALF:
                    raised(BadCompany("company"), call, value, inside)
                    raised(BadCompany("company"), call, inside=inside, company=value)
                for many in (0, -1, None):
                    raised(BadCompany("company"), plan, value, inside, many)

    def test_what_is_no_half(self):
        company = Company(FOUR, "cy")
        for inside in [
            *NO_STRINGS, "ann", [], ["ann"], ["ann", "ann"], FOUR, ["ann", "eve"], {"ann", "bob"}, ["ann", Odd()],
            ["ann", ["bob"]], ["ann", None], "110", [1, 2],
        ]:
            for call in OF_A_HALF:
                raised(BadCompany("inside"), call, company, inside)
                raised(BadCompany("inside"), call, inside=inside, company=company)
            for many in (0, -1, None, 1001):
                raised(BadCompany("inside"), plan, company, inside, many)


if __name__ == "__main__":
    unittest.main()
