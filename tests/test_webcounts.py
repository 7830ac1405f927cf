"""Webs, and unlike tables, counted ([59] [60], (W2))."""

import itertools
import unittest

from tests import reference, samples, wrong
from tests.support import Case
from tests.test_twistsapart import are_alike
from whoacts.errors import NotUsable
from whoacts.kinds import is_table
from whoacts.tableparts import web_of
from whoacts.webcounts import a_table, fits_web, group_count, unlike_count, webs_of

SETS = ((), (2,), (2, 3), (2, 7), (3, 7), (2, 3, 5), (2, 3, 7), (3, 7, 13), (2, 5, 11), (2, 7, 29), (3, 5, 31),
        (2, 3, 5, 7), (2, 3, 7, 13), (2, 3, 5, 37), (2, 3, 5, 7, 11), (2, 3, 7, 13, 43), (5, 11, 31, 71, 9941))
# So few that all tables can be gone through.
FEW = tuple(primes for primes in SETS if len(primes) <= 3 or primes in ((2, 3, 5, 7), (2, 3, 7, 13)))
GREAT = (2, 3, 5, 9931, 9941, 9949, 9967, 9973)


def unlike_by_trying(tables):
    """How many of these tables are unlike, each two of them."""
    found = []
    for table in tables:
        if not any(are_alike(table, other) for other in found):
            found.append(table)
    return len(found)


class Webs(Case):
    def test_all_webs(self):
        for primes in SETS:
            expected = tuple(sorted(samples.webs(primes)))
            self.same(webs_of(primes=primes), expected)
            self.same(list(expected), sorted(set(expected)))

    def test_which_webs_fit(self):
        for primes in SETS[:14]:
            pairs = list(itertools.product(primes + (4,), primes + (13,)))[:16]
            known = set(webs_of(primes))
            for k in range(3):
                for value in itertools.combinations(pairs, k):
                    self.same(fits_web(primes, value), value in known)
                    self.same(fits_web(web=value, primes=primes), reference.is_web(primes, value))
            for web in sorted(known)[::5]:
                for value in [list(web), web + web[:1], web[::-1]] + [late for late in wrong.changed(web)][:60]:
                    self.same(fits_web(primes, value), reference.is_web(primes, value), value)

    def test_any_value_as_the_web(self):
        for primes in ((), (2,), (2, 3), (2, 3, 7), (2, 3, 5, 7, 11), GREAT):
            for value in wrong.any_values():
                before = repr(value)
                self.same(fits_web(primes, value), reference.is_web(primes, value), value)
                self.assertEqual(repr(value), before)

    def test_a_web_of_other_primes(self):
        self.same([fits_web((2, 3), ((2, 3),)), fits_web((2, 5), ((2, 3),)), fits_web((3,), ((2, 3),)), fits_web((), ())],
                  [True, False, False, True])


class Tables(Case):
    def test_least_roots(self):
        for primes in SETS + (GREAT,):
            for web in (webs_of(primes) if len(primes) < 6 else [tuple(reference.web(samples.GREAT[0]))]):
                table = a_table(web=web, primes=primes)
                self.assertTrue(reference.is_table(table))
                self.same((table[0], web_of(table)), (primes, web))
                for mover, row in table[1]:
                    for moved, root in row:
                        least = next(k for k in range(2, moved) if pow(k, mover, moved) == 1)
                        self.same(root, least)

    def test_great_movers(self):
        for table in samples.GREAT:
            got = a_table(table[0], tuple(reference.web(table)))
            self.assertTrue(is_table(got))
            self.same(reference.web(got), reference.web(table))
            for mover, row in got[1]:
                for moved, root in row:
                    self.same(root, min(pow(root, k, moved) for k in range(1, mover)))

    def test_no_primes_and_no_pairs(self):
        self.same(a_table((), ()), ((), ()))
        self.same(a_table(GREAT, ()), (GREAT, ()))


class Counted(Case):
    def test_unlike_tables_of_each_web(self):
        for primes in FEW:
            tables = samples.all_tables(primes)
            for web in webs_of(primes):
                held = [table for table in tables if web_of(table) == web]
                if len(held) <= 150:
                    self.same(unlike_count(web=web, primes=primes), unlike_by_trying(held))

    def test_groups_by_trying(self):
        for primes in FEW:
            tables = samples.all_tables(primes)
            if len(tables) <= 400:
                self.same(group_count(primes), unlike_by_trying(tables))

    def test_known_numbers_of_groups(self):
        for primes, many in (((), 1), ((2,), 1), ((3, 5), 1), ((2, 3), 2), ((3, 7), 2), ((2, 3, 5), 4), ((2, 3, 7), 6),
                             ((2, 5, 11), 6), ((3, 5, 7), 2), ((2, 3, 5, 7), 12), ((2, 3, 5, 11), 12), ((3, 7, 13), 5)):
            self.same(group_count(primes=primes), many)

    def test_group_count_is_the_sum_over_all_webs(self):
        for primes in SETS + ((2, 3, 5, 7, 11, 13), (2, 3, 7, 13, 43, 9949), (3, 5, 11, 31, 61, 9931)):
            self.same(group_count(primes), sum(unlike_count(primes, web) for web in webs_of(primes)))

    def test_unlike_tables_of_great_primes(self):
        for table in samples.GREAT:
            expected = 1
            for mover, row in table[1]:
                expected *= (mover - 1) ** (len(row) - 1)
            self.same(unlike_count(table[0], tuple(reference.web(table))), expected)
        self.same(group_count(samples.GREAT[4][0][:6]), 1)

    def test_a_prime_more_that_nothing_divides(self):
        for primes in SETS:
            for prime in (9923, 8191, 9587):
                free = all((prime - 1) % p and (p - 1) % prime for p in primes)
                if free and len(primes) < 6:
                    self.same(group_count(tuple(sorted(primes + (prime,)))), group_count(primes))
                    self.same(webs_of(tuple(sorted(primes + (prime,)))), webs_of(primes))


class WrongInputs(Case):
    def test_wrong_inputs(self):
        takes = {"primes": wrong.prime_set, "web": wrong.web}
        args = {"primes": (2, 3, 7), "web": ((2, 7), (3, 7))}
        for call in (a_table, unlike_count):
            wrong.check_refusals(self, call, args, takes)
        wrong.check_refusals(self, fits_web, args, {"primes": wrong.prime_set, "web": wrong.judged})
        for call in (webs_of, group_count):
            wrong.check_refusals(self, call, {"primes": (2, 3)}, takes)

    def test_too_many_primes_and_great_ones(self):
        nine = (2, 3, 5, 7, 11, 13, 17, 19, 23)
        for call in (fits_web, a_table, unlike_count):
            for primes in (nine, (2, 10007), (3, 2), (2, 2), [2, 3]):
                for web in ((), None):
                    self.raises(NotUsable, {"word": "primes", "at": -1}, call, primes, web)
        for call in (webs_of, group_count):
            for primes in (nine, (2, 10007), (3, 2), (2, 2), [2, 3]):
                self.raises(NotUsable, {"word": "primes", "at": -1}, call, primes)
        self.same(fits_web(nine[:8], ((2, 3),)), True)

    def test_each_change_of_a_web(self):
        web = ((2, 7), (3, 7))
        for value in wrong.changed(web):
            if not reference.is_web((2, 3, 7), value):
                for call in (a_table, unlike_count):
                    self.raises(NotUsable, {"word": "web", "at": -1}, call, (2, 3, 7), value)


if __name__ == "__main__":
    unittest.main()
