"""is_integer, is_number, is_prime, is_table, is_web ([2] [3] [13])."""

import itertools
import unittest

from tests import reference, samples
from tests.support import Case
from tests.wrong import any_values, changed
from whoacts.kinds import is_integer, is_number, is_prime, is_table, is_web


def is_web_by_definition(value):
    if type(value) is not tuple or not all(type(pair) is tuple and len(pair) == 2 for pair in value):
        return False
    if not all(reference.is_prime(p) and reference.is_prime(q) and (q - 1) % p == 0 for p, q in value):
        return False
    return list(value) == sorted(set(value)) and not {p for p, _ in value} & {q for _, q in value}


class Kinds(Case):
    def test_integers_and_numbers(self):
        for value in any_values():
            self.same(is_integer(value), type(value) is int, value)
            self.same(is_number(value), type(value) is int and value >= 0, value)
        self.same(is_integer(value=-5), True)
        self.same(is_number(value=-5), False)

    def test_bools_are_no_integers_numbers_or_primes(self):
        for call in (is_integer, is_number, is_prime):
            self.same([call(True), call(False)], [False, False])

    def test_all_primes_below_ten_thousand_and_no_others(self):
        found = [value for value in range(-100, 30000) if is_prime(value)]
        self.same(found, reference.PRIMES)
        self.same(len(found), 1229)
        self.same([is_prime(value=9973), is_prime(10007), is_prime(10**89 + 1)], [True, False, False])

    def test_any_value_is_a_prime_or_none(self):
        for value in any_values():
            self.same(is_prime(value), reference.is_prime(value), value)

    def test_any_value_is_a_table_or_none(self):
        for value in any_values():
            before = repr(value)
            self.same(is_table(value), reference.is_table(value), value)
            self.assertEqual(repr(value), before)

    def test_tables(self):
        for table in samples.SMALL + samples.MIDDLE + samples.GREAT + samples.DOCUMENT:
            self.same(is_table(value=table), True, table)
            primes, moves = table
            for wrong in ([primes, moves], (list(primes), moves), (primes, list(moves)), (primes,), (primes, moves, ()),
                          (moves, primes, 1), (primes[::-1], moves), (primes + (4,), moves), (primes * 2, moves)):
                self.same(is_table(wrong), reference.is_table(wrong), wrong)

    def test_each_change_of_one_number_of_a_table(self):
        for table in (samples.SIX, samples.TWO, samples.MIXED):
            for wrong in changed(table):
                self.same(is_table(wrong), reference.is_table(wrong), wrong)

    def test_all_pairs_of_small_numbers_as_webs(self):
        values = list(range(-1, 14)) + [True, None, "2", [2]]
        for pair in itertools.product(values, repeat=2):
            self.same(is_web((pair,)), is_web_by_definition((pair,)), pair)

    def test_webs(self):
        pairs = [(2, 3), (2, 5), (2, 7), (3, 7), (5, 11), (2, 11), (7, 3), (11, 23)]
        for k in range(4):
            for web in itertools.product(pairs, repeat=k):
                self.same(is_web(value=web), is_web_by_definition(web), web)
                self.same(is_web(list(web)), False)
        for value in any_values():
            self.same(is_web(value), is_web_by_definition(value), value)

    def test_webs_up_to_ten_thousand(self):
        self.same([is_web(((2, 9973),)), is_web(((2, 10007),)), is_web(((4993, 9987),)), is_web(((4943, 9887),))],
                  [True, False, False, True])
        web = tuple((2, q) for q in reference.PRIMES[1:])
        self.same([is_web(web), is_web(web[::-1]), is_web(web + ((3, 7),)), is_web(web + ((3, 9973),))],
                  [True, False, False, False])
        self.same(is_web(((2, 5), (2, 7), (3, 7), (11, 23))), True)

    def test_webs_of_tables(self):
        for table in samples.SMALL + samples.MIDDLE + samples.GREAT + samples.DOCUMENT:
            self.same(is_web(tuple(reference.web(table))), True)

    def test_tables_of_more_than_eight_primes(self):
        primes = tuple(reference.PRIMES)
        self.same(is_table((primes, ())), True)
        row = tuple((q, q - 1) for q in primes[1:])
        self.same([is_table((primes, ((2, row),))), is_table((primes, ((2, row[::-1]),)))], [True, False])


if __name__ == "__main__":
    unittest.main()
