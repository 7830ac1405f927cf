"""lets_table: each entry of its list, its place, and which comes first ([11] [14])."""

import unittest

from tests import reference, samples
from tests.support import Case
from tests.wrong import any_values, changed
from whoacts.errors import InvalidPaper
from whoacts.tablechecker import lets_table


def first_fault(value):
    """The first entry of the list of [14] that applies to any value, or None."""
    if type(value) is not tuple or len(value) != 2 or type(value[0]) is not tuple or type(value[1]) is not tuple:
        return "shape", -1
    primes, moves = value
    for k, prime in enumerate(primes):
        if not reference.is_prime(prime):
            return "prime", k
        if k and not prime > primes[k - 1]:
            return "order", k
    for k, move in enumerate(moves):
        if type(move) is not tuple or len(move) != 2 or not reference.is_int(move[0]) or move[0] not in primes \
                or type(move[1]) is not tuple or move[1] == () or (k and not move[0] > moves[k - 1][0]):
            return "mover", k
        mover, row = move
        for j, step in enumerate(row):
            if type(step) is not tuple or len(step) != 2 or not reference.is_int(step[0]) or step[0] not in primes \
                    or step[0] == mover or (step[0] - 1) % mover != 0 or not reference.is_int(step[1]) \
                    or (j and not step[0] > row[j - 1][0]):
                return "moved", (k, j)
            if not (1 < step[1] < step[0] and pow(step[1], mover, step[0]) == 1):
                return "root", (k, j)
    moved = [q for _, row in moves for q, _ in row]
    for k, (mover, _) in enumerate(moves):
        if mover in moved:
            return "chain", k
    return None


class LetsTable(Case):
    def refused(self, value, word, at):
        self.same(first_fault(value), (word, at), value)
        self.raises(InvalidPaper, {"word": word, "at": at}, lets_table, value)
        self.raises(InvalidPaper, {"word": word, "at": at}, lets_table, value=value)

    def judged(self, value):
        fault = first_fault(value)
        if fault is None:
            self.same(lets_table(value), len(value[0]), value)
        else:
            self.raises(InvalidPaper, {"word": fault[0], "at": fault[1]}, lets_table, value)

    def test_it_returns_how_many_primes_there_are(self):
        for table in samples.SMALL + samples.MIDDLE + samples.GREAT + samples.DOCUMENT:
            self.same(lets_table(table), len(table[0]))
            self.same(lets_table(value=table), len(table[0]))

    def test_tables_of_many_primes(self):
        primes = tuple(reference.PRIMES)
        row = tuple((q, q - 1) for q in primes[1:])
        self.same(lets_table((primes, ((2, row),))), 1229)
        self.refused((primes, ((2, row[:-1] + ((9973, 9971),)),)), "root", (0, 1227))

    def test_shape(self):
        for value in (None, (), ((),), ((), (), ()), [(), ()], ([], ()), ((), []), "", 5, True, ("", ""), ((), None),
                      (4, ()), ((4,), [])):
            self.refused(value, "shape", -1)

    def test_prime(self):
        for wrong in (4, 1, 0, -2, 10007, True, None, "2", (2,), [2], 10**89, 9999):
            self.refused(((wrong,), ()), "prime", 0)
            self.refused(((2, 3, wrong, 5), ()), "prime", 2)
            self.refused(((2, wrong, 2), (1,)), "prime", 1)

    def test_order(self):
        self.refused(((3, 2), ()), "order", 1)
        self.refused(((2, 2), ()), "order", 1)
        self.refused(((2, 5, 7, 3, 4), (None,)), "order", 3)
        self.refused(((2, 5, 3, 2), ()), "order", 2)

    def test_all_checks_of_one_prime_come_before_those_of_the_next_one(self):
        self.refused(((3, 2, 4), ()), "order", 1)
        self.refused(((3, 4, 2), ()), "prime", 1)
        self.refused(((3, 1), ()), "prime", 1)

    def test_mover(self):
        for wrong in (None, (), (2,), (2, ((3, 2),), 1), [2, ((3, 2),)], (2, ()), (2, [(3, 2)]), (2, None), (5, ((7, 2),)),
                      (True, ((3, 2),)), ((2,), ((3, 2),)), ([2], ((3, 2),)), ("2", ((3, 2),)), (4, ((3, 2),)), 2):
            self.refused(((2, 3), (wrong,)), "mover", 0)
            self.refused(((2, 3, 7), ((2, ((7, 6),)), wrong)), "mover", 1)

    def test_movers_ascend(self):
        self.refused(((2, 3, 7), ((3, ((7, 2),)), (2, ((7, 6),)))), "mover", 1)
        self.refused(((2, 3, 7), ((2, ((7, 6),)), (2, ((3, 2),)))), "mover", 1)

    def test_moved(self):
        for wrong in (None, (), (7,), (7, 6, 1), [7, 6], (5, 4), (2, 1), (4, 1), (7, True), (7, None), (7, "6"), (7, (6,)),
                      (True, 6), ("7", 6), ([7], 6), (None, None), 7):
            self.refused(((2, 3, 7), ((2, (wrong,)),)), "moved", (0, 0))
            self.refused(((2, 3, 7), ((2, ((3, 2), wrong)),)), "moved", (0, 1))

    def test_moved_is_divided_less_one_by_the_mover(self):
        self.refused(((3, 5, 7), ((3, ((5, 2),)),)), "moved", (0, 0))
        self.refused(((3, 5, 7), ((3, ((7, 2),)), (7, ((3, 2),)))), "moved", (1, 0))
        self.refused(((2, 3), ((2, ((2, 1),)),)), "moved", (0, 0))

    def test_moved_ascend(self):
        self.refused(((2, 3, 7), ((2, ((7, 6), (3, 2))),)), "moved", (0, 1))
        self.refused(((2, 3, 7), ((2, ((7, 6), (7, 6))),)), "moved", (0, 1))
        self.refused(((2, 3, 7), ((2, ((7, 6), (3, 1))),)), "moved", (0, 1))

    def test_root(self):
        for wrong in (0, 1, 3, 7, 8, 9, -1, -6, -3, 11, 10**89 + 2, 2 + 7 * 10**80):
            self.refused(((2, 3, 7), ((3, ((7, wrong),)),)), "root", (0, 0))
        for wrong in (0, 1, 2, 3, 4, 5, 7, 13, -1, 10**89):
            self.refused(((2, 3, 7), ((2, ((3, 2), (7, wrong))),)), "root", (0, 1))

    def test_all_roots_of_some_primes(self):
        for mover, moved in ((2, 9973), (3, 9973), (277, 9973), (4943, 9887), (5, 31), (3, 31), (2, 31)):
            for root in list(range(-2, 60)) + list(range(moved - 40, moved + 3)) + samples.roots(mover, moved)[:20]:
                self.judged(((mover, moved), ((mover, ((moved, root),)),)))

    def test_all_checks_of_one_step_come_before_those_of_the_next_one(self):
        self.refused(((2, 3, 7), ((2, ((3, 1), None)),)), "root", (0, 0))
        self.refused(((2, 3, 7), ((2, (None, (3, 1))),)), "moved", (0, 0))
        self.refused(((2, 3, 7), ((2, ((3, 1),)), None)), "root", (0, 0))
        self.refused(((2, 3, 7), (None, (2, ((3, 1),)))), "mover", 0)

    def test_chain(self):
        self.refused(((2, 3, 7), ((2, ((3, 2),)), (3, ((7, 2),)))), "chain", 1)
        self.refused(((2, 3, 5, 7, 11), ((2, ((3, 2), (5, 4))), (3, ((7, 2),)), (5, ((11, 3),)))), "chain", 1)
        self.refused(((2, 3, 5, 7, 11), ((2, ((5, 4),)), (3, ((7, 2),)), (5, ((11, 3),)))), "chain", 2)

    def test_chain_comes_behind_all_else(self):
        self.refused(((2, 3, 7), ((2, ((3, 2),)), (3, ((7, 1),)))), "root", (1, 0))
        self.refused(((2, 3, 7), ((2, ((3, 2),)), (3, ((7, 2),)), None)), "mover", 2)

    def test_primes_come_ahead_of_movers(self):
        self.refused(((2, 3, 4), (None,)), "prime", 2)
        self.refused(((2, 3, 3), (None,)), "order", 2)

    def test_any_value(self):
        for value in any_values():
            self.judged(value)
            self.judged((value, ()))
            self.judged(((), value))
            self.judged(((2, 3), (value,)))
            self.judged(((2, 3), (value, value)))
            self.judged(((2, 3), ((value, ((3, 2),)),)))
            self.judged(((2, 3), ((2, value),)))
            self.judged(((2, 3), ((2, (value,)),)))
            self.judged(((2, 3), ((2, ((value, 2),)),)))
            self.judged(((2, 3), ((2, ((3, value),)),)))

    def test_each_change_of_a_table(self):
        for table in (samples.SIX, samples.MIXED, samples.TWO, ((2, 3, 5, 7, 11), ((2, ((5, 4),)), (5, ((11, 3),))))):
            for value in changed(table):
                self.judged(value)

    def test_two_changes_of_a_table(self):
        for value in changed(samples.SIX):
            if isinstance(value, tuple):
                for late in changed(value) if value else ():
                    self.judged(late)


if __name__ == "__main__":
    unittest.main()
