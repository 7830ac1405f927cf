"""Changes of tables ([12] [17] [18])."""

import itertools
import unittest
from collections import Counter

from tests import reference, samples, wrong
from tests.support import Case
from whoacts.errors import NotUsable
from whoacts.tablechanges import cut_to, joined, pieces_of, powered, with_move, with_prime, without_move

TABLES = samples.SMALL + samples.MIDDLE + samples.GREAT + samples.DOCUMENT


def steps(table):
    return [(mover, moved, root) for mover, row in table[1] for moved, root in row]


def refusal(word):
    return {"word": word, "at": -1}


def move_fault(table, mover, moved, root):
    """The parameter of with_move that is refused first, as [17] says, or None."""
    primes = table[0]
    if type(mover) is not int or mover not in primes or mover in reference.moved_ones(table):
        return "mover"
    if type(moved) is not int or moved not in primes or moved == mover or moved in reference.movers(table):
        return "moved"
    if (mover, moved) in reference.web(table) or (moved - 1) % mover != 0:
        return "moved"
    if type(root) is not int or not (1 < root < moved and pow(root, mover, moved) == 1):
        return "root"
    return None


class WithPrime(Case):
    def test_it_adds_one_still_prime(self):
        for table in TABLES:
            for prime in (2, 3, 5, 11, 37, 4999, 9967, 9973):
                if prime in table[0]:
                    self.raises(NotUsable, refusal("prime"), with_prime, table, prime)
                    continue
                expected = (tuple(sorted(table[0] + (prime,))), table[1])
                self.same(with_prime(table, prime), expected)
                self.same(with_prime(prime=prime, table=table), expected)

    def test_wrong_inputs(self):
        takes = {"table": wrong.table, "prime": lambda known, value: reference.is_prime(value) and value not in (2, 3)}
        wrong.check_refusals(self, with_prime, {"table": samples.SIX, "prime": 5}, takes)
        for value in (10007, 4, 9, 1, 0, -7, 9999, True, 2, 3):
            self.raises(NotUsable, refusal("prime"), with_prime, samples.SIX, value)


class WithMove(Case):
    def test_it_adds_one_move_or_refuses_the_first_that_fails(self):
        values = [2, 3, 5, 7, 13, 1, True, None]
        tables = [table for table in samples.SMALL if len(table[0]) == 3] + [samples.TWO, samples.NONE]
        for table in tables:
            for mover, moved, root in itertools.product(values, values, [0, 1, 2, 3, 4, 6, 9, True, None]):
                self.judged(table, mover, moved, root)

    def test_great_tables(self):
        for table in samples.GREAT:
            for mover, moved in itertools.product(table[0], repeat=2):
                roots = [0, 1, 2, moved - 1, moved, moved + 1]
                if (moved - 1) % mover == 0:
                    roots.extend(samples.some_root(mover, moved, k) for k in range(1, min(mover, 4)))
                for root in roots:
                    self.judged(table, mover, moved, root)

    def judged(self, table, mover, moved, root):
        fault = move_fault(table, mover, moved, root)
        if fault is not None:
            self.raises(NotUsable, refusal(fault), with_move, table, mover, moved, root)
            return
        got = with_move(table, mover, moved, root)
        self.same(got, samples.table_of(table[0], steps(table) + [(mover, moved, root)]))
        self.same(with_move(root=root, moved=moved, mover=mover, table=table), got)
        self.assertTrue(reference.is_table(got))
        # without_move takes back with_move.
        self.same(without_move(got, mover, moved), table)

    def test_a_move_into_the_middle_of_a_row_and_a_row_ahead_of_others(self):
        table = samples.table_of((2, 3, 5, 7, 13), [(3, 7, 2), (3, 13, 3), (2, 13, 12)])
        got = with_move(table, 2, 7, 6)
        self.same(got, ((2, 3, 5, 7, 13), ((2, ((7, 6), (13, 12))), (3, ((7, 2), (13, 3))))))
        self.same(with_move(got, 2, 5, 4)[1][0], (2, ((5, 4), (7, 6), (13, 12))))
        self.same(with_move(((2, 3, 7), ((3, ((7, 2),)),)), 2, 7, 6), ((2, 3, 7), ((2, ((7, 6),)), (3, ((7, 2),)))))

    def test_wrong_inputs(self):
        table = ((2, 3, 5, 7, 11), ((2, ((5, 4),)),))
        takes = {"table": wrong.table,
                 "mover": lambda known, value: move_fault(known["table"], value, None, None) != "mover",
                 "moved": lambda known, value: move_fault(known["table"], known["mover"], value, None) != "moved",
                 "root": lambda known, value: move_fault(*known.values(), value) is None}
        args = {"table": table, "mover": 3, "moved": 7, "root": 2}
        wrong.check_refusals(self, with_move, args, takes)

    def test_what_is_moved_does_not_move_and_a_mover_is_not_moved(self):
        table = ((2, 3, 7, 43), ((2, ((7, 6),)),))
        self.raises(NotUsable, refusal("mover"), with_move, table, 7, 43, 4)
        table = ((2, 3, 7, 43), ((7, ((43, 4),)),))
        self.raises(NotUsable, refusal("moved"), with_move, table, 2, 7, 6)
        self.raises(NotUsable, refusal("moved"), with_move, table, 7, 43, 4)
        self.raises(NotUsable, refusal("moved"), with_move, table, 7, 7, 2)
        self.raises(NotUsable, refusal("mover"), with_move, table, 43, 7, 2)


class WithoutMove(Case):
    def test_it_takes_one_move_away(self):
        for table in TABLES:
            for step in steps(table):
                left = [other for other in steps(table) if other != step]
                expected = samples.table_of(table[0], left)
                self.same(without_move(table, step[0], step[1]), expected)
                self.same(without_move(moved=step[1], mover=step[0], table=table), expected)

    def test_a_mover_without_a_row_is_none_any_more(self):
        self.same(without_move(samples.MIXED, 3, 7), ((2, 3, 5, 7, 11), ((2, ((5, 4), (7, 6))),)))
        self.same(without_move(samples.MIXED, 2, 7), ((2, 3, 5, 7, 11), ((2, ((5, 4),)), (3, ((7, 2),)))))

    def test_pairs_that_are_not_in_the_web(self):
        for table in TABLES:
            for mover, moved in itertools.product(table[0] + (1, True, None), repeat=2):
                if type(mover) is not int or mover not in reference.movers(table):
                    self.raises(NotUsable, refusal("mover"), without_move, table, mover, moved)
                elif (mover, moved) not in reference.web(table):
                    self.raises(NotUsable, refusal("moved"), without_move, table, mover, moved)

    def test_wrong_inputs(self):
        takes = {"table": wrong.table, "mover": lambda known, value: type(value) is int and value in (2, 3),
                 "moved": lambda known, value: type(value) is int and (known["mover"], value) in ((2, 5), (2, 7), (3, 7))}
        wrong.check_refusals(self, without_move, {"table": samples.MIXED, "mover": 2, "moved": 5}, takes)


class Powered(Case):
    def test_each_root_of_one_row_is_to_the_power(self):
        for table in TABLES:
            for mover in reference.movers(table):
                for k in list(range(1, min(mover, 6))) + [mover - 1]:
                    expected = [(p, q, pow(root, k, q) if p == mover else root) for p, q, root in steps(table)]
                    got = powered(table, mover, k)
                    self.same(got, samples.table_of(table[0], expected))
                    self.same(powered(k=k, mover=mover, table=table), got)
                    self.assertTrue(reference.is_table(got))

    def test_powers_from_one_on_and_less_than_the_mover(self):
        for mover, table in ((2, samples.SIX), (3, samples.TWO), (5, samples.THREE)):
            for k in (0, -1, mover, mover + 1, 10**80 * mover + 1, True, None):
                self.raises(NotUsable, refusal("k"), powered, table, mover, k)

    def test_powers_whose_product_leaves_one_take_each_other_back(self):
        for table in TABLES:
            for mover in reference.movers(table):
                for k in range(1, min(mover, 40)):
                    back = pow(k, -1, mover)
                    self.same(powered(powered(table, mover, k), mover, back), table)

    def test_wrong_inputs(self):
        takes = {"table": wrong.table, "mover": lambda known, value: type(value) is int and value == 3,
                 "k": lambda known, value: type(value) is int and value in (1, 2)}
        wrong.check_refusals(self, powered, {"table": samples.TWO, "mover": 3, "k": 1}, takes)

    def test_a_table_and_powered_of_it_are_alike(self):
        """By a map that is one to one: the rest at the mover, times k."""
        for table in samples.SMALL + samples.MIDDLE[:4]:
            for mover in reference.movers(table):
                for k in range(1, mover):
                    self.alike_by(table, powered(table, mover, k), mover, k)

    def alike_by(self, table, other, mover, k):
        things = reference.all_things(table)
        goes = {}
        for thing in things:
            goes[thing] = tuple(x * k % p if p == mover else x for p, x in zip(table[0], thing))
        self.assertEqual(len(set(goes.values())), len(things))
        for x in things:
            for y in things:
                self.assertEqual(goes[reference.times(other, x, y)], reference.times(table, goes[x], goes[y]))

    def test_counts_of_a_table_and_powered_of_it_are_alike(self):
        for table in samples.SMALL:
            for mover in reference.movers(table):
                for k in range(2, mover):
                    late = powered(table, mover, k)
                    self.assertEqual(counts(table), counts(late))


def counts(table):
    """How many things of each order, parts of each size, and pairs x, y with x y as y to the power r and x."""
    group = reference.group(table)
    orders = Counter(group.order(x) for x in group.things)
    parts = Counter(len(part) for part in group.parts)
    twisted = [sum(group.product(x, y) == group.product(group.power(y, r), x)
                   for x in group.things for y in group.things) for r in range(len(group.things))]
    return orders, parts, twisted


class CutTo(Case):
    def test_all_sets_of_primes(self):
        for table in samples.SMALL + samples.MIDDLE + samples.DOCUMENT + samples.GREAT[:2]:
            for primes in reference.subsets(table[0]):
                left = [step for step in steps(table) if step[0] in primes and step[1] in primes]
                got = cut_to(table, primes)
                self.same(got, samples.table_of(primes, left))
                self.same(cut_to(primes=primes, table=table), got)

    def test_wrong_inputs(self):
        takes = {"table": wrong.table, "primes": wrong.primes}
        wrong.check_refusals(self, cut_to, {"table": samples.MIXED, "primes": (2, 5)}, takes)
        for value in ((5, 2), (2, 2), [2, 5], (2, 13), (2, True), 2, None, ((2, 5),)):
            self.raises(NotUsable, refusal("primes"), cut_to, samples.MIXED, value)


class Joined(Case):
    def test_tables_without_a_common_prime(self):
        for one, other in itertools.product(TABLES, repeat=2):
            if set(one[0]) & set(other[0]):
                self.raises(NotUsable, refusal("other"), joined, one, other)
                continue
            expected = samples.table_of(sorted(one[0] + other[0]), steps(one) + steps(other))
            self.same(joined(one, other), expected)
            self.same(joined(other=other, table=one), expected)

    def test_movers_of_both_ascend(self):
        one, other = ((3, 7), ((3, ((7, 2),)),)), ((2, 5, 11), ((2, ((11, 10),)), (5, ((11, 3),))))
        self.same(joined(one, other), ((2, 3, 5, 7, 11), ((2, ((11, 10),)), (3, ((7, 2),)), (5, ((11, 3),)))))
        self.same(joined(other, one), joined(one, other))
        self.same(joined(one, samples.NONE), one)

    def test_wrong_inputs(self):
        takes = {"table": wrong.table,
                 "other": lambda known, value: reference.is_table(value) and not set(value[0]) & {5, 11}}
        wrong.check_refusals(self, joined, {"table": ((5, 11), ((5, ((11, 3),)),)), "other": samples.SIX}, takes)


class Pieces(Case):
    def expected(self, table):
        """The tables cut to the sets of primes that hang together, found by going from prime to prime."""
        left = list(table[0])
        pieces = []
        while left:
            found = {left[0]}
            while True:
                more = {p for pair in reference.web(table) if found & set(pair) for p in pair} - found
                if not more:
                    break
                found |= more
            left = [p for p in left if p not in found]
            pieces.append(samples.table_of(sorted(found), [step for step in steps(table) if step[0] in found]))
        return tuple(sorted(pieces))

    def test_pieces(self):
        for table in TABLES:
            self.same(pieces_of(table), self.expected(table))
            self.same(pieces_of(table=table), self.expected(table))

    def test_primes_hang_together_by_a_third_one(self):
        table = samples.table_of((2, 3, 5, 7, 11, 13, 31), [(2, 7, 6), (3, 7, 2), (3, 13, 3), (5, 11, 3), (5, 31, 2)])
        one = samples.table_of((2, 3, 7, 13), [(2, 7, 6), (3, 7, 2), (3, 13, 3)])
        other = samples.table_of((5, 11, 31), [(5, 11, 3), (5, 31, 2)])
        self.same(pieces_of(table), (one, other))
        self.same(pieces_of(samples.table_of((2, 3, 5, 7), [(2, 7, 6)])), (((2, 7), ((2, ((7, 6),)),)), ((3,), ()), ((5,), ())))
        late = samples.table_of((2, 3, 5, 7, 11, 31), [(2, 11, 10), (3, 7, 2), (5, 11, 3), (5, 31, 2), (3, 31, 5)])
        self.same(pieces_of(late), (late,))

    def test_edges(self):
        self.same(pieces_of(samples.NONE), ())
        self.same(pieces_of(((7,), ())), (((7,), ()),))
        self.same(pieces_of(samples.THREE), (samples.THREE,))
        self.same(pieces_of(samples.GREAT[4]), tuple(((p,), ()) for p in samples.GREAT[4][0]))

    def test_joined_of_all_pieces_is_the_table_in_any_order(self):
        for table in TABLES:
            pieces = pieces_of(table)
            for order in list(itertools.permutations(pieces))[:60:7] + [pieces[::-1]]:
                total = samples.NONE
                for piece in order:
                    total = joined(total, piece)
                self.same(total, table)

    def test_many_primes(self):
        primes = tuple(reference.PRIMES)
        self.same(pieces_of((primes, ())), tuple(((p,), ()) for p in primes))
        table = (primes, ((2, tuple((q, q - 1) for q in primes[1:])),))
        self.same(pieces_of(table), (table,))

    def test_wrong_inputs(self):
        wrong.check_refusals(self, pieces_of, {"table": samples.MIXED}, {"table": wrong.table})


if __name__ == "__main__":
    unittest.main()
