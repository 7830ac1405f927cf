"""What parts unlike tables ([50] [58], (W2) (W4))."""

import unittest

from tests import reference, samples, wrong
from tests.support import Case
from whoacts.tablechanges import powered
from whoacts.twisting import twisted_count
from whoacts.twistsapart import twist_apart


def are_alike(table, other):
    """Whether two tables are alike, as (W2) tells."""
    if table[0] != other[0] or reference.web(table) != reference.web(other):
        return False
    return all(any(tuple((q, pow(root, k, q)) for q, root in row) == late for k in range(1, mover))
               for (mover, row), (_, late) in zip(table[1], other[1]))


SETS = tuple(tuple(samples.all_tables(primes)) for primes in (
    (), (2,), (2, 3), (3, 7), (2, 3, 7), (2, 3, 5), (3, 7, 13), (2, 5, 11), (3, 5, 31), (2, 3, 7, 13)))


class TwistApart(Case):
    def parts(self, table, other):
        """A number that parts two unlike tables is told; None of alike ones."""
        r = twist_apart(table, other)
        if are_alike(table, other):
            self.same(r, None)
        else:
            self.assertIs(type(r), int)
            self.assertTrue(0 <= r < reference.number(table), r)
            self.assertNotEqual(twisted_count(table, r), twisted_count(other, r))
        return r

    def test_all_pairs_of_small_tables(self):
        for tables in SETS:
            for k, table in enumerate(tables[::len(tables) // 40 + 1]):
                for other in tables[k % 3::3] if len(tables) > 60 else tables:
                    self.parts(table, other)

    def test_counts_by_going_through_all_pairs(self):
        for tables in SETS[:7]:
            for table in tables[::len(tables) // 6 + 1]:
                for other in tables[::len(tables) // 7 + 1]:
                    counts = [reference.group(each).twisted(reference.number(each)) for each in (table, other)]
                    r = twist_apart(other=other, table=table)
                    self.same(r is None, counts[0] == counts[1])
                    self.assertTrue(r is None or counts[0][r] != counts[1][r])

    def test_great_tables_with_other_roots(self):
        unlike = 0
        for table in samples.GREAT + (samples.TWO, samples.PAIRED):
            for seed in range(1, 4):
                unlike += self.parts(table, samples.other_roots(table, seed)) is not None
            self.same(twist_apart(table, table), None)
        self.assertGreater(unlike, 5)

    def test_one_root_changed(self):
        for table in samples.GREAT:
            for k, (mover, row) in enumerate(table[1]):
                for j, (q, root) in enumerate(row):
                    late = row[:j] + ((q, pow(root, mover - 1, q)),) + row[j + 1:]
                    other = (table[0], table[1][:k] + ((mover, late),) + table[1][k + 1:])
                    self.same(self.parts(table, other) is None, mover == 2 or len(row) == 1)

    def test_other_webs_of_great_tables(self):
        for table in samples.GREAT:
            web = reference.web(table)
            for k in range(len(web)):
                less = samples.great_table(table[0], web[:k] + web[k + 1:])
                self.assertIsNotNone(self.parts(table, less))
                self.assertIsNotNone(self.parts(less, table))

    def test_a_prime_that_moves_in_one_and_is_moved_in_the_other(self):
        for table in samples.all_tables((2, 3, 7)):
            for other in samples.all_tables((2, 3, 7)):
                self.parts(table, other)
        primes = (2, 4943, 9887, 9901, 9907, 9923, 9929, 9973)
        table = samples.great_table(primes, ((4943, 9887), (2, 9901)))
        other = samples.great_table(primes, ((2, 4943), (2, 9887), (2, 9901)))
        self.assertIsNotNone(self.parts(table, other))
        self.assertIsNotNone(self.parts(other, table))

    def test_powers_of_rows(self):
        for table in samples.GREAT + (samples.TWO, samples.TWIN, samples.PAIRED):
            for mover, _ in table[1]:
                for k in sorted({1, mover - 1, max(mover // 2, 1), min(2, mover - 1)}):
                    self.same(twist_apart(table, powered(table, mover, k)), None)
                    self.same(twist_apart(powered(table, mover, k), table), None)

    def test_wrong_inputs(self):
        takes = {"table": wrong.table, "other": wrong.table_beside}
        wrong.check_refusals(self, twist_apart, {"table": samples.SIX, "other": ((2, 3), ())}, takes)
        wrong.check_refusals(self, twist_apart, {"table": samples.TWO, "other": samples.TWIN}, takes)


if __name__ == "__main__":
    unittest.main()
