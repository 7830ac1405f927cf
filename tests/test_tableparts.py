"""Parts of tables ([3] [12] [15] [16])."""

import unittest

from tests import reference, samples, wrong
from tests.support import Case
from whoacts.errors import NotUsable
from whoacts.tableparts import moved_of, movers_of, number_of, row_of, still_of, web_of

TABLES = samples.SMALL + samples.MIDDLE + samples.GREAT + samples.DOCUMENT


class TableParts(Case):
    def test_number(self):
        for table in TABLES:
            self.same(number_of(table=table), reference.number(table))
        self.same([number_of(samples.NONE), number_of(((9973,), ())), number_of(samples.MIXED)], [1, 9973, 2310])

    def test_the_number_may_have_thirty_figures(self):
        self.assertGreater(number_of(samples.GREAT[4]), 10**31)

    def test_web_movers_moved_and_still(self):
        for table in TABLES:
            web = tuple(sorted(reference.web(table)))
            ones = tuple(sorted({p for p, _ in web})), tuple(sorted({q for _, q in web}))
            still = tuple(sorted(set(table[0]) - set(ones[0]) - set(ones[1])))
            self.same(web_of(table=table), web)
            self.same((movers_of(table=table), moved_of(table=table), still_of(table=table)), ones + (still,))

    def test_together_they_are_all_primes_each_once(self):
        for table in TABLES:
            self.same(tuple(sorted(movers_of(table) + moved_of(table) + still_of(table))), table[0])

    def test_edges(self):
        calls = (web_of, movers_of, moved_of, still_of)
        self.same([call(samples.NONE) for call in calls], [(), (), (), ()])
        self.same([call(((7,), ())) for call in calls], [(), (), (), (7,)])
        self.same([call(samples.THREE) for call in calls], [((2, 31), (3, 31), (5, 31)), (2, 3, 5), (31,), ()])
        self.same([call(samples.MIXED) for call in calls], [((2, 5), (2, 7), (3, 7)), (2, 3), (5, 7), (11,)])

    def test_row(self):
        for table in TABLES:
            for mover, row in table[1]:
                self.same(row_of(table, mover), row)
                self.same(row_of(mover=mover, table=table), row)
            for prime in table[0]:
                if prime not in reference.movers(table):
                    self.raises(NotUsable, {"word": "mover", "at": -1}, row_of, table, prime)

    def test_wrong_inputs(self):
        for call in (number_of, web_of, movers_of, moved_of, still_of):
            wrong.check_refusals(self, call, {"table": samples.MIXED}, {"table": wrong.table})
        takes = {"table": wrong.table, "mover": lambda known, value: type(value) is int and value in (2, 3)}
        wrong.check_refusals(self, row_of, {"table": samples.MIXED, "mover": 2}, takes)

    def test_more_than_eight_primes(self):
        primes = tuple(reference.PRIMES)
        row = tuple((q, q - 1) for q in primes[1:])
        table = (primes, ((2, row),))
        self.same([movers_of(table), moved_of(table), still_of(table), row_of(table, 2)], [(2,), primes[1:], (), row])
        self.same(number_of(table), reference.number(table))


if __name__ == "__main__":
    unittest.main()
