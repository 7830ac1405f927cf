"""Papers of classes, and their checker ([51], (W3))."""

import functools
import itertools
import unittest

from tests import reference, samples, wrong
from tests.support import Case
from tests.test_classes import patterned
from whoacts.classchecker import lets_class
from whoacts.classes import in_one_class
from whoacts.classpapers import class_paper
from whoacts.errors import InvalidPaper
from whoacts.exchanging import turned_by

SMALL = samples.SMALL + samples.MIDDLE[:4]
ALL = SMALL + samples.GREAT + samples.DOCUMENT + (samples.PAIRED, samples.PARTED)
SIZES = {"same": 2, "mover": 2, "away": 2, "unlike": 4}
REFUSED = {"same": "turner", "mover": "mover", "away": "away", "unlike": "unlike"}


@functools.lru_cache(maxsize=None)
def products(table, prime):
    """All products of powers of the roots of the movers of a prime, each with its powers."""
    found = {1: {}}
    for mover, row in table[1]:
        for q, root in row:
            if q == prime:
                found = {value * pow(root, power, q) % q: {**powers, mover: power}
                         for value, powers in found.items() for power in range(mover)}
    return found


def free_primes(table, thing):
    held = [p for p, rest in zip(table[0], thing) if p in reference.movers(table) and rest != 0]
    swept = [q for mover, q in reference.web(table) if mover in held]
    return [q for q in table[0] if q not in reference.movers(table) and q not in swept]


def quotient(table, thing, other, prime):
    at = table[0].index(prime)
    return other[at] * pow(thing[at], -1, prime) % prime


def is_let(table, thing, other, paper):
    """What the document says of a paper: True, False, or the word of InvalidPaper."""
    if type(paper) is not tuple or not paper or type(paper[0]) is not str or SIZES.get(paper[0]) != len(paper):
        return "shape"
    told = {"same": tells_same, "mover": tells_mover, "away": tells_away, "unlike": tells_unlike}[paper[0]]
    return paper[0] == "same" if told(table, thing, other, *paper[1:]) else REFUSED[paper[0]]


def tells_same(table, thing, other, turner):
    return reference.is_thing(table, turner) and reference.times(table, turner, thing) == reference.times(
        table, other, turner)


def tells_mover(table, thing, other, p):
    return reference.is_int(p) and p in reference.movers(table) and thing[table[0].index(p)] != other[table[0].index(p)]


def tells_away(table, thing, other, q):
    if not reference.is_int(q) or q not in free_primes(table, thing):
        return False
    x, y = thing[table[0].index(q)], other[table[0].index(q)]
    if x == 0 or y == 0:
        return (x == 0) != (y == 0)
    return quotient(table, thing, other, q) not in products(table, q)


def tells_unlike(table, thing, other, p, q, late):
    if not all(reference.is_int(value) for value in (p, q, late)) or q == late:
        return False
    powers = []
    for prime in (q, late):
        if (p, prime) not in reference.web(table) or prime not in free_primes(table, thing):
            return False
        if thing[table[0].index(prime)] == 0:
            return False
        found = products(table, prime).get(quotient(table, thing, other, prime))
        if found is None:
            return False
        powers.append(found[p])
    return powers[0] != powers[1]


def all_papers(table, thing, other):
    """Papers of each form with each of the primes, with 0, 1 and a prime that is none of the table."""
    primes = table[0] + (0, 1, 4, 10007)
    papers = [(word, prime) for word in ("mover", "away") for prime in primes]
    papers.extend(("unlike",) + row for row in itertools.product(primes[-8:], primes[-9:], primes[-9:]))
    papers.extend(("same", turner) for turner in [thing, other] + samples.spread(table, 2))
    return papers


class Papers(Case):
    def setUp(self):
        self.words = []

    def judges(self, table, thing, other, paper):
        """lets_class tells of a paper what the document says."""
        expected = is_let(table, thing, other, paper)
        if isinstance(expected, str):
            self.raises(InvalidPaper, {"word": expected, "at": -1}, lets_class, table, thing, other, paper)
        else:
            self.same(lets_class(table, thing, other, paper), expected)

    def paper_is_let(self, table, x, y):
        """The paper of two things is one by the words of the document, of a kind that is due, and is let."""
        paper = class_paper(table, x, y)
        together = in_one_class(table, x, y)
        self.same(is_let(table, x, y, paper), together, (table, x, y, paper))
        self.same(lets_class(table, x, y, paper), together)
        self.same(lets_class(paper=paper, other=y, thing=x, table=table), together)
        self.same(class_paper(other=y, thing=x, table=table), paper)
        self.words.append(paper[0])

    def test_all_pairs_of_small_tables(self):
        for table in SMALL:
            group = reference.group(table)
            for k, x in enumerate(group.things):
                for y in group.things if len(group.things) <= 42 else group.things[k % 7::7]:
                    self.paper_is_let(table, x, y)
                    self.same(class_paper(table, x, y)[0] == "same", y in group.classes[x])

    def test_each_kind_with_unlike_things_on_one_mover(self):
        for table in (samples.TWO, samples.TWIN, samples.PAIRED, samples.PARTED):
            self.words = []
            group = reference.group(table)
            for k, x in enumerate(group.things[::2]):
                for y in group.things[k % 11::11] + group.classes[x][::5]:
                    self.paper_is_let(table, x, y)
            self.same(sorted(set(self.words)), ["away", "mover", "same", "unlike"])

    def test_great_tables(self):
        for table in ALL:
            for k, x in enumerate(patterned(table)[::3] + samples.spread(table, 3)):
                for y in self.others(table, x, k):
                    self.paper_is_let(table, x, y)
        self.same(sorted(set(self.words)), ["away", "mover", "same", "unlike"])
        self.assertGreater(self.words.count("unlike"), 60)

    def others(self, table, x, k):
        """Things of the same class, and of others that are near to it."""
        turned = [turned_by(table, x, y) for y in samples.spread(table, 3, k)]
        found = turned + samples.spread(table, 2, k)
        for at, prime in enumerate(table[0]):
            y = turned[0]
            roots = [root for _, row in table[1] for q, root in row if q == prime]
            values = [y[at] + 1, 0, y[at] * 2] + [y[at] * root for root in roots]
            found.extend(y[:at] + (value % prime,) + y[at + 1:] for value in values)
        return found

    def test_all_papers_of_each_form(self):
        for table in samples.SMALL + (samples.TWO, samples.TWIN, samples.MIXED, samples.THREE, samples.PAIRED, samples.PARTED):
            things = patterned(table)[::3] + samples.spread(table, 3)
            for k, x in enumerate(things[::2]):
                y = turned_by(table, x, samples.spread(table, 1, k)[0])
                for late in [y] + self.others(table, x, k)[3::5]:
                    for paper in all_papers(table, x, late)[k % 2::2]:
                        self.judges(table, x, late, paper)

    def test_all_papers_in_great_tables(self):
        for table in samples.GREAT:
            for k, x in enumerate(patterned(table)[::9]):
                for y in self.others(table, x, k)[::7]:
                    for paper in all_papers(table, x, y)[k % 5::5]:
                        self.judges(table, x, y, paper)

    def test_any_value_as_the_paper(self):
        cases = ((samples.SIX, (0, 1), (0, 2)), (samples.SIX, (1, 0), (0, 1)), (samples.TWO, (0, 1, 1), (0, 2, 1)),
                 (samples.NONE, (), ()))
        for table, thing, other in cases:
            for value in wrong.any_values():
                self.judges(table, thing, other, value)
                for word in ("same", "mover", "away", "unlike", "", "Same", value):
                    self.judges(table, thing, other, (word, value))
                    self.judges(table, thing, other, [word, value])
                    self.judges(table, thing, other, (word, value, value))
                self.judges(table, thing, other, ("unlike", value, value, value))
                self.judges(table, thing, other, ("unlike", value, 7, 13))
                self.judges(table, thing, other, ("unlike", 3, value, 13))
                self.judges(table, thing, other, ("unlike", 3, 7, value))

    def test_each_change_of_a_paper(self):
        cases = ((samples.SIX, (0, 1), (0, 2)), (samples.SIX, (1, 0), (0, 1)), (samples.TWO, (0, 1, 1), (0, 2, 1)),
                 (samples.TWO, (0, 1, 1), (0, 3, 1)), (samples.MIXED, (0, 1, 1, 0, 4), (0, 1, 4, 6, 4)))
        for table, thing, other in cases:
            for value in wrong.changed(class_paper(table, thing, other)):
                self.judges(table, thing, other, value)

    def test_both_orders_and_both_ways(self):
        self.same(lets_class(samples.TWO, (0, 1, 1), (0, 2, 1), ("unlike", 3, 13, 7)), False)
        self.same(lets_class(samples.TWO, (0, 2, 1), (0, 1, 1), ("unlike", 3, 7, 13)), False)
        for paper in (("unlike", 3, 7, 7), ("unlike", 3, 13, 13), ("unlike", 7, 3, 13), ("unlike", 3, 3, 7)):
            self.raises(InvalidPaper, {"word": "unlike", "at": -1}, lets_class, samples.TWO, (0, 1, 1), (0, 2, 1), paper)

    def test_away_also_where_rests_at_movers_differ(self):
        table = samples.MIXED
        self.same(lets_class(table, (0, 1, 1, 0, 4), (1, 2, 2, 0, 5), ("away", 11)), False)
        self.same(lets_class(table, (0, 1, 1, 0, 4), (1, 2, 2, 0, 5), ("away", 5)), False)
        self.same(lets_class(table, (0, 1, 1, 0, 4), (1, 2, 0, 0, 4), ("away", 5)), False)
        # 7 is not free: the rest at 3, which moves it, is not 0.
        self.raises(InvalidPaper, {"word": "away", "at": -1}, lets_class, table, (0, 1, 1, 0, 4), (0, 1, 1, 3, 4),
                    ("away", 7))

    def test_the_word_of_what_is_no_turner(self):
        for value in (None, (), (0,), (0, 1), (2, 0), (True, 0), [1, 0], (0, 1, 0), "same", -1):
            self.raises(InvalidPaper, {"word": "turner", "at": -1}, lets_class, samples.SIX, (0, 1), (0, 2), ("same", value))
        for table in ALL:
            for x in patterned(table)[::5]:
                for y in self.others(table, x, 1)[::6]:
                    if not in_one_class(table, x, y):
                        self.raises(InvalidPaper, {"word": "turner", "at": -1}, lets_class, table, x, y, ("same", x))

    def test_wrong_inputs(self):
        takes = {"table": wrong.table, "thing": wrong.thing, "other": wrong.thing}
        args = {"table": samples.SIX, "thing": (0, 1), "other": (0, 2)}
        wrong.check_refusals(self, class_paper, args, takes)

        def judge(table, thing, other, paper):
            try:
                return lets_class(table, thing, other, paper)
            except InvalidPaper:
                return None

        args["paper"], takes["paper"] = ("same", (1, 0)), wrong.judged
        wrong.check_refusals(self, judge, args, takes)


if __name__ == "__main__":
    unittest.main()
