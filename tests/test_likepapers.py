"""Papers on tables that may be alike, and their checker ([81], (W2), (W3), (W4))."""

import itertools
import unittest

from tests import mapsamples, reference, samples, wrong
from tests.support import Case
from tests.test_likeness import beside, is_like, least_of, rows_apart
from whoacts.errors import InvalidPaper
from whoacts.likechecker import lets_alike
from whoacts.likeness import are_alike, likeness_of, power_between
from whoacts.likepapers import alike_paper
from whoacts.twisting import twisted_count
from whoacts.twistsapart import twist_apart

ALL = samples.SMALL + samples.MIDDLE[::2] + samples.GREAT + samples.DOCUMENT + (samples.PAIRED, samples.PARTED)
SIZES = {"alike": 2, "primes": 1, "web": 2, "row": 2, "twist": 2}
FOURS = ((3, 7, 13), ((3, ((7, 4), (13, 9))),))


def moved(table, value):
    return [q for q, _ in dict(table[1]).get(value, ())]


def judged(table, other, paper):
    """What the document says of a paper: True, False, or the word of InvalidPaper."""
    if type(paper) is not tuple or not paper or type(paper[0]) is not str or SIZES.get(paper[0]) != len(paper):
        return "shape"
    told = {"alike": tells_alike, "primes": tells_primes, "web": tells_web, "row": tells_row, "twist": tells_twist}
    return paper[0] == "alike" if told[paper[0]](table, other, *paper[1:]) else paper[0]


def tells_alike(table, other, images):
    if type(images) is not tuple or len(images) != len(table[0]):
        return False
    if not all(reference.is_thing(other, image) for image in images):
        return False
    return mapsamples.relations_hold(table, other, images) and table[0] == other[0] and reference.nought(other) not in images


def tells_primes(table, other):
    return table[0] != other[0]


def tells_web(table, other, mover):
    return table[0] == other[0] and reference.is_int(mover) and moved(table, mover) != moved(other, mover)


def tells_row(table, other, mover):
    if table[0] != other[0] or not reference.is_int(mover) or mover not in reference.movers(table):
        return False
    if moved(table, mover) != moved(other, mover):
        return False
    if mover < 400:
        return rows_apart(table, other, mover) is None
    return power_between(table, other, mover) is None


def tells_twist(table, other, r):
    if table[0] != other[0] or not reference.is_int(r) or not 0 <= r < reference.number(table):
        return False
    return twisted_count(table, r) != twisted_count(other, r)


def all_papers(table, other):
    """Papers of each form with each of the primes, with some maps, and some numbers."""
    primes = table[0] + other[0] + (0, 1, 4, 10007, -2, True, None)
    papers = [(word, prime) for word in ("web", "row") for prime in primes]
    numbers = [0, 1, 2, 16, reference.number(table) - 1, reference.number(table), 10**89, -1, True]
    if table[0] == other[0]:
        numbers.append(twist_apart(table, other))
        numbers.extend(k * root for k in (1, 7, 13) for _, row in table[1] for _, root in row)
    papers.extend(("twist", r) for r in numbers)
    papers.extend([("primes",), ("alike", reference.units(table)), ("alike", likeness_of(table, other))])
    papers.append(("alike", (reference.nought(other),) * len(table[0])))
    return papers


class Papers(Case):
    def judges(self, table, other, paper):
        """lets_alike tells of a paper what the document says."""
        expected = judged(table, other, paper)
        if isinstance(expected, str):
            self.raises(InvalidPaper, {"word": expected, "at": -1}, lets_alike, table, other, paper)
        else:
            self.same(lets_alike(table, other, paper), expected)

    def is_let(self, table, other, expected):
        """The paper of any two tables is as told, by the words of the document, and is let."""
        paper = alike_paper(other=other, table=table)
        self.assertIs(type(paper), tuple)
        self.same(judged(table, other, paper), expected, (table, other, paper))
        self.same(lets_alike(paper=paper, other=other, table=table), expected)
        return paper

    def test_all_pairs_of_small_tables(self):
        words = set()
        for table, other in itertools.product(samples.SMALL, repeat=2):
            maps = reference.all_maps(table, other).values()
            expected = any(len(set(told.values())) == len(told) == reference.number(other) for told in maps)
            words.add(self.is_let(table, other, expected)[0])
        self.assertTrue({"alike", "primes"} <= words)

    def test_all_tables_with_some_primes(self):
        words = set()
        for primes in ((3, 7, 13), (2, 3, 7), (2, 3, 11), (5, 11, 31)):
            tables = samples.all_tables(primes)
            for table in tables[::9] + tables[1::13]:
                for other in tables[::2]:
                    words.add(self.is_let(table, other, is_like(table, other))[0])
        self.assertTrue({"alike", "web", "row"} <= words)

    def test_great_tables(self):
        for table in ALL:
            for other in beside(table):
                alike = table[0] == other[0] and least_of(table) == least_of(other) and reference.web(
                    table) == reference.web(other)
                self.is_let(table, other, alike)
                self.same(are_alike(table, other), alike)
                for paper in all_papers(table, other):
                    self.judges(table, other, paper)

    def test_twists_of_small_tables_part_where_the_counts_differ(self):
        for tables in (samples.all_tables((2, 3, 7))[::2], samples.all_tables((2, 3)), samples.all_tables((3, 5, 7))):
            for table, other in itertools.product(tables, repeat=2):
                many = reference.number(table)
                counts = zip(reference.group(table).twisted(many), reference.group(other).twisted(many))
                for r, (count, late) in enumerate(counts):
                    if count != late:
                        self.same(lets_alike(table, other, ("twist", r)), False)
                    else:
                        self.raises(InvalidPaper, {"word": "twist", "at": -1}, lets_alike, table, other, ("twist", r))
                fields = {"word": "twist", "at": -1}
                for r in (many, many + 1, -1):
                    self.raises(InvalidPaper, fields, lets_alike, table, other, ("twist", r))

    def test_twists_of_two_and_twin(self):
        many = 273
        counts = zip(reference.group(samples.TWO).twisted(many), reference.group(samples.TWIN).twisted(many))
        apart = [r for r, (count, late) in enumerate(counts) if count != late]
        self.assertIn(16, apart)
        for r in range(many):
            self.same(judged(samples.TWO, samples.TWIN, ("twist", r)), False if r in apart else "twist")
            self.judges(samples.TWO, samples.TWIN, ("twist", r))
            self.judges(samples.TWO, FOURS, ("twist", r))

    def test_tables_with_unlike_primes(self):
        more = ((2, 3, 5), samples.SIX[1])
        for table, other in ((samples.SIX, more), (more, samples.SIX), (samples.SIX, samples.TWO), (samples.NONE, more)):
            self.same(lets_alike(table, other, ("primes",)), False)
            for word in ("web", "row", "twist"):
                for value in (0, 1, 2, 3, 5, 7, 16):
                    self.raises(InvalidPaper, {"word": word, "at": -1}, lets_alike, table, other, (word, value))
            for value in ((), reference.units(table), reference.units(other)):
                self.raises(InvalidPaper, {"word": "alike", "at": -1}, lets_alike, table, other, ("alike", value))
        self.raises(InvalidPaper, {"word": "primes", "at": -1}, lets_alike, samples.SIX, samples.SIX, ("primes",))
        self.raises(InvalidPaper, {"word": "primes", "at": -1}, lets_alike, samples.SIX, ((2, 3), ()), ("primes",))

    def test_webs(self):
        for table, other in ((samples.SIX, ((2, 3), ())), (((2, 3), ()), samples.SIX)):
            self.same(lets_alike(table, other, ("web", 2)), False)
            for value in (3, 5, 0, None, True, (2,), "2"):
                self.raises(InvalidPaper, {"word": "web", "at": -1}, lets_alike, table, other, ("web", value))
            self.raises(InvalidPaper, {"word": "row", "at": -1}, lets_alike, table, other, ("row", 2))
        for other in (((3, 7, 13), ((3, ((7, 2),)),)), ((3, 7, 13), ((3, ((13, 3),)),))):
            self.same(lets_alike(samples.TWO, other, ("web", 3)), False)
            self.raises(InvalidPaper, {"word": "row", "at": -1}, lets_alike, samples.TWO, other, ("row", 3))

    def test_maps_that_are_not_one_to_one(self):
        fields = {"word": "alike", "at": -1}
        for table in ALL:
            for first, other, images in mapsamples.some_maps(table):
                if first[0] != other[0] or reference.nought(other) in images:
                    self.raises(InvalidPaper, fields, lets_alike, first, other, ("alike", images))
                else:
                    self.same(lets_alike(first, other, ("alike", images)), True)

    def test_which_entry_comes_first(self):
        for paper, word in (
                (None, "shape"), ((), "shape"), ("primes", "shape"), (["primes"], "shape"), (("primes", 1), "shape"),
                (("alike",), "shape"), (("alike", (), ()), "shape"), (("web",), "shape"), (("row", 3, 3), "shape"),
                ((["row"], 3), "shape"), (("twist",), "shape"), (("same", 1), "shape"), ((True, 3), "shape"),
                (["row", 3], "shape"), (("Row", 3), "shape"), ((("row",), 3), "shape"),
                (("primes",), "primes"), (("alike", None), "alike"), (("alike", ((1, 0, 0), (0, 1, 0), (0, 0, 1))), "alike"),
                (("web", 3), "web"), (("web", [3]), "web"), (("row", 7), "row"), (("row", None), "row"), (("twist", 1), "twist"),
                (("twist", 16 + 273), "twist"), (("twist", -257), "twist"), (("twist", "16"), "twist")):
            self.same(judged(samples.TWO, samples.TWIN, paper), word)
            fields = {"word": word, "at": -1}
            self.raises(InvalidPaper, fields, lets_alike, samples.TWO, samples.TWIN, paper)
            self.raises(InvalidPaper, fields, lets_alike, paper=paper, other=samples.TWIN, table=samples.TWO)

    def test_any_value_as_the_paper(self):
        cases = ((samples.SIX, samples.SIX), (samples.TWO, samples.TWIN), (samples.SIX, ((2, 3), ())),
                 (samples.NONE, samples.NONE), (samples.SIX, samples.TWO))
        for table, other in cases:
            for value in wrong.any_values():
                self.judges(table, other, value)
                self.judges(table, other, (value,))
                for word in ("alike", "primes", "web", "row", "twist", "same", value):
                    self.judges(table, other, (word, value))
                    self.judges(table, other, [word, value])
                    self.judges(table, other, (word, value, value))
                self.judges(table, other, ("alike", (value,) * len(table[0])))
                self.judges(table, other, ("alike", reference.units(table)[:-1] + (value,)))

    def test_each_change_of_a_paper(self):
        cases = ((samples.SIX, samples.SIX), (samples.TWO, samples.TWIN), (samples.SIX, ((2, 3), ())), (samples.TWO, FOURS),
                 (samples.SIX, samples.TWO))
        for table, other in cases:
            for value in wrong.changed(alike_paper(table, other)):
                self.judges(table, other, value)
                for late in list(wrong.changed(value))[::30]:
                    self.judges(table, other, late)

    def test_wrong_inputs(self):
        takes = {"table": wrong.table, "other": wrong.other_table, "paper": wrong.judged}
        args = {"table": samples.SIX, "other": samples.TWO}
        wrong.check_refusals(self, alike_paper, args, takes)

        def judge(table, other, paper):
            try:
                return lets_alike(table, other, paper)
            except InvalidPaper:
                return None

        wrong.check_refusals(self, judge, {**args, "paper": ("primes",)}, takes)


if __name__ == "__main__":
    unittest.main()
