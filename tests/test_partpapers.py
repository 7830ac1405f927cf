"""Papers of parts, and their checker ([40] [41], (W3))."""

import unittest

from tests import reference, samples, wrong
from tests.support import Case
from tests.test_parts import put_into, some_parts
from whoacts.errors import InvalidPaper
from whoacts.partchecker import lets_made
from whoacts.partpapers import made_paper
from whoacts.partsmade import part_of

ALL = samples.SMALL + samples.MIDDLE + samples.GREAT + samples.DOCUMENT + (samples.PAIRED,)


def judged(table, things, paper):
    """What the document says of a paper: a number, or the fields of InvalidPaper."""
    if type(paper) is not tuple or len(paper) != 2 or type(paper[1]) is not tuple:
        return {"word": "shape", "at": -1}
    part, words = paper
    if not reference.is_part(table, part):
        return {"word": "part", "at": -1}
    for k, thing in enumerate(things):
        if not reference.holds(table, part, thing):
            return {"word": "out", "at": k}
    if len(words) != len(part[0]):
        return {"word": "many", "at": -1}
    for k, word in enumerate(words):
        if not is_word(things, word) or not tells(table, things, word, part[0][k]):
            return {"word": "word", "at": k}
    return reference.number((part[0], ()))


def is_word(things, word):
    if type(word) is not tuple or not all(type(step) is tuple and len(step) == 2 for step in word):
        return False
    return all(reference.is_int(at) and 0 <= at < len(things) and reference.is_int(power) for at, power in word)


def tells(table, things, word, prime):
    total = reference.nought(table)
    for at, power in word:
        total = reference.times(table, total, reference.integer_power(table, things[at], power))
    return reference.is_order_divided(table, total, prime)


class Papers(Case):
    def judges(self, table, things, paper):
        """lets_made tells of a paper what the document says."""
        expected = judged(table, things, paper)
        if isinstance(expected, dict):
            self.raises(InvalidPaper, expected, lets_made, table, things, paper)
        else:
            self.same(lets_made(table, things, paper), expected)

    def is_let(self, table, things):
        """The made paper of things is as told, by the words of the document, and is let."""
        paper = made_paper(table, things)
        self.same(judged(table, things, paper), reference.number((paper[0][0], ())))
        self.same(paper[0], part_of(table, things))
        self.same([type(paper), len(paper), type(paper[1])], [tuple, 2, tuple])
        self.same(lets_made(table, things, paper), reference.number((paper[0][0], ())))
        self.assertTrue(all(abs(power) < 10**40 for word in paper[1] for _, power in word))
        return paper

    def test_one_and_two_things_of_small_tables(self):
        for table in samples.SMALL + samples.MIDDLE[:4]:
            group = reference.group(table)
            self.is_let(table, ())
            for k, x in enumerate(group.things):
                self.same(lets_made(table, (x,), self.is_let(table, (x,))), len(group.closure((x,))))
                for y in group.things[k % 5::5] if len(group.things) <= 42 else group.things[k % 31::31]:
                    self.same(lets_made(table, (x, y), self.is_let(table, (x, y))), len(group.closure((x, y))))

    def test_great_tables(self):
        for table in ALL:
            for k in range(30):
                self.is_let(table, tuple(samples.spread(table, k % 6, k)))
            for part in some_parts(table)[:25]:
                things = tuple(put_into(table, part, x) for x in samples.spread(table, 4))
                self.is_let(table, things)
                self.is_let(table, things[:2] * 4)

    def test_things_of_which_each_has_another_spot(self):
        # No thing alone has an order that a moved prime divides.
        for table in samples.GREAT[:4] + (samples.MIXED, samples.THREE, samples.PAIRED):
            movers = reference.movers(table)
            for k in range(12):
                things = [tuple(1 + rest % (prime - 1) if prime in movers else rest for prime, rest in zip(table[0], x))
                          for x in samples.spread(table, 3, k)]
                paper = self.is_let(table, tuple(things))
                moved = set(reference.moved_ones(table)) & set(paper[0][0])
                self.assertTrue(k > 0 or moved)

    def test_no_things_and_nought_alone(self):
        for table in ALL:
            nought = reference.nought(table)
            self.same(made_paper(table=table, things=()), (((), ()), ()))
            self.same(made_paper(table, (nought,) * 3), (((), ()), ()))
            self.same(lets_made(table=table, things=(), paper=(((), ()), ())), 1)
            self.same(lets_made(table, (nought, nought), (((), ()), ())), 1)

    def test_other_papers_of_the_same_part(self):
        things = ((1, 2), (1, 0))
        for words in ((((0, 1),), ((1, 1), (0, 1))), (((1, -1),), ((0, 3), (1, 5))), (((0, 10**89 + 1),), ((0, 1), (1, 1))),
                      (((0, 1), (0, 0), (1, 2)), ((0, 1), (1, 1), (0, 2)))):
            self.same(lets_made(samples.SIX, things, (((2, 3), ()), words)), 6)

    def test_each_change_of_a_paper(self):
        cases = ((samples.SIX, ((1, 2), (1, 0))), (samples.SIX, ((1, 2),)), (samples.SIX, ()),
                 (samples.MIXED, ((0, 1, 0, 3, 4), (1, 0, 0, 3, 4))), (samples.TWO, ((1, 1, 1), (2, 1, 1))),
                 (samples.NONE, ((),)), (samples.GREAT[0], tuple(samples.spread(samples.GREAT[0], 2))))
        for table, things in cases:
            paper = made_paper(table, things)
            for value in wrong.changed(paper):
                self.judges(table, things, value)
                for late in list(wrong.changed(value))[::160]:
                    self.judges(table, things, late)

    def test_any_value_as_the_paper(self):
        for table, things in ((samples.SIX, ((1, 2), (1, 0))), (samples.SIX, ()), (samples.NONE, ()), (samples.MIXED, ())):
            for value in wrong.any_values():
                self.judges(table, things, value)
                self.judges(table, things, (value, ()))
                self.judges(table, things, (((), ()), value))
                self.judges(table, things, ((table[0], ()), (value,) * len(table[0])))
                self.judges(table, things, ((table[0], ()), ((value,),) * len(table[0])))
                self.judges(table, things, ((table[0], ()), (((0, value),),) * len(table[0])))
                self.judges(table, things, ((table[0], ()), (((value, 1),),) * len(table[0])))

    def test_which_entry_comes_first(self):
        things = ((1, 2), (1, 0))
        whole = ((2, 3), ())
        for paper, word, at in (
                ([whole, ()], "shape", -1), ((whole, [()]), "shape", -1), ((whole,), "shape", -1), (None, "shape", -1),
                ((whole, (), ()), "shape", -1), ((((2, 3), ((3, 1),)), ()), "part", -1), (([2, 3], ()), "part", -1),
                ((((2,), ((3, 1),)), ()), "out", 1), ((((2,), ((3, 2),)), ()), "out", 0), ((((), ()), (1,)), "out", 0),
                ((whole, ()), "many", -1), ((whole, (None,)), "many", -1), ((whole, (None, None, None)), "many", -1),
                ((whole, (None, None)), "word", 0), ((whole, (((0, 1),), None)), "word", 1),
                ((whole, (((0, 1),), ((0, 1),))), "word", 1), ((whole, (((0, 2),), ((0, 1), (1, 1)))), "word", 0),
                ((whole, ((), ((0, 1), (1, 1)))), "word", 0), ((whole, (((2, 1),), None)), "word", 0),
                ((whole, (((-1, 1),), None)), "word", 0), ((whole, (((0, True),), None)), "word", 0),
                ((whole, (((False, 1),), None)), "word", 0), ((whole, (((0, 1, 1),), None)), "word", 0),
                ((whole, (([0, 1],), None)), "word", 0), ((whole, ([(0, 1)], None)), "word", 0)):
            self.same(judged(samples.SIX, things, paper), {"word": word, "at": at})
            self.raises(InvalidPaper, {"word": word, "at": at}, lets_made, samples.SIX, things, paper)
            self.raises(InvalidPaper, {"word": word, "at": at}, lets_made, paper=paper, things=things, table=samples.SIX)

    def test_a_greater_part_is_not_let(self):
        for table in ALL:
            for k in range(6):
                things = tuple(samples.spread(table, 2, k))
                part, words = made_paper(table, things)
                if part[0] == table[0]:
                    continue
                self.judges(table, things, ((table[0], ()), words))
                self.judges(table, things, ((table[0], ()), words + (((0, 1),),) * (len(table[0]) - len(words))))

    def test_wrong_inputs(self):
        takes = {"table": wrong.table, "things": wrong.things, "paper": wrong.judged}
        args = {"table": samples.SIX, "things": ((1, 1), (0, 2))}
        wrong.check_refusals(self, made_paper, args, takes)

        def judge(table, things, paper):
            try:
                return lets_made(table, things, paper)
            except InvalidPaper:
                return None

        wrong.check_refusals(self, judge, dict(args, paper=(((), ()), ())), takes)


if __name__ == "__main__":
    unittest.main()
