"""Papers of things that make the whole, and of covers, and their checkers ([70] [71], (W3))."""

import unittest

from tests import reference, samples, wrong
from tests.support import Case
from tests.test_covering import some_rows
from tests.test_parts import put_into, some_parts
from tests.test_partpapers import is_word, tells
from whoacts.covering import covers, fewest_cover, missed_thing
from whoacts.errors import InvalidPaper
from whoacts.makechecker import lets_covers, lets_makes
from whoacts.makepapers import makes_paper
from whoacts.making import makers_of, makes
from whoacts.partorders import greatest_parts

ALL = samples.SMALL + samples.MIDDLE + samples.GREAT + samples.DOCUMENT + (samples.PAIRED,)
SHAPE = {"word": "shape", "at": -1}


def judged_makes(table, things, paper):
    """What the document says of a paper: True, False, or the fields of InvalidPaper."""
    if type(paper) is not tuple or len(paper) != 2 or type(paper[0]) is not str:
        return SHAPE
    word, told = paper
    if word == "makes" and type(told) is tuple:
        if len(told) != len(table[0]):
            return {"word": "many", "at": -1}
        for k, each in enumerate(told):
            if not is_word(things, each) or not tells(table, things, each, table[0][k]):
                return {"word": "word", "at": k}
        return True
    if word == "within":
        if not reference.is_part(table, told) or told == (table[0], ()):
            return {"word": "part", "at": -1}
        for k, thing in enumerate(things):
            if not reference.holds(table, told, thing):
                return {"word": "out", "at": k}
        return False
    return SHAPE


def judged_covers(table, parts, paper):
    """What the document says of a paper on covers, for tables of which all things can be gone through."""
    if type(paper) is not tuple or not paper or type(paper[0]) is not str:
        return SHAPE
    if paper[0] == "covered" and len(paper) == 1:
        things = reference.all_things(table)
        if all(any(reference.holds(table, part, x) for part in parts) for x in things):
            return True
        return {"word": "covered", "at": -1}
    if paper[0] == "missed" and len(paper) == 2:
        if not reference.is_thing(table, paper[1]):
            return {"word": "missed", "at": -1}
        for k, part in enumerate(parts):
            if reference.holds(table, part, paper[1]):
                return {"word": "in", "at": k}
        return False
    return SHAPE


class Judging(Case):
    def agrees(self, call, expected, *args):
        if isinstance(expected, dict):
            self.raises(InvalidPaper, expected, call, *args)
        else:
            self.same(call(*args), expected)

    def judges(self, table, things, paper):
        """lets_makes tells of a paper what the document says."""
        self.agrees(lets_makes, judged_makes(table, things, paper), table, things, paper)

    def judges_cover(self, table, parts, paper):
        """lets_covers tells of a paper what the document says."""
        self.agrees(lets_covers, judged_covers(table, parts, paper), table, parts, paper)


class MakesPapers(Judging):
    def is_let(self, table, things):
        """The paper of any things is as told, by the words of the document, and is let."""
        paper = makes_paper(things=things, table=table)
        self.assertIs(type(paper), tuple)
        self.same(judged_makes(table, things, paper), makes(table, things), (table, things, paper))
        self.same(lets_makes(paper=paper, things=things, table=table), makes(table, things))
        self.same(paper[0], "makes" if makes(table, things) else "within")
        return paper

    def test_one_and_two_things_of_small_tables(self):
        for table in samples.SMALL + samples.MIDDLE[:3]:
            group = reference.group(table)
            for k, x in enumerate(group.things):
                self.same(self.is_let(table, (x,))[0] == "makes", len(group.closure((x,))) == len(group.things))
                for y in group.things[k % 7::7] if len(group.things) <= 42 else group.things[k % 31::31]:
                    got = self.is_let(table, (x, y))[0] == "makes"
                    self.same(got, len(group.closure((x, y))) == len(group.things))

    def test_great_tables(self):
        for table in ALL:
            self.same(self.is_let(table, makers_of(table))[0], "makes")
            for k in range(16):
                self.is_let(table, tuple(samples.spread(table, k % 6, k)))
            for part in some_parts(table)[:12]:
                self.is_let(table, tuple(put_into(table, part, x) for x in samples.spread(table, 4)))

    def test_things_of_one_greatest_part(self):
        for table in (samples.SIX, samples.MIXED, samples.THREE, samples.PAIRED, samples.TWO):
            for part in greatest_parts(table)[::3]:
                things = tuple(put_into(table, part, x) for x in samples.spread(table, 4))
                self.same(self.is_let(table, things)[0], "within")
                self.same(lets_makes(table, things, ("within", part)), False)

    def test_no_things(self):
        for table in ALL:
            paper = self.is_let(table, ())
            self.same(paper, ("makes", ()) if table[0] == () else ("within", ((), ())))
        self.same(lets_makes(samples.NONE, ((), ()), ("makes", ())), True)
        self.raises(InvalidPaper, {"word": "part", "at": -1}, lets_makes, samples.NONE, (), ("within", ((), ())))

    def test_other_papers(self):
        things = ((1, 2), (1, 0))
        for words in ((((0, 1),), ((1, 1), (0, 1))), (((1, -1),), ((0, 3), (1, 5))), (((0, 10**89 + 1),), ((0, 1), (1, 1)))):
            self.same(lets_makes(samples.SIX, things, ("makes", words)), True)
        for part in (((2,), ((3, 1),)), ((), ())):
            self.same(lets_makes(samples.SIX, ((0, 0), (0, 0)), ("within", part)), False)

    def test_which_entry_comes_first(self):
        things = ((1, 2), (1, 0))
        whole = ((2, 3), ())
        for paper, word, at in (
                (None, "shape", -1), ([], "shape", -1), ((), "shape", -1), (("makes",), "shape", -1), ("makes", "shape", -1),
                (["makes", ()], "shape", -1), (("makes", []), "shape", -1), (("makes", None), "shape", -1),
                (("makes", (), ()), "shape", -1), (("within",), "shape", -1), (("within", whole, ()), "shape", -1),
                ((("makes",), ()), "shape", -1), ((["within"], whole), "shape", -1), (("covered", ()), "shape", -1),
                ((True, ()), "shape", -1), ((None, ((2,), ((3, 1),))), "shape", -1), (("Makes", ()), "shape", -1),
                (("makes", ()), "many", -1), (("makes", (None,)), "many", -1), (("makes", (None,) * 3), "many", -1),
                (("makes", (None, None)), "word", 0), (("makes", (((0, 1),), None)), "word", 1),
                (("makes", (((0, 1),), ((0, 1),))), "word", 1), (("makes", (((0, 2),), ((0, 1), (1, 1)))), "word", 0),
                (("makes", (((2, 1),), None)), "word", 0), (("makes", (((-1, 1),), None)), "word", 0),
                (("makes", (((0, True),), None)), "word", 0), (("makes", (((False, 1),), None)), "word", 0),
                (("makes", ([(0, 1)], None)), "word", 0), (("makes", (([0, 1],), None)), "word", 0),
                (("within", whole), "part", -1), (("within", None), "part", -1), (("within", [(2,), ((3, 1),)]), "part", -1),
                (("within", ((2,), ())), "part", -1), (("within", ((2,), ((3, 3),))), "part", -1),
                (("within", ((2,), ((3, 1),))), "out", 1), (("within", ((2,), ((3, 2),))), "out", 0),
                (("within", ((), ())), "out", 0)):
            self.same(judged_makes(samples.SIX, things, paper), {"word": word, "at": at}, paper)
            self.raises(InvalidPaper, {"word": word, "at": at}, lets_makes, samples.SIX, things, paper)
            self.raises(InvalidPaper, {"word": word, "at": at}, lets_makes, paper=paper, things=things, table=samples.SIX)

    def test_each_change_of_a_paper(self):
        cases = ((samples.SIX, ((1, 2), (1, 0))), (samples.SIX, ((1, 2),)), (samples.SIX, ()), (samples.NONE, ((),)),
                 (samples.MIXED, makers_of(samples.MIXED)), (samples.TWO, ((1, 1, 1), (2, 1, 1))),
                 (samples.GREAT[0], makers_of(samples.GREAT[0])))
        for table, things in cases:
            for value in wrong.changed(makes_paper(table, things)):
                self.judges(table, things, value)
                for late in list(wrong.changed(value))[::160]:
                    self.judges(table, things, late)

    def test_any_value_as_the_paper(self):
        for table, things in ((samples.SIX, ((1, 2), (1, 0))), (samples.SIX, ()), (samples.NONE, ()), (samples.MIXED, ())):
            for value in wrong.any_values():
                self.judges(table, things, value)
                for word in ("makes", "within", "covered", "missed", value):
                    self.judges(table, things, (word, value))
                    self.judges(table, things, [word, value])
                    self.judges(table, things, (word, value, value))
                self.judges(table, things, ("makes", (value,) * len(table[0])))
                self.judges(table, things, ("makes", ((value,),) * len(table[0])))
                self.judges(table, things, ("makes", (((0, value),),) * len(table[0])))
                self.judges(table, things, ("makes", (((value, 1),),) * len(table[0])))
                self.judges(table, things, ("within", (value, ())))
                self.judges(table, things, ("within", ((2,), value)))

    def test_wrong_inputs(self):
        takes = {"table": wrong.table, "things": wrong.things, "paper": wrong.judged}
        args = {"table": samples.SIX, "things": ((1, 1), (0, 2))}
        wrong.check_refusals(self, makes_paper, args, takes)

        def judge(table, things, paper):
            try:
                return lets_makes(table, things, paper)
            except InvalidPaper:
                return None

        wrong.check_refusals(self, judge, dict(args, paper=("within", ((), ()))), takes)


class CoverPapers(Judging):
    def test_small_tables(self):
        for table in samples.SMALL + (samples.WIDE,):
            for parts in some_rows(table, 12):
                self.judges_cover(table, parts, ("covered",))
                for thing in samples.spread(table, 6) + [reference.nought(table)]:
                    self.judges_cover(table, parts, ("missed", thing))

    def test_great_tables(self):
        for table in ALL:
            for parts in some_rows(table, 18):
                thing = missed_thing(table, parts)
                if thing is None:
                    self.same(lets_covers(table, parts, ("covered",)), True)
                    self.same(covers(table, parts), True)
                else:
                    self.same(lets_covers(paper=("missed", thing), parts=parts, table=table), False)
                    self.raises(InvalidPaper, {"word": "covered", "at": -1}, lets_covers, table, parts, ("covered",))
                for other in samples.spread(table, 3):
                    held = [k for k, part in enumerate(parts) if reference.holds(table, part, other)]
                    if held:
                        fields = {"word": "in", "at": held[0]}
                        self.raises(InvalidPaper, fields, lets_covers, table, parts, ("missed", other))
                    else:
                        self.same(lets_covers(table, parts, ("missed", other)), False)

    def test_fewest_covers(self):
        for table in samples.SMALL + (samples.MIXED, samples.TWO, samples.GREAT[6]):
            parts = fewest_cover(table)
            if parts is not None:
                self.same(lets_covers(table, parts, ("covered",)), True)
                fields = {"word": "covered", "at": -1}
                self.raises(InvalidPaper, fields, lets_covers, table, parts[1:], ("covered",))

    def test_no_parts_and_no_primes(self):
        self.same(lets_covers(samples.SIX, (), ("missed", (0, 0))), False)
        self.raises(InvalidPaper, {"word": "covered", "at": -1}, lets_covers, samples.SIX, (), ("covered",))
        self.same(lets_covers(samples.NONE, (), ("missed", ())), False)
        self.same(lets_covers(samples.NONE, (((), ()),), ("covered",)), True)

    def test_which_entry_comes_first(self):
        parts = (((2,), ((3, 1),)), ((3,), ()), ((2,), ((3, 2),)))
        for paper, word, at in (
                (None, "shape", -1), ((), "shape", -1), ("covered", "shape", -1), (["covered"], "shape", -1),
                (("covered", None), "shape", -1), (("missed",), "shape", -1), (("missed", (1, 0), 1), "shape", -1),
                ((("covered",),), "shape", -1), ((["missed"], (1, 0)), "shape", -1), (("within", ((), ())), "shape", -1),
                ((True,), "shape", -1), (("Covered",), "shape", -1), (["missed", (1, 0)], "shape", -1),
                (("covered",), "covered", -1), (("missed", None), "missed", -1), (("missed", [1, 0]), "missed", -1),
                (("missed", (2, 0)), "missed", -1), (("missed", (True, 0)), "missed", -1), (("missed", ()), "missed", -1),
                (("missed", (0, 0)), "in", 0), (("missed", (1, 2)), "in", 0), (("missed", (0, 2)), "in", 1),
                (("missed", (1, 1)), "in", 2)):
            self.same(judged_covers(samples.SIX, parts, paper), {"word": word, "at": at}, paper)
            self.raises(InvalidPaper, {"word": word, "at": at}, lets_covers, samples.SIX, parts, paper)
            self.raises(InvalidPaper, {"word": word, "at": at}, lets_covers, paper=paper, parts=parts, table=samples.SIX)
        self.same(lets_covers(samples.SIX, parts, ("missed", (1, 0))), False)

    def test_any_value_as_the_paper(self):
        cases = ((samples.SIX, (((2,), ((3, 1),)), ((3,), ()))), (samples.SIX, ()), (samples.NONE, ()),
                 (samples.SIX, fewest_cover(samples.SIX)))
        for table, parts in cases:
            for value in wrong.any_values():
                self.judges_cover(table, parts, value)
                self.judges_cover(table, parts, (value,))
                for word in ("covered", "missed", "makes", value):
                    self.judges_cover(table, parts, (word, value))
                    self.judges_cover(table, parts, [word, value])
                    self.judges_cover(table, parts, (word, value, value))

    def test_each_change_of_a_paper(self):
        parts = (((2,), ((3, 1),)), ((3,), ()))
        for paper in (("missed", (1, 0)), ("covered",), ("missed", (1, 1))):
            for value in wrong.changed(paper):
                self.judges_cover(samples.SIX, parts, value)
                for late in list(wrong.changed(value))[::7]:
                    self.judges_cover(samples.SIX, parts, late)

    def test_wrong_inputs(self):
        def judge(table, parts, paper):
            try:
                return lets_covers(table, parts, paper)
            except InvalidPaper:
                return None

        takes = {"table": wrong.table, "parts": wrong.parts, "paper": wrong.judged}
        args = {"table": samples.SIX, "parts": (((2,), ((3, 1),)), ((3,), ())), "paper": ("missed", (1, 0))}
        wrong.check_refusals(self, judge, args, takes)


if __name__ == "__main__":
    unittest.main()
