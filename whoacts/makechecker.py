"""The checkers of papers that tell whether things make the whole, and whether parts cover it."""

from whoacts.coverwork import count_missed
from whoacts.errors import InvalidPaper
from whoacts.kinds import is_pair
from whoacts.paperwork import word_of
from whoacts.partneeds import is_part_of, need_tuple_of_parts
from whoacts.partwork import first_outside, has_thing
from whoacts.tableneeds import need_table
from whoacts.thingneeds import is_thing_of, need_tuple_of_things
from whoacts.wordwork import words_fault


def lets_makes(table, things, paper):
    """Return whether the things make the whole, as a paper tells it.

    InvalidPaper tells why any other value is no such paper.
    """
    need_table(table)
    need_tuple_of_things(table, things)
    fault = makes_fault(table, things, paper)
    if fault is not None:
        word, at = fault
        raise InvalidPaper(word, at)
    return paper[0] == "makes"


def makes_fault(table, things, paper):
    """Return the word and the place of the first thing by which any value is no paper on these things, or None."""
    word = word_of(paper)
    if word == "makes" and is_pair(paper) and isinstance(paper[1], tuple):
        return words_fault(table, things, table[0], paper[1])
    if word == "within" and is_pair(paper):
        return within_fault(table, things, paper[1])
    return ("shape", -1)


def within_fault(table, things, value):
    """Return the first fault of any value as a part, not of all things, that holds these things, or None."""
    if not is_part_of(table, value) or value[0] == table[0]:
        return ("part", -1)
    outside = first_outside(table, value, things)
    return None if outside is None else ("out", outside)


def lets_covers(table, parts, paper):
    """Return whether the parts have all things together, as a paper tells it.

    InvalidPaper tells why any other value is no such paper.
    """
    need_table(table)
    need_tuple_of_parts(table, parts)
    fault = covers_fault(table, parts, paper)
    if fault is not None:
        word, at = fault
        raise InvalidPaper(word, at)
    return paper[0] == "covered"


def covers_fault(table, parts, paper):
    """Return the word and the place of the first thing by which any value is no paper on these parts, or None."""
    word = word_of(paper)
    if word == "covered" and len(paper) == 1:
        return None if count_missed(table, parts) == 0 else ("covered", -1)
    if word == "missed" and is_pair(paper):
        return missed_fault(table, parts, paper[1])
    return ("shape", -1)


def missed_fault(table, parts, value):
    """Return the first fault of any value as a thing that none of these parts has, or None."""
    if not is_thing_of(table, value):
        return ("missed", -1)
    for k, part in enumerate(parts):
        if has_thing(table, part, value):
            return ("in", k)
    return None
