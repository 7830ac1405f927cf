"""Tables written and read ([19] [20])."""

import itertools
import re
import unittest

from tests import reference, samples, wrong
from tests.support import Case
from whoacts.errors import InvalidText, NotUsable
from whoacts.tablereadings import table_read
from whoacts.tabletexts import table_text

TABLES = samples.SMALL + samples.MIDDLE + samples.GREAT + samples.DOCUMENT
NUMBER = "(0|[1-9][0-9]*)"


def written(table):
    words = [str(prime) for prime in table[0]]
    for mover, row in table[1]:
        words += ["/", str(mover) + ":"] + [str(moved) + "^" + str(root) for moved, root in row]
    return " ".join(words) or "-"


def told(ahead):
    """The primes, and the movers with what they move, that standing words tell."""
    primes = [int(word) for word in ahead if re.fullmatch(NUMBER, word)]
    rows = []
    for word in ahead:
        if word.endswith(":"):
            rows.append((int(word[:-1]), []))
        elif "^" in word:
            rows[-1][1].append(int(word.split("^")[0]))
    return primes, rows


def stands(ahead, word):
    """Whether a word can stand behind words that stand, as [20] says."""
    if not ahead:
        return word == "-" or reference.is_prime(number(word))
    if ahead[0] == "-":
        return False
    primes, rows = told(ahead)
    last = ahead[-1]
    if last == "/":
        if not re.fullmatch(NUMBER + ":", word):
            return False
        mover = int(word[:-1])
        movers = [row[0] for row in rows]
        return mover in primes and not any(mover <= other for other in movers) \
            and not any(mover in row[1] for row in rows) \
            and any(q != mover and q not in movers and (q - 1) % mover == 0 for q in primes)
    if word == "/":
        return not last.endswith(":")
    if not rows:
        return "/" not in ahead and reference.is_prime(number(word)) and number(word) > primes[-1]
    match = re.fullmatch(NUMBER + r"\^" + NUMBER, word)
    if not match:
        return False
    moved, root = int(match.group(1)), int(match.group(2))
    mover, row = rows[-1]
    return moved in primes and moved not in [other for other, _ in rows] and not any(moved <= q for q in row) \
        and 1 < root < moved and pow(root, mover, moved) == 1


def number(word):
    return int(word) if re.fullmatch(NUMBER, word) and len(word) < 100 else None


def fault_in(text):
    """The field of InvalidText for any string, or None."""
    words = text.split(" ")
    for field, word in enumerate(words):
        if not stands(words[:field], word):
            return field
    if words[-1] == "/" or words[-1].endswith(":"):
        return len(words)
    return None


class Texts(Case):
    def judged(self, text):
        field = fault_in(text)
        if field is not None:
            self.raises(InvalidText, {"line": 0, "field": field}, table_read, text)
            return
        table = table_read(text)
        self.same(table_text(table), text)
        self.assertTrue(reference.is_table(table), text)

    def refused(self, text, field):
        self.same(fault_in(text), field, text)
        self.raises(InvalidText, {"line": 0, "field": field}, table_read, text)
        self.raises(InvalidText, {"line": 0, "field": field}, table_read, text=text)

    def test_written_and_read(self):
        for table in TABLES:
            self.same(table_text(table), written(table))
            self.same(table_text(table=table), written(table))
            self.same(table_read(written(table)), table)
            self.same(table_read(text=written(table)), table)

    def test_more_than_eight_primes(self):
        primes = tuple(reference.PRIMES[:200])
        table = (primes, ((2, tuple((q, q - 1) for q in primes[1:])),))
        self.assertLess(len(written(table)), 4000)
        self.same(table_read(table_text(table)), table)

    def test_the_empty_table(self):
        self.same([table_text(samples.NONE), table_read("-")], ["-", ((), ())])
        self.refused("", 0)
        for text in ("- ", "- -", "- 2", "- /", "-  "):
            self.refused(text, 1)
        for text in ("--", "-2", " -", "-\n", " "):
            self.refused(text, 0)
        for text in ("2 -", "2 3 -"):
            self.refused(text, len(text.split(" ")) - 1)

    def test_primes(self):
        for word in ("0", "1", "4", "9", "02", "+2", "-2", "2\n", "\n2", "2.", "2,", "a", "10007", "9" * 100, "9" * 3900,
                     "0002", "00", "2_3", "2:", "3^2", "/", "two", "2\n3", "2/", "9999"):
            self.refused(word, 0)
            self.refused(f"{word} 3", 0)
            self.refused(f"2 {word}", 1) if word != "/" else self.refused("2 /", 2)
        self.refused("3 2", 1)
        self.refused("3 3", 1)
        self.refused("2 3 7 5 11", 3)
        self.refused("2  3", 1)
        self.refused("2 ", 1)
        self.refused(" 2", 0)
        self.same([table_read("2"), table_read("2 9973")], [((2,), ()), ((2, 9973), ())])

    def test_a_break_stands_behind_a_prime_and_behind_a_row(self):
        self.refused("/ 2:", 0)
        self.refused("2 /", 2)
        self.refused("2 3 /", 3)
        self.refused("2 3 / ", 3)
        self.refused("2 3 / / 2:", 3)
        self.refused("2 3 / 2: /", 4)
        self.refused("2 3 / 2: 3^2 /", 6)
        self.refused("2 3 / 2: 3^2 / /", 6)
        self.refused("2 3 / 2: 3^2 / 2:", 6)

    def test_movers(self):
        for word in ("2", ":", "3:", "02:", "2;", "2::", "5:", "2:3^2", "4:", "a:", ":2", "2 :", "-2:", "", "2:\n", "3^2",
                     "-", "0:", "1:", "+2:", "9" * 3000 + ":"):
            self.refused(f"2 3 / {word}", 3)
            self.refused(f"2 3 / {word} 3^2", 3)
        self.refused("3 5 / 3: 5^2", 3)
        self.refused("2 3 5 7 / 3: 7^2 / 2: 3^2", 8)
        self.refused("2 3 7 / 2: 3^2 7^6 / 2: 3^2", 8)
        self.refused("2 3 7 / 2: 3^2 / 3: 7^2", 7)
        self.refused("2 3 7 / 2: 7^6 / 7: 3^2", 7)
        self.refused("2 / 2:", 2)
        self.same(table_read("2 3 7 / 2: 7^6 / 3: 7^2"), ((2, 3, 7), ((2, ((7, 6),)), (3, ((7, 2),)))))

    def test_a_word_is_missing_behind_a_mover(self):
        self.refused("2 3 / 2:", 4)
        self.refused("2 3 / 2: ", 4)
        self.refused("2 3 7 / 2: 3^2 / 3:", 7)

    def test_rows(self):
        for word in ("3", "3^", "^2", "3^1", "3^0", "3^3", "3^02", "03^2", "3^2^2", "3 ^2", "3^-1", "5^4", "2^1", "3^2\n",
                     "3^5", "a^2", "3^a", "3*2", "^", "3:2", "3^" + "9" * 3000, "9" * 3000 + "^2", "", "2:", "-"):
            self.refused(f"2 3 / 2: {word}", 4)
            self.refused(f"2 3 / 2: {word} /", 4)
        self.refused("2 3 7 / 2: 7^6 3^2", 6)
        self.refused("2 3 7 / 2: 7^6 7^6", 6)
        self.refused("2 3 7 / 2: 3^2 ", 6)
        self.refused("2 3 5 7 / 2: 3^2 5^4 7^5", 8)
        self.refused("2 3 5 7 / 3: 5^2", 6)
        self.refused("2 3 7 / 2: 7^6 / 3: 7^6", 8)

    def test_all_short_texts(self):
        """All texts of these words, up to the first word that cannot stand and some behind it."""
        words = ["2", "3", "5", "7", "4", "/", "2:", "3:", "5:", "7:", "3^2", "5^4", "7^6", "7^2", "7^4", "3^1", "-", ""]
        late = [[]]
        seen = 0
        while late:
            longer = []
            for ahead, word in itertools.product(late, words):
                text = " ".join(ahead + [word])
                self.judged(text)
                seen += 1
                if stands(ahead, word):
                    longer.append(ahead + [word])
                else:
                    self.refused(text + " 3^2 / 2:", len(ahead))
            late = longer
        self.assertGreater(seen, 2000)

    def test_each_change_of_one_character(self):
        for text in ("2 3 / 2: 3^2", "2 3 5 7 11 / 2: 5^4 7^6 / 3: 7^2", "-", "3 7 13 / 3: 7^2 13^3"):
            for k in range(len(text) + 1):
                for sign in " -/:^0123479a\n":
                    self.judged(text[:k] + sign + text[k:])
                    self.judged(text[:k] + sign + text[k + 1:])
                self.judged(text[:k] + text[k + 1:])
                self.judged(text[:k])

    def test_each_character_as_a_word_and_in_a_word(self):
        for sign in [chr(code) for code in range(32, 127) if chr(code) != "%"] + ["\n"]:
            for text in ("{}", "2{}", "{}2", "2 {}", "2 3{}", "2 3 / {}", "2 3 / 2{}", "2 3 / 2: {}", "2 3 / 2: 3{}2",
                         "2 3 / 2: 3^{}", "2 3 / 2: {}^2", "2 3 / 2: 3^2{}", "2 3 / 2: 3^2 {}", "{}2 3", "2{}3"):
                self.judged(text.replace("{}", sign))

    def test_all_words_taken_out_doubled_or_changed_in_place(self):
        for text in ("2 3 5 7 11 / 2: 5^4 7^6 / 3: 7^2", "2 3 7 13 / 2: 3^2 7^6", "5 11 31 / 5: 11^3 31^2"):
            words = text.split(" ")
            for k in range(len(words)):
                self.judged(" ".join(words[:k] + words[k + 1:]))
                self.judged(" ".join(words[:k] + words[k:k + 1] + words[k:]))
                for late in range(k):
                    swapped = list(words)
                    swapped[k], swapped[late] = swapped[late], swapped[k]
                    self.judged(" ".join(swapped))

    def test_wrong_inputs(self):
        wrong.check_refusals(self, table_text, {"table": samples.MIXED}, {"table": wrong.table})
        for value in wrong.any_values():
            if isinstance(value, str):
                self.judged(value)
            else:
                self.raises(NotUsable, {"word": "text", "at": -1}, table_read, value)
                self.raises(NotUsable, {"word": "text", "at": -1}, table_read, text=value)


if __name__ == "__main__":
    unittest.main()
