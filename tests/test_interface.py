"""The interface: each name stands in its file, with its parameters in their order."""

import importlib
import inspect
import unittest

ERRORS = ("ActError PaperError TableError LiveError TextError InvalidPaper NotUsable InvalidEvent NothingToUndo "
          "InvalidText InvalidRow")
FUNCTIONS = {
    "kinds": "is_integer(value) is_number(value) is_prime(value) is_table(value) is_web(value)",
    "tablechecker": "lets_table(value)",
    "tableparts": "number_of(table) web_of(table) movers_of(table) moved_of(table) still_of(table) row_of(table,mover)",
    "tablechanges": "with_prime(table,prime) with_move(table,mover,moved,root) without_move(table,mover,moved) "
                    "powered(table,mover,k) cut_to(table,primes) joined(table,other) pieces_of(table)",
    "tabletexts": "table_text(table)",
    "tablereadings": "table_read(text)",
    "things": "is_thing(table,value) nought_of(table) product_of(table,*things) back_of(table,thing) "
              "power_of(table,thing,k) order_of(table,thing) factor_of(table,thing,prime)",
    "exchanging": "turned_by(table,thing,other) are_exchanged(table,thing,other) exchanger_of(table,thing,other)",
    "rooting": "root_count(table,thing,k) any_root(table,thing,k) nought_roots(table,k)",
    "orders": "things_of_order(table,primes) orders_of(table)",
    "parts": "is_part(table,value) size_of(table,part) holds(table,part,thing) things_of(table,part)",
    "partsmade": "part_of(table,things) meet_of(table,part,other) join_of(table,part,other) "
                 "turned_part(table,part,thing)",
    "wholeparts": "is_whole(table,part) core_of(table,part) hull_of(table,part) kept_by(table,part) "
                  "still_for(table,part)",
    "leftover": "left_of(table,part) image_of(table,part,thing) table_of_part(table,part) "
                "within_part(table,part,thing)",
    "partorders": "lies_in(table,part,other) part_turner(table,part,other) how_many_turned(table,part) "
                  "greatest_parts(table) chain_to(table,part)",
    "partpapers": "made_paper(table,things)",
    "partchecker": "lets_made(table,things,paper)",
    "classes": "class_size(table,thing) exchange_count(table,thing) in_one_class(table,thing,other) "
               "turner_of(table,thing,other) class_form(table,thing)",
    "classcounts": "class_count(table) classes_of(table) exchanged_pairs(table) chance_of(table) centre_primes(table)",
    "exchangerows": "exchanged_rows(table,k) exchanged_with(table,*things)",
    "twisting": "exchanger_pairs(table,thing) twisted_count(table,r)",
    "classpapers": "class_paper(table,thing,other)",
    "classchecker": "lets_class(table,thing,other,paper)",
    "counts": "part_count(table,primes) whole_count(table,primes) all_parts(table) all_whole(table) "
              "degrees_of(table) turning_count(table)",
    "allcounts": "counts_of(table) counts_alike(table,other) first_apart(table,other)",
    "toldback": "web_by_parts(primes,numbers) web_by_orders(primes,numbers) web_by_wholes(primes,numbers) "
                "web_by_sizes(primes,pairs) web_by_degrees(primes,pairs)",
    "twistsapart": "twist_apart(table,other)",
    "webcounts": "fits_web(primes,web) a_table(primes,web) unlike_count(primes,web) webs_of(primes) group_count(primes)",
    "making": "makes(table,things) rows_that_make(table,many) chance_to_make(table,many) fewest_makers(table) "
              "makers_of(table)",
    "rowsmake": "rows_in(table,part,many) rows_by_divisor(table,many)",
    "covering": "covers(table,parts) how_many_missed(table,parts) missed_thing(table,parts) cover_number(table) "
                "fewest_cover(table)",
    "makepapers": "makes_paper(table,things)",
    "makechecker": "lets_makes(table,things,paper) lets_covers(table,parts,paper)",
    "maps": "units_of(table) is_map(table,other,value)",
    "mapping": "mapped(table,other,images,thing) kernel_of(table,other,images) range_of(table,other,images) "
               "map_behind(table,other,third,images,late)",
    "likeness": "power_between(table,other,mover) are_alike(table,other) likeness_of(table,other) plain_of(table) "
                "all_plain(table)",
    "mapcounts": "how_many_maps(table,other) how_many_into(table,other) how_many_onto(table,other)",
    "partsalike": "parts_alike(table,other) part_alike(table,other)",
    "turnings": "turning_of(table,factors,shifts) told_turning(table,images) inner_by(table,thing) "
                "is_inner(table,images)",
    "likepapers": "alike_paper(table,other)",
    "likechecker": "lets_alike(table,other,paper)",
    "tableevents": "is_event(value)",
    "replaying": "is_log(value) replayed(log)",
    "eventtexts": "event_line(event) log_lines(log)",
    "eventreadings": "read_event(text) read_log(lines)",
}
CLASSES = {
    ("tableclasses", "Table", "(primes,*rows)"): {
        "read": "(text)", "table_now": None, "primes_now": None, "web_now": None, "__getitem__": "(at)",
        "__contains__": "(x)", "__iter__": "()", "__len__": "()", "__str__": "()", "__eq__": "(other)",
        "__and__": "(other)", "__or__": "(other)"},
    ("thingclasses", "Thing", "(table,rests)"): {
        "nought": "(table)", "table_now": None, "rests_now": None, "order_now": None, "raised": "(k)",
        "turned": "(other)", "__mul__": "(other)", "__neg__": "()", "__getitem__": "(at)", "__contains__": "(x)",
        "__iter__": "()", "__len__": "()", "__str__": "()", "__eq__": "(other)"},
    ("countclasses", "Counts", "(table)"): {
        "table_now": None, "counts_now": None, "web_now": None, "many": "()", "unlike": "()", "__getitem__": "(at)",
        "__iter__": "()", "__len__": "()", "__eq__": "(other)"},
    ("live", "LiveTable", "(table=((),()))"): {
        "table_now": None, "begun_now": None, "go": "(event)", "prime": "(p)", "move": "(p,q,root)", "drop": "(p,q)",
        "power": "(p,k)", "note": "(name)", "plain": "()", "chance": "()", "parts": "()", "turnings": "()",
        "twisted": "(r)", "table_then": "(name)", "alike_then": "(name)", "counts_then": "(name)", "barred": "(event)",
        "tried": "(*events)", "undo": "()", "do_all": "(*events,keep=False)", "tally": "()", "notes": "()", "log": "()",
        "__call__": "(event)", "__getitem__": "(at)", "__contains__": "(x)", "__iter__": "()", "__len__": "()",
        "__eq__": "(other)", "__str__": "()"},
    ("desk", "Desk", "()"): {"say": "(value)", "tally": "()"},
}


def parameters(call):
    return str(inspect.signature(call)).replace(" ", "")


class Interface(unittest.TestCase):
    def test_functions(self):
        for name, told in FUNCTIONS.items():
            module = importlib.import_module("whoacts." + name)
            for entry in told.split():
                word, _, rest = entry.partition("(")
                call = getattr(module, word)
                self.assertTrue(inspect.isfunction(call), entry)
                self.assertEqual(call.__module__, "whoacts." + name)
                self.assertEqual(parameters(call), "(" + rest)

    def test_errors(self):
        module = importlib.import_module("whoacts.errors")
        for word in ERRORS.split():
            self.assertTrue(inspect.isclass(getattr(module, word)))
            self.assertEqual(getattr(module, word).__module__, "whoacts.errors")

    def test_classes(self):
        for (name, word, told), methods in CLASSES.items():
            made = getattr(importlib.import_module("whoacts." + name), word)
            self.assertEqual(made.__module__, "whoacts." + name)
            self.assertEqual(parameters(made), told)
            for method, rest in methods.items():
                self.assertIn(method, vars(made))
                if rest is None:
                    self.assertIsInstance(vars(made)[method], property)
                else:
                    shown = parameters(getattr(made, method))
                    self.assertEqual(shown.replace("(self,", "(").replace("(self)", "()"), rest, (word, method))


if __name__ == "__main__":
    unittest.main()
