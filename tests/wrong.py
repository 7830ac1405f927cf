"""Any values, as [2] calls them, and what each parameter takes of them."""

from tests import reference
from tests.samples import MIXED, SIX, TWO


def nested_tuple(depth, inner=()):
    value = inner
    for _ in range(depth):
        value = (value,)
    return value


def nested_list(depth, inner=None):
    value = [] if inner is None else inner
    for _ in range(depth):
        value = [value]
    return value


def numbers():
    """Integers, up to ninety digits, and what could be taken for one."""
    return [0, 1, 2, 3, 4, 5, 7, 11, -1, -2, 9973, 10000, 10007, 10**89, 10**90 - 1, -(10**90) + 1,
            True, False, None]


def texts():
    return ["", " ", "-", "2", "3", "a", "2 3", "(2, 3)", "2\n3", "table", "word" * 1000]


def plain_tuples():
    return [(), (0,), (2,), (3,), (2, 3), (3, 2), (2, 2), (3, 3), (0, 0), (1, 2), (2, 1), (1, 3), (0, 0, 0),
            (-1, 0), (0, -1), (0, 3), (True, False), (False, 0), (0, False), (True, 2), (2, True), (1, True), (None, 1),
            (1, None), ("2", 3), (2, "3"), ("", ""), (1, "a", None, (2,), [3], True, -1), (4,), (2, 3, 4), (2, 7),
            (10**89, 0), (0, 10**89), (2, 10007), (0, 0, 0, 0, 0), (1, 1, 1, 1, 1), (2, 3, 5, 7, 11), (3, 7, 13)]


def lists():
    return [[], [0], [2], [2, 3], [0, 0], [1, 1], [3, 2], [[2, 3], []], [(), ()], [(2,), ((3, 1),)], [None],
            [(0, 0)], [2, [3, [1]]], [1, "a", None, (2,), [3], True], [SIX], list(SIX)]


def pairs():
    """Values with something of a table, of a part, of a web, or of things."""
    return [((), ()), ([], []), ((), []), ([], ()), ((2, 3), ()), ([2, 3], ()), ((2, 3), []), ((2, 3), (2,)),
            ((2, 3), ((2, ((3, 2),)),)), ((2, 3), ((2, ((3, True),)),)), ((2, 3), ((2, ((3, 1),)),)),
            ((2, 3), ((2, ()),)), ((2, 3), ([2, ((3, 2),)],)), ((2, 3), ((2, [(3, 2)]),)), ((2, 3), ((3, ((2, 1),)),)),
            ((2, 3, 7), ((2, ((3, 2),)), (3, ((7, 2),)))), ((3, 2), ()), ((2, 4), ()), ((True, 2), ()),
            ((2,), ((3, 0),)), ((2,), ((3, 1),)), ((2,), ((3, 3),)), ((2,), ((3, -1),)), ((2,), ((3, True),)),
            ((2,), ((3, None),)), ((2,), [(3, 1)]), ([2], ((3, 1),)), ((2,), ([3, 1],)), ((2,), ((3, 1), (3, 1))),
            ((2,), ((3, 1, 1),)), ((2,), ((2, 1),)), ((2,), ()), ((3,), ()), ((2, 3), ((3, 1),)), ((3,), ((3, 1),)),
            ((2,), ((5, 1),)), ((2,), ((7, 1), (5, 1))), ((2,), ((5, 1), (7, 1))), ((2,), ((5, 1), (7, 7))),
            ((3, 5, 11), ((7, 4),)), ((0, 0),), ((0, 0), (1, 2)), ((0, 0), [1, 2]), ((0, 0), (2, 0)), ((2, 3),),
            ((2, 3), (2, 7)), ((2, 7), (2, 3)), ((2, 3), (2, 3)), ((2, 3), (3, 7)), (((2, 3),),), ((2, 3), None),
            (None, None), ("2", "3"), (SIX, SIX), (SIX,), MIXED, TWO, ((2, 3), ((2, ((3, 2),)),), ())]


def great_values():
    """Values nested forty deep, long ones, and long ones that cannot be compared or hashed."""
    mixed = [0, "a", None, (1,), [2], True, -1, ((), [])]
    return [nested_tuple(39), nested_tuple(38, 2), nested_tuple(37, (2, 3)), nested_list(39), nested_list(38, 2),
            (nested_tuple(38), nested_list(38)), tuple(range(20000)), list(range(20000)), (0,) * 20000,
            (2,) * 20000, ((),) * 19999, tuple(mixed * 2400), mixed * 2400, ((2, 3),) * 6000, ([],) * 9000,
            ((0,) * 9000, ()), ((2, 3), ((),) * 9000), tuple(range(2, 20002))]


def any_values():
    """New values of all kinds, with each call."""
    return numbers() + texts() + plain_tuples() + lists() + pairs() + great_values()


def changed(value):
    """The value with each number in it, in turn, changed to others, and each tuple made a list, shortened or turned."""
    if isinstance(value, int):
        yield from (value + 1, value - 1, 0, 1, True, -value, None, str(value), [value], (value,), 10**89)
    if not isinstance(value, tuple):
        return
    yield list(value)
    yield value[:-1]
    yield value + value[-1:]
    yield value[::-1]
    for k, part in enumerate(value):
        for other in changed(part):
            yield value[:k] + (other,) + value[k + 1:]


# What a parameter takes: each is asked with the arguments ahead, a dict by name, and any value.

def table(_, value):
    return reference.is_table(value)


def prime(known, value):
    return reference.is_int(value) and value in known["table"][0]


def mover(known, value):
    return reference.is_int(value) and value in reference.movers(known["table"])


def primes(known, value):
    return reference.is_set_of(known["table"][0], value)


def thing(known, value):
    return reference.is_thing(known["table"], value)


def things(known, value):
    return type(value) is tuple and all(thing(known, each) for each in value)


def part(known, value):
    return reference.is_part(known["table"], value)


def parts(known, value):
    return type(value) is tuple and all(part(known, each) for each in value)


def whole_part(known, value):
    return part(known, value) and value[1] == ()


def integer(_, value):
    return reference.is_int(value)


def positive(_, value):
    return reference.is_int(value) and value > 0


def number(_, value):
    return reference.is_int(value) and value >= 0


def up_to_eight(_, value):
    return reference.is_int(value) and 0 <= value <= 8


def many(_, value):
    """None tells that a number is beyond the limit: such a call is neither refused nor has it an end."""
    return None if reference.is_int(value) and value > 40 else number(_, value)


def table_beside(known, value):
    return reference.is_table(value) and value[0] == known["table"][0]


def prime_set(_, value):
    return type(value) is tuple and len(value) <= 8 and reference.is_set_of(reference.PRIME_SET, value)


def web(known, value):
    return reference.is_web(known["primes"], value)


def numbers_each(known, value):
    return type(value) is tuple and len(value) == len(known["primes"]) and all(number(known, each) for each in value)


def set_of_sets(known, value):
    if type(value) is not tuple or not all(reference.is_set_of(known["primes"], each) for each in value):
        return False
    return sorted(set(value)) == list(value)


def set_of_pairs(_, value):
    if type(value) is not tuple or not all(type(pair) is tuple and len(pair) == 2 for pair in value):
        return False
    if not all(reference.is_int(each) and each > 0 for pair in value for each in pair):
        return False
    return sorted(set(value)) == list(value)


def other_table(_, value):
    return reference.is_table(value)


def images(known, value):
    return reference.tells_map(known["table"], known.get("other", known["table"]), value)


def late_images(known, value):
    return reference.tells_map(known["other"], known["third"], value)


def judged(_, value):
    return True


def check_refusals(case, call, args, takes):
    """Each wrong value at each parameter, alone and with wrong ones behind it, raises NotUsable of this parameter.

    args are values that can stand, by name and in order; takes tells for each name what it takes.
    """
    from whoacts.errors import NotUsable

    names = list(args)
    for at, name in enumerate(names):
        ahead = {key: args[key] for key in names[:at]}
        for value in any_values():
            given = [args[key] for key in names]
            given[at] = value
            taken = takes[name](ahead, value)
            if taken is None:
                continue
            if taken:
                check_taken(case, call, dict(zip(names, given)), name)
                continue
            fields = {"word": name, "at": -1}
            case.raises(NotUsable, fields, call, *given)
            case.raises(NotUsable, fields, call, **dict(zip(names, given)))
            for late in (None, [], True, (value,)):
                behind = given[:at + 1] + [late] * (len(names) - at - 1)
                case.raises(NotUsable, fields, call, *behind)


def is_refused(case, word, call, *args, **named):
    """The call raises NotUsable of this parameter."""
    from whoacts.errors import NotUsable

    case.raises(NotUsable, {"word": word, "at": -1}, call, *args, **named)


def check_refused_things(case, call, table, good):
    """Of things that are handed in one by one the first wrong one is told by its index, behind the table."""
    from whoacts.errors import NotUsable

    for value in any_values():
        if not reference.is_table(value):
            for things in ((), good, (None,), (value, value)):
                case.raises(NotUsable, {"word": "table", "at": -1}, call, value, *things)
        if reference.is_thing(table, value):
            call(table, *good, value)
            continue
        for k in range(len(good) + 1):
            for late in (good[k:], (None,), ([],) + good, (value, True)):
                case.raises(NotUsable, {"word": "things", "at": k}, call, table, *good[:k], value, *late)


def check_taken(case, call, given, name):
    """A value that can stand is not refused: at most, what stands behind it is."""
    from whoacts.errors import NotUsable

    try:
        call(**given)
    except NotUsable as caught:
        case.assertNotEqual(caught.word, name, given)
        behind = list(given)[list(given).index(name) + 1:]
        case.assertIn(caught.word, behind, given)
