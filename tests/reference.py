"""The definitions of the document, as they stand there, gone through without any closed form."""

import functools
import itertools


def sieve(end):
    """All primes below end."""
    marks = [True] * end
    primes = []
    for number in range(2, end):
        if marks[number]:
            primes.append(number)
            for multiple in range(number * number, end, number):
                marks[multiple] = False
    return primes


PRIMES = sieve(10000)
PRIME_SET = frozenset(PRIMES)


def is_int(value):
    return type(value) is int


def is_prime(value):
    return is_int(value) and value in PRIME_SET


def is_set_of(primes, value):
    """Whether a value is an ascending tuple of some of these primes."""
    if type(value) is not tuple or not all(is_int(prime) and prime in primes for prime in value):
        return False
    return sorted(set(value)) == list(value)


def is_table(value):
    """Whether a value is a table, as [3] says."""
    if type(value) is not tuple or len(value) != 2 or not all(type(half) is tuple for half in value):
        return False
    primes, moves = value
    if not all(is_prime(prime) for prime in primes) or list(primes) != sorted(set(primes)):
        return False
    if not all(type(move) is tuple and len(move) == 2 and is_int(move[0]) for move in moves):
        return False
    movers = [move[0] for move in moves]
    if movers != sorted(set(movers)) or not set(movers) <= set(primes):
        return False
    return all(is_row(primes, movers, mover, row) for mover, row in moves)


def is_row(primes, movers, mover, row):
    if type(row) is not tuple or len(row) == 0:
        return False
    if not all(type(step) is tuple and len(step) == 2 and is_int(step[0]) and is_int(step[1]) for step in row):
        return False
    ones = [step[0] for step in row]
    if ones != sorted(set(ones)) or not set(ones) <= set(primes) - set(movers):
        return False
    return all((q - 1) % mover == 0 and 1 < root < q and pow(root, mover, q) == 1 for q, root in row)


def is_thing(table, value):
    if type(value) is not tuple or len(value) != len(table[0]):
        return False
    return all(is_int(rest) and 0 <= rest < prime for rest, prime in zip(value, table[0]))


def web(table):
    return [(mover, moved) for mover, row in table[1] for moved, _ in row]


def movers(table):
    return sorted(mover for mover, _ in table[1])


def moved_ones(table):
    return sorted({moved for _, moved in web(table)})


def moved_outside(table, primes):
    """The moved ones of a set of primes that are not in it."""
    return sorted({moved for mover, moved in web(table) if mover in primes} - set(primes))


def is_part(table, value):
    """Whether a value is a pair that tells a part, as [5] says."""
    if type(value) is not tuple or len(value) != 2 or not is_set_of(table[0], value[0]):
        return False
    if type(value[1]) is not tuple or not all(type(spot) is tuple and len(spot) == 2 for spot in value[1]):
        return False
    if not all(is_int(q) and is_int(spot) for q, spot in value[1]):
        return False
    if [q for q, _ in value[1]] != moved_outside(table, value[0]):
        return False
    return all(0 <= spot < q for q, spot in value[1])


def is_web(primes, value):
    """Whether a value is the web of some table with these primes, as [59] says."""
    if type(value) is not tuple or not all(type(pair) is tuple and len(pair) == 2 for pair in value):
        return False
    if not all(is_int(each) and each in primes for pair in value for each in pair):
        return False
    if list(value) != sorted(set(value)) or {p for p, _ in value} & {q for _, q in value}:
        return False
    return all((q - 1) % p == 0 for p, q in value)


def number(table):
    total = 1
    for prime in table[0]:
        total *= prime
    return total


def all_things(table):
    return list(itertools.product(*[range(prime) for prime in table[0]]))


def nought(table):
    return (0,) * len(table[0])


def factor(table, thing, prime):
    """The factor of a thing at a prime, as [4] says."""
    rests = dict(zip(table[0], thing))
    total = 1
    for mover, row in table[1]:
        for moved, root in row:
            if moved == prime:
                for _ in range(rests[mover]):
                    total = total * root % prime
    return total


@functools.lru_cache(maxsize=200000)
def factors(table, thing):
    return tuple(factor(table, thing, prime) for prime in table[0])


def times(table, thing, other):
    """The product of two things, as [4] says."""
    rests = zip(table[0], thing, factors(table, thing), other)
    return tuple((x + f * y) % prime for prime, x, f, y in rests)


def power(table, thing, k):
    """The product of k things like it, k from 0 on, by doubling."""
    total = nought(table)
    for digit in bin(k)[2:]:
        total = times(table, total, total)
        if digit == "1":
            total = times(table, total, thing)
    return total


def integer_power(table, thing, k):
    """A power to any integer: as the power to n is nought, that to the rest of k modulo n."""
    return power(table, thing, k % number(table))


def is_order_divided(table, thing, prime):
    """Whether a prime of the table divides the order of a thing."""
    return power(table, thing, number(table) // prime) != nought(table)


def subsets(primes):
    """All sets of some of these primes, as Python sorts."""
    return sorted(s for k in range(len(primes) + 1) for s in itertools.combinations(primes, k))


def holds(table, part, thing):
    """Whether a thing is in a part, as [5] says."""
    primes, spots = part
    spots = dict(spots)
    for prime, rest in zip(table[0], thing):
        if prime in primes:
            continue
        if prime in movers(table) or prime not in spots:
            wanted = 0
        else:
            wanted = (spots[prime] - factor(table, thing, prime) * spots[prime]) % prime
        if rest != wanted:
            return False
    return True


def told_parts(table):
    """All pairs that tell parts, as [5] says."""
    parts = []
    for primes in subsets(table[0]):
        outside = moved_outside(table, primes)
        for spots in itertools.product(*[range(prime) for prime in outside]):
            parts.append((primes, tuple(zip(outside, spots))))
    return parts


class Group:
    """The things of a small table with all their products, and all parts, found by trying."""

    def __init__(self, table):
        self.table = table
        self.things = all_things(table)
        self.at = {thing: k for k, thing in enumerate(self.things)}
        self.rows = [[self.at[times(table, x, y)] for y in self.things] for x in self.things]
        self.backs = [row.index(0) for row in self.rows]

    def product(self, x, y):
        return self.things[self.rows[self.at[x]][self.at[y]]]

    def back(self, x):
        return self.things[self.backs[self.at[x]]]

    def power(self, x, k):
        """The product of k things like x, of -k backs of it where k is below 0."""
        base = self.at[x] if k >= 0 else self.backs[self.at[x]]
        total = 0
        for _ in range(abs(k)):
            total = self.rows[total][base]
        return self.things[total]

    def order(self, x):
        at = total = self.at[x]
        steps = 1
        while total != 0:
            total = self.rows[total][at]
            steps += 1
        return steps

    def turned(self, x, other):
        return self.product(self.product(other, x), self.back(other))

    @functools.cached_property
    def class_at(self):
        """For each index of a thing the least index of its class."""
        found = [None] * len(self.things)
        for x in range(len(self.things)):
            if found[x] is None:
                for y, row in enumerate(self.rows):
                    found[self.rows[row[x]][self.backs[y]]] = x
        return found

    @functools.cached_property
    def classes(self):
        """For each thing the sorted list of the things of its class."""
        rows = {}
        for k, least in enumerate(self.class_at):
            rows.setdefault(least, []).append(self.things[k])
        return {thing: rows[least] for thing, least in zip(self.things, self.class_at)}

    @functools.cached_property
    def fellows(self):
        """For each thing the set of those that can be exchanged with it."""
        many = range(len(self.things))
        return {self.things[x]: frozenset(self.things[y] for y in many if self.rows[x][y] == self.rows[y][x])
                for x in many}

    @functools.cached_property
    def exchangers(self):
        """How many pairs of things have each thing as their exchanger."""
        count = [0] * len(self.things)
        for x, row in enumerate(self.rows):
            for y, at in enumerate(row):
                count[self.rows[self.rows[at][self.backs[x]]][self.backs[y]]] += 1
        return dict(zip(self.things, count))

    @functools.cached_property
    def turns(self):
        """For each index y a dict that tells for how many x the thing x y back of x has each index."""
        found = []
        for y in range(len(self.things)):
            count = {}
            for x, row in enumerate(self.rows):
                at = self.rows[row[y]][self.backs[x]]
                count[at] = count.get(at, 0) + 1
            found.append(count)
        return found

    def twisted(self, ends):
        """For each r less than ends, in order, how many pairs x, y there are for which x y is y^r x."""
        powers = [0] * len(self.things)
        counts = []
        for _ in range(ends):
            counts.append(sum(self.turns[y].get(powers[y], 0) for y in range(len(powers))))
            powers = [self.rows[at][y] for y, at in enumerate(powers)]
        return counts

    def closure(self, things):
        """The least set of things with nought, these, and all products."""
        makers = [self.at[thing] for thing in things]
        found = {0}
        late = [0]
        while late:
            row = self.rows[late.pop()]
            for maker in makers:
                if row[maker] not in found:
                    found.add(row[maker])
                    late.append(row[maker])
        return frozenset(self.things[k] for k in found)

    @functools.cached_property
    def parts(self):
        """All sets of things that are parts, found by adding things one by one."""
        start = self.closure(())
        found = {start: ()}
        late = [start]
        while late:
            part = late.pop()
            done = set(part)
            for thing in self.things:
                if thing in done:
                    continue
                makers = found[part] + (thing,)
                greater = self.closure(makers)
                # Things that make the same part with this one need not be tried again.
                done.add(thing)
                if greater not in found:
                    found[greater] = makers
                    late.append(greater)
        return frozenset(found)


@functools.lru_cache(maxsize=None)
def group(table):
    return Group(table)


def units(table):
    """For each prime the thing with the rest 1 there, and 0 at all others."""
    return tuple(tuple(int(late == prime) for late in table[0]) for prime in table[0])


def map_of(table, other, images):
    """The map, as a dict, that leads the units of a small table to these things of a small one; None if there is none.

    It is found from nought on, by products with units; it leads products to products if it is one for all of these.
    """
    first, late = group(table), group(other)
    steps = [(first.at[unit], late.at[image]) for unit, image in zip(units(table), images)]
    found = {0: 0}
    todo = [0]
    while todo:
        at = todo.pop()
        for unit, image in steps:
            to, value = first.rows[at][unit], late.rows[found[at]][image]
            if to not in found:
                found[to] = value
                todo.append(to)
            elif found[to] != value:
                return None
    return {first.things[at]: late.things[value] for at, value in found.items()}


@functools.lru_cache(maxsize=None)
def all_maps(table, other):
    """All maps from a small table to a small one, by what the units go to: all tuples of things are tried.

    Of these, things without the order of a unit, or a part of it, are left out at once.
    """
    late = group(other)
    choices = [[y for y in late.things if late.power(y, prime) == late.things[0]] for prime in table[0]]
    maps = {images: map_of(table, other, images) for images in itertools.product(*choices)}
    return {images: told for images, told in maps.items() if told is not None}


def tells_map(table, other, value):
    """Whether a value tells a map from a small table to a small one, as [72] says."""
    if type(value) is not tuple or len(value) != len(table[0]) or not all(is_thing(other, image) for image in value):
        return False
    return map_of(table, other, value) is not None
