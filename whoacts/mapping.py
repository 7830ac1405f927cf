"""Where maps lead things, and which things they lead to nought."""

from whoacts.mapneeds import need_map, need_other_table, need_two_tables
from whoacts.mapwork import led_to, primes_lost
from whoacts.partwork import least_part
from whoacts.thingneeds import need_thing


def mapped(table, other, images, thing):
    """Return what the thing goes to."""
    need_two_tables(table, other)
    need_map(table, other, images)
    need_thing(table, thing)
    return led_to(table, other, images, thing)


def kernel_of(table, other, images):
    """Return the part of the table of the things that go to nought."""
    need_two_tables(table, other)
    need_map(table, other, images)
    return (primes_lost(table, other, images), ())


def range_of(table, other, images):
    """Return the part of other of the things that some thing goes to."""
    need_two_tables(table, other)
    need_map(table, other, images)
    return least_part(other, images)


def map_behind(table, other, third, images, late):
    """Return the map that leads each thing to where the late map, from other to third, leads what it goes to."""
    need_two_tables(table, other)
    need_other_table(third, "third")
    need_map(table, other, images)
    need_map(other, third, late, "late")
    return tuple([led_to(other, third, late, image) for image in images])
