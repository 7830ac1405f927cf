"""What functions need of their parameters: other tables, and maps."""

from whoacts.errors import NotUsable
from whoacts.kinds import is_table
from whoacts.mapwork import tells_map
from whoacts.tableneeds import need_table


def need_other_table(other, word="other"):
    """Refuse any value that is no table; word is the name of the parameter."""
    if not is_table(other):
        raise NotUsable(word, -1)


def need_two_tables(table, other):
    """Refuse the first of two values that is no table."""
    need_table(table)
    need_other_table(other)


def need_map(table, other, images, word="images"):
    """Refuse any value that tells no map from the table to the other one; word is the name of the parameter."""
    if not tells_map(table, other, images):
        raise NotUsable(word, -1)
