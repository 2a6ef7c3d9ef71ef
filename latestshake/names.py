"""Names: the words by which stations and labels are called."""

from latestshake.errors import InvalidName

MOST_LETTERS = 12
# In a text these words tell what is due next.
TAKEN_WORDS = ("station", "at", "heard", "from", "to", "side", "up")


def is_name(value):
    """Whether a value, whatever it is, is a name: a few letters from a to z, none of the taken words."""
    if not isinstance(value, str) or not 1 <= len(value) <= MOST_LETTERS:
        return False
    return value not in TAKEN_WORDS and all(["a" <= sign <= "z" for sign in value])


def need_name(name):
    """Refuse what is no name."""
    if not is_name(name):
        raise InvalidName(name)
