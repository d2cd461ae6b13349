"""The text of a corridor, there and back."""

from chairwalks.bounds import MAX_WALKERS
from chairwalks.errors import BadText
from chairwalks.rows import is_row, is_walker
from chairwalks.wants import are_wants

# No number in a text has more digits; with very many, Python would not even read them.
MOST_DIGITS = 4


def corridor_text(row, walkers, wants):
    """Return the text of a corridor with this row, these walkers and wants."""
    words = [numbers_text(row, ",")]
    for walker in walkers:
        words.append(numbers_text(walker, "-"))
    words.append("for")
    words.append(numbers_text(wants, ","))
    return " ".join(words)


def numbers_text(numbers, sign):
    """Return the numbers in decimal, with the sign between two."""
    return sign.join([str(number) for number in numbers])


def parse_corridor(value):
    """Return (row, walkers, wants) whose text any value is, or raise BadText."""
    if not isinstance(value, str):
        raise BadText(None)
    words = value.split(" ")
    row = parse_numbers(words[0], ",")
    if not is_row(row):
        raise BadText(0)
    walkers = parse_walkers(words, len(row))
    # Before the wants stand the row, the walkers and "for".
    wants = parse_wants(words, len(walkers) + 2, len(row))
    return (row, walkers, wants)


def parse_walkers(words, stations):
    """Return the walkers of the words from the second one up to the first "for"."""
    walkers = []
    for index in range(1, len(words)):
        if words[index] == "for":
            return tuple(walkers)
        walker = parse_numbers(words[index], "-")
        if len(walkers) == MAX_WALKERS or not is_walker(stations, walker):
            raise BadText(index)
        walkers.append(walker)
    raise BadText(len(words))


def parse_wants(words, index, stations):
    """Return the wants that the word with this index is, which must be the last word."""
    if len(words) == index:
        raise BadText(index)
    wants = parse_numbers(words[index], ",")
    if not are_wants(stations, wants):
        raise BadText(index)
    if len(words) > index + 1:
        raise BadText(index + 1)
    return wants


def parse_numbers(word, sign):
    """Return a tuple of the numbers in a word with the sign between two, None for what is no number."""
    return tuple([parse_number(part) for part in word.split(sign)])


def parse_number(word):
    """Return the number whose text a word is, or None."""
    if len(word) > MOST_DIGITS or not word.isascii() or not word.isdigit():
        return None
    number = int(word)
    if str(number) != word:
        return None
    return number
