"""Maps as texts, a row for the places and one for each road."""

from rootcheap.errors import BadText
from rootcheap.maps import Map

FIGURES = "0123456789"
MOST_FIGURES = 10


def written(chart):
    """A map as a text."""
    rows = [f"map {chart.size()} {chart.begin()}"]
    for begin, goal, cost in chart.roads():
        rows.append(f"road {begin} {goal} {cost}")
    return "\n".join(rows)


def read(text):
    """The map that is written so."""
    # All rows first: a bad row is refused ahead of numbers that make no map.
    rows = [read_row(at, row) for at, row in enumerate(text.split("\n"))]
    many, root = rows[0]
    return Map(many, root, [tuple(numbers) for numbers in rows[1:]])


def read_row(at, row):
    """The numbers of a row; which ones it has is told by its own number."""
    name, many = ("map", 2) if at == 0 else ("road", 3)
    words = row.split(" ")
    numbers = words[1:]
    if words[0] != name or len(numbers) != many or not all([is_number(word) for word in numbers]):
        raise BadText(at)
    return [int(word) for word in numbers]


def is_number(word):
    """Whether a word is a number as it is written."""
    if not 1 <= len(word) <= MOST_FIGURES or not all([sign in FIGURES for sign in word]):
        return False
    return word == "0" or word[0] != "0"
