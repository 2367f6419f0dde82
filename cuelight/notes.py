"""Nets as texts, a row for each place and each line."""

from cuelight.errors import BadText
from cuelight.nets import Net

FIGURES = "0123456789"
MOST_FIGURES = 7
NUMBERS = {"place": 1, "source": 1, "line": 3}


def written(net):
    """The text of a net."""
    sources = net.sources()
    rows = []
    for place, need in enumerate(net.needs()):
        word = "source" if place in sources else "place"
        rows.append(f"{word} {need}")
    for one, other, limit in net.lines():
        rows.append(f"line {one} {other} {limit}")
    return "\n".join(rows)


def read(text):
    """The net of a text."""
    needs = []
    sources = []
    lines = []
    for at, row in enumerate(text.split("\n")):
        word, *numbers = row.split(" ")
        if not is_row(word, numbers) or (word != "line" and lines):
            raise BadText(at)
        if word == "line":
            lines.append(tuple([int(number) for number in numbers]))
            continue
        if word == "source":
            sources.append(len(needs))
        needs.append(int(numbers[0]))
    return Net(needs, sources, lines)


def is_row(word, numbers):
    """Whether the word is known, and what follows it are as many numbers as belong to it."""
    return NUMBERS.get(word) == len(numbers) and all([is_number(number) for number in numbers])


def is_number(word):
    """Whether the word is a number as it is written: few figures, and no 0 ahead of others."""
    if not 1 <= len(word) <= MOST_FIGURES or (word[0] == "0" and word != "0"):
        return False
    return all([sign in FIGURES for sign in word])
