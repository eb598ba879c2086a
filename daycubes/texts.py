"""Texts of sets: their cubes, and their turns if there are any, as words of figures."""

from daycubes.errors import BadText
from daycubes.sets import MOST_CUBES, SIGNS, Set, is_cube, is_turns

CUBES = "cubes"
TURNS = "turns"


def word_of(figures):
    """Figures without anything between them."""
    return "".join([str(figure) for figure in figures])


def figures_of(word):
    """The tuple of the figures of a word, the empty one if some sign of it is no figure."""
    return tuple([int(sign) for sign in word]) if all([sign in SIGNS for sign in word]) else ()


def write(group):
    """The text of a set."""
    words = [CUBES] + [word_of(cube) for cube in group.cubes]
    if group.turns:
        words = words + [TURNS] + [word_of(pair) for pair in group.turns]
    return " ".join(words)


def check_cubes_told(cubes, first):
    """Raise BadText unless these are cubes of a set, the first one of them told by the word with this index."""
    for index, cube in enumerate(cubes):
        if index == MOST_CUBES or not is_cube(cube):
            raise BadText(first + index)
    if len(cubes) == 0:
        raise BadText(first)


def check_turns_told(turns, first):
    """Raise BadText unless these are turns, a pair of them at least, the first one told by the word with this index."""
    for index in range(len(turns)):
        if not is_turns(turns[:index + 1]):
            raise BadText(first + index)
    if len(turns) == 0:
        raise BadText(first)


def read(text):
    """The set of a text, of any value."""
    if not isinstance(text, str):
        raise BadText(None)
    words = text.split(" ")
    if words[0] != CUBES:
        raise BadText(0)
    end = words.index(TURNS) if TURNS in words else len(words)
    cubes = tuple([figures_of(word) for word in words[1:end]])
    turns = tuple([figures_of(word) for word in words[end + 1:]])
    check_cubes_told(cubes, 1)
    if end < len(words):
        check_turns_told(turns, end + 1)
    return Set(cubes, turns)
