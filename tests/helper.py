"""What several tests need: values of every kind, wrong arguments, and plain searches that do as the document says."""

import itertools

from daycubes.errors import CubeError
from daycubes.sets import Set


def nested(kind):
    """A value with 40 containers around each other."""
    value = 1
    for _ in range(40):
        value = {"k": value} if kind is dict else kind([value])
    return value


PLAIN = [
    None, True, False, 0, 1, -1, 9, 10, 10 ** 5000, -10 ** 5000,
    "", "a", "x" * 100000, "\0", "\ud800", "\U0001f600", "\u0663",
]

NESTED = [
    (), [], {}, (None,), [None], {0: None}, ((),), [[]], ("",), (True,), [1], (1, "1"), ({},), ([],),
    {"1": (1,)}, ((1,), [2]), nested(tuple), nested(list), nested(dict),
]

ANY = PLAIN + NESTED

WRONG_NUMBERS = ANY + [
    "0123456", "0000000", "1234567", " 1", "1 ", "1 2", "+1", "-1", "1.0", "1_0", "0x1", "1\n", "\n1", "1a", "a1",
    "\u0661", "1\u0661", "\u00b2", "1\u00b2", "\uff11", "\uff10\uff11", "\u0967", "\U0001d7ce", "\u2460",
    "\u4e00", "\u00bd",
    "/", ":", "1/", ":1", 1, 12, -1, 0, True, False, None, ("1",), ["1"], ("1", "2"), [1], (1,), {"1": "1"},
    "1" * 7, "1" * 1000,
]

# A few of them, one of each kind.
NO_NUMBERS = [
    "", "1234567", "a", "1a", "\u0661", "1\uff11", "\u00b2", " 1", "-1", 1, 0, True, False, None, ("1",), ["1"], {},
]

NO_TURNS = [
    ((9, 6),), ((6, 6),), ((0, 0),), ((6,),), ((6, 9, 9),), ((1, 2, 3),), ((),), (6, 9), ((6, 9), ()), (6,),
    ((-1, 9),), ((6, 10),), ((10, 11),), ((-2, -1),), ((0, 10 ** 5000),),
    ((6, 9), (6, 9)), ((6, 9), (6, 8)), ((5, 9), (6, 9)), ((1, 2), (2, 3)), ((1, 3), (2, 3)), ((1, 2), (1, 3)),
    ((1, 4), (2, 3), (3, 5)), ((2, 3), (0, 1)), ((0, 1), (4, 5), (2, 3)), ((6, 9), (0, 1)),
    ((0, 1), (2, 3), (4, 5), (6, 7), (8, 9), (8, 9)), ((0, 1), (2, 3), (4, 5), (6, 7), (8, 9), (1, 2)),
    ((0, 1), (2, 3), (4, 5), (6, 7), (8, 9), (0, 1), (2, 3)),
    ((False, True),), ((False, 1),), ((0, True),), ((True, 9),), ((0, 1), (True, 2)), ((6, None),), ((None, None),),
    (("6", "9"),), ((6, "9"),), ("69",), ("6", "9"), [(6, 9)], ([6, 9],), [[6, 9]], ((6, [9]),), (((6, 9),),),
    ((0, 1), [2, 3]), {6: 9}, ({6: 9},), {}, [], None, True, False, 0, 69, "", "69", nested(tuple), nested(list),
]


FIGURES = tuple(range(10))

DAYS = Set(((0, 1, 2, 3, 4, 5), (0, 1, 2, 6, 7, 8)), ((6, 9),))

# Sets of one to six cubes, with turns and without.
GROUPS = [
    DAYS,
    Set(((0,),)),
    Set((FIGURES,)),
    Set(((1, 2),), ((1, 2),)),
    Set(((6,),), ((6, 9),)),
    Set(((1,), (2, 3))),
    Set(((1, 2), (1, 2))),
    Set(((1, 6), (2, 3)), ((6, 9),)),
    Set(((1, 6), (1, 6), (2, 9)), ((6, 9),)),
    Set(((0, 1), (1, 2), (0, 2))),
    Set(((3,), (0,), (4, 5)), ((0, 5), (1, 6), (2, 7))),
    Set(((0, 1), (1, 2), (2, 3), (0, 3))),
    Set(((4, 5), (4, 5), (4, 5), (0, 1, 2, 3)), ((0, 9), (1, 8), (2, 7), (3, 6))),
    Set(((0,), (0, 1), (0, 1, 2), (0, 1, 2, 3), (0, 1, 2, 3, 4))),
    Set(((5, 6, 7, 8, 9), (0, 1, 2, 3, 4), (2, 5), (2, 5), (2, 5), (2, 5)), ((1, 5),)),
    Set(((0, 1, 2), (0, 1, 2), (0, 1, 2), (7, 8), (7, 8), (9,)), ((6, 9),)),
]


def told(call, *arguments):
    """What a call raises, as a tuple of its class and its fields; its value if it raises nothing."""
    try:
        return call(*arguments)
    except CubeError as error:
        return (error.__class__, vars(error))


def plain_has(cubes, turns, cube, sign):
    """Whether a cube, told by its index, has the figure of a sign."""
    figure = int(sign)
    turned = [a for a, b in turns if b == figure] + [b for a, b in turns if a == figure]
    return figure in cubes[cube] or any(face in cubes[cube] for face in turned)


def plain_ways(cubes, turns, number):
    """All ways, ascending, by a search over all tuples of unlike cubes."""
    rows = itertools.permutations(range(len(cubes)), len(number))
    return [row for row in rows if all(plain_has(cubes, turns, cube, sign) for cube, sign in zip(row, number))]


def plain_match(cubes, turns, number):
    """Whether these cubes show a number, by giving each place a cube and moving those that stand in the way."""
    stands = {}

    def find(place, tried):
        for cube in range(len(cubes)):
            if cube not in tried and plain_has(cubes, turns, cube, number[place]):
                tried.add(cube)
                if cube not in stands or find(stands[cube], tried):
                    stands[cube] = place
                    return True
        return False

    return all(find(place, set()) for place in range(len(number)))


def shown_signs(group, width):
    """All rows of so many signs, each ascending, whose orders a set shows."""
    rows = itertools.combinations_with_replacement("0123456789", width)
    return [row for row in rows if plain_match(group.cubes, group.turns, row)]


def plain_touched(number, way, ahead, stood):
    """How many cubes are touched, place by place as the document says it."""
    many = 0
    for place, cube in enumerate(way):
        if place >= len(stood) or stood[place] != cube or ahead[place] != number[place]:
            many += 1
    return many


def plain_shown(cubes, turns, needed):
    """Those of the needed numbers that these cubes show, some of them perhaps without any face."""
    return [number for number in needed if plain_ways(cubes, turns, number)]
