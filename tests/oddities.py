"""Objects of every kind that a caller may pass where any object is allowed."""


def nested(wrap, depth):
    thing = 1
    for _ in range(depth):
        thing = wrap(thing)
    return thing


# Only what is in no context right: no name, no integer of a row, no row, no table, no book, no question.
NEVER_RIGHT = [
    None,
    True,
    False,
    -1,
    10 ** 30 + 1,
    10 ** 5000,
    -(10 ** 5000),
    "",
    "A",
    "1a",
    "a b",
    "abcdefghi",
    "\u00e4",
    "a\u0661",
    "a\n",
    [],
    [1],
    [(1,)],
    ["a"],
    [[], {}],
    (None,),
    (True,),
    ("A",),
    (-1,),
    (10 ** 30 + 1,),
    ([1],),
    ({},),
    ((1,),),
    {None: None},
    {1: 2},
    {(1,): 2},
    {"A": (1, ())},
    {"a": None},
    {"a": [1, ()]},
    nested(lambda thing: (thing,), 29),
    nested(lambda thing: [thing], 30),
    nested(lambda thing: {"a": thing}, 30),
    (None,) * 4999,
    [0] * 4999,
]

# Right somewhere, wrong in most places.
SOMETIMES_RIGHT = [
    0,
    1,
    6,
    10 ** 30,
    "a",
    "a1",
    "abcdefgh",
    "table",
    (),
    {},
    (1,),
    (0, 10 ** 30),
    (1, 2, 3, 4, 5, 6),
    (1, ()),
    (1, ((1,),)),
    {"a": (1, ())},
    ((), (("a", (1,)),)),
    (("x",), (("a", ("x",)),)),
    ("a", ("x",)),
    ("a", (1,)),
]

ANY_OBJECTS = NEVER_RIGHT + SOMETIMES_RIGHT


def shown(thing):
    """A short text for a test's report; Python writes no integer of more than 4,300 digits."""
    return "an integer" if type(thing) is int else repr(thing)[:80]
