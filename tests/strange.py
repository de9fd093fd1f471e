"""Things that may be handed in where a parameter is called thing, right or wrong or nearly right."""


def nest(depth, make, inner):
    thing = inner
    for _ in range(depth):
        thing = make(thing)
    return thing


STRANGE = (
    True, False, None, 0, 1, -1, 2, 10 ** 40, -10 ** 40, 10 ** 5000,
    "", "a", "b", "ab", "abc", "z", "begin", "end", "-", "A", "\u00e9", "\x00", "a" * 1000,
    (), [], ((),), [()], ([],), [[]], ((), ()), ((), (), ()), (((), ()),), ((((),),),),
    ("a",), ["a"], ("b",), ("z",), ("",), ("a", "b"), ["a", "b"], ("b", "a"), ("a", "a"), ("a", "b", "c"),
    ("a", "b", "c", "d"), ("d", "c", "b", "a"), ("a", "z"), ("z", "a"), ("a", None), ("a", 1), ("a", True),
    ("a", ("b",)), (("a",), "b"), ("ab",), ("aa", "bb"),
    (0,), (1,), (True,), (False,), (None,), (-1,), [0], (0, 0), (1, 1), (0, 1), (1, 0), (1, True), (1, -1), (0, "a"),
    (0, 0, 0), (0, 1, 2), [0, 1, 2], (1, 2, True), (1, 2, None), (1, 2, -1), (1, 2, "3"), (1, 2, (3,)),
    (0, 0, 0, 0), (0, 1, 2, 3), (10 ** 40, 1, 0, 10 ** 40),
    (("a", "b"),), (["a", "b"],), [("a", "b")], [["a", "b"]], (("a", "b"), ("a", "b")), (("a", "a"),),
    (("a", "z"),), (("a",),), (("a", "b", "c"),), (("a", 1),), ((1, 2),), (("b", "a"),), (("a", "b"), ("a", "c")),
    (("a", "b"), ("b", "a")), (("a", "b"), ("b", "c"), ("c", "a")), (("a", "b"), None), (("a", "b"), "ab"),
    ("ab", "bc"), ((("a", "b"), ("b", "a")),), (("a", ("b",)),),
    (("begin", "a"),), (["begin", "a"],), [("begin", "a")], (("end", "a"),), (("begin", "z"),), (("begin", 1),),
    (("begin", "a", "b"),), (("begin",),), ("begin", "a"), (("begins", "a"),), ((True, "a"),), (([], "a"),),
    (("begin", []),), (("begin", ("a",)),), (("begin", None),), (("a", "begin"),), (("begin", "a"), ("begin", "a")),
    (("begin", "a"), "end"), (("begin", "a"), ("end", "a")), (("begin", "a"), ["end", "a"]),
    (("a", 0), ("b", 1)), (("a", "b"), (1, 2)), ((0, "a"),), (1, ((("a",), 1),)), (("a", "b"), ("a", "b", "c", "d")),
    nest(11, lambda thing: (thing,), "a"), nest(11, lambda thing: [thing], 1), nest(11, lambda thing: (thing, thing), ()),
    (0,) * 5000, ("a",) * 5000, (("a", "b"),) * 5000, (("begin", "a"), ("end", "a")) * 3000, [None] * 5000,
)


def bent(thing):
    """Things that differ from this one at one place, at any depth."""
    if isinstance(thing, tuple):
        yield from bent_tuple(thing)
    elif isinstance(thing, str):
        yield from (0, True, None, "", "z", thing + "a", thing.upper(), (thing,), [thing], ())
        yield {"begin": "end", "end": "begin", "a": "b"}.get(thing, "a")
    else:
        yield from (thing + 1, thing - 1, -1 - thing, True, False, None, str(thing), (thing,), [thing])


def bent_tuple(thing):
    yield list(thing)
    yield from ((thing,), [thing], thing[:-1], thing[1:], thing[::-1], thing + thing, thing + thing[-1:])
    yield from (thing + ("z",), thing + (None,), thing + (0,), thing + ((),), (("a", "b"),) + thing)
    yield from (thing[0] if thing else 0, None)
    for place in range(len(thing) - 1):
        yield thing[:place] + (thing[place + 1], thing[place]) + thing[place + 2:]
    for place, item in enumerate(thing):
        yield thing[:place] + thing[place + 1:]
        for other in bent(item):
            yield thing[:place] + (other,) + thing[place + 1:]
