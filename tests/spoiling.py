"""Nested tuples, each with one thing in it spoilt."""

POOL = ("a", "ab", "b", "c", "d", "x")
WORDS = ("one", "stands", "join", "split", "told", "ask", "shut", "prices", "cases", "best", "joining")


def spoils_of(thing):
    """What a thing itself may be spoilt to, whatever is within it."""
    if type(thing) is tuple:
        yield list(thing)
        yield None
        yield thing + (None,)
        yield thing + ((),)
        yield (thing,)
        yield ()
        yield thing[::-1]
        for at in range(len(thing)):
            yield thing[:at] + thing[at + 1:]
            yield thing[:at + 1] + thing[at:]
            yield thing[at]
            if at:
                yield thing[:at - 1] + (thing[at], thing[at - 1]) + thing[at + 1:]
    elif type(thing) is bool:
        yield from (not thing, int(thing), None, str(thing))
    elif type(thing) is int:
        yield from (thing + 1, thing - 1, 0, -thing, -1, 1000, 1001, bool(thing), True, False, str(thing), None, (thing,),
                    [thing])
    elif type(thing) is str:
        yield from POOL + WORDS
        yield from (thing.upper(), thing + "x", thing * 9, "", None, thing.encode(), (thing,), [thing], 0, True)
    elif thing is None:
        yield from ((), False, 0, "", [])
    else:
        yield None


def spoilt_things(thing):
    """Every thing that comes of spoiling one place, from the outside to the inside."""
    yield from spoils_of(thing)
    if type(thing) is tuple:
        for at, part in enumerate(thing):
            for other in spoilt_things(part):
                yield thing[:at] + (other,) + thing[at + 1:]


def spoilt_somewhere(chance, thing):
    """One thing with one place spoilt, each depth about as likely."""
    if type(thing) is tuple and thing and chance.random() < 0.75:
        at = chance.randrange(len(thing))
        return thing[:at] + (spoilt_somewhere(chance, thing[at]),) + thing[at + 1:]
    return chance.choice(list(spoils_of(thing)))
