"""Values of which nothing is known but that they are nested tuples, strings, integers and None."""


def deep_tuple(many, inside=()):
    """A tuple that is nested so often that no recursion reaches its end."""
    value = inside
    for _ in range(many):
        value = (value,)
    return value


DEEP = deep_tuple(100000)
# Deep at its end, with another tuple in front of each level.
DEEP_BEHIND = ("both", ("a", "b"))
for _ in range(100000):
    DEEP_BEHIND = ("both", (("sure", "a"), DEEP_BEHIND))
# Small for those who share what is the same, too great for those who walk through all of it.
WIDE = ("sure", "a")
for _ in range(200):
    WIDE = ("both", (WIDE,) * 12)

STRANGE = (None, "", "a", "sure", "0", "1", 0, 1, -1, 10 ** 30, (), ((),), (None,), (0,), ("a",), (1, 2), ("a", 1),
           ("sure", "a"), ("both", ()), (((), ()), ()), DEEP, DEEP_BEHIND, WIDE)


def replaced(value, at, part):
    return value[:at] + (part,) + value[at + 1:]


def neighbours(value, parts=STRANGE):
    """The value with one of its parts, however deep, replaced by each of `parts`, left out, or doubled."""
    yield from parts
    if isinstance(value, tuple):
        yield value[::-1]
        for at in range(len(value)):
            yield value[:at] + value[at + 1:]
            yield value[:at] + value[at:at + 1] + value[at:]
            for changed in neighbours(value[at], parts):
                yield replaced(value, at, changed)
        for part in parts:
            yield value + (part,)
