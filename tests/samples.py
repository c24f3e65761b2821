"""Values that several tests use."""


class Contrary:
    """An object that fails whatever it is asked."""

    def refuse(self, *told):
        raise RuntimeError("asked")

    __eq__ = __ne__ = __lt__ = __le__ = __gt__ = __ge__ = refuse
    __hash__ = __bool__ = __len__ = __iter__ = __getitem__ = __contains__ = refuse
    __index__ = __int__ = __repr__ = __str__ = refuse


class Agreeable:
    """An object that is equal to everything and has as many items as are asked for."""

    def agree(self, *told):
        return True

    __eq__ = __lt__ = __le__ = __gt__ = __ge__ = __contains__ = agree

    def __hash__(self):
        return hash("group")


def nested(depth):
    """A tuple in a tuple in a tuple, deeper than Python can compare or show."""
    thing = ()
    for _ in range(depth):
        thing = (thing,)
    return thing


def endless():
    """A list that contains itself."""
    thing = []
    thing.append(thing)
    return thing


NAN = float("nan")

# None of these is a word, a number from 0 on, a truth value, or a tuple with items.
NEITHER = [
    None, 0.0, 1.0, NAN, 1j, -2, -(10 ** 999), "", " ", "x", "Group", "group ", "fore,", "None", "-1", "0",
    b"", b"group", b"none", bytearray(b"group"), [], [0], ["group"], {}, {"group": 1}, {0: 1}, set(),
    {"group"}, frozenset(["group"]), range(0), range(3), object(), Contrary(), Agreeable(), NAN, len, int,
    str, tuple, Contrary, iter(()), (x for x in ("group",)), nested(100000), endless(), slice(0, 3), ...,
]

# Anything at all.
THINGS = NEITHER + [
    0, 1, 2, -1, 10 ** 999, True, False, (), (0,), (None,), ("group",), ("none", 0), (1, 2, 3), (0,) * 6,
    (0,) * 7, "group", "none", "shell", "runs", "fore", "misread", ("kinds",),
]

KINDS = (("read",), ("group", "front", "write", "raw", "plain"), ("hold", "again"))
RULES = ("stop", "go", "stop")
FORE = ("group", "give", "listen", "take")
BACK = ("group",)
FRONT = ("give", "go", "wait", "take", "plain", "plain")
BEHIND = ()
SHELL = (FORE, BACK, FRONT, BEHIND)
SETUP = (KINDS, RULES, SHELL)


def put(items, at, thing):
    """The tuple with another thing at one place."""
    return items[:at] + (thing,) + items[at + 1:]
