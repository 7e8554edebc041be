"""Things of other kinds, for what has to take whatever it is given."""


class Odd:
    """Something that is equal to all and fails when it is asked for more."""

    def __eq__(self, other):
        return True

    __hash__ = None

    def __len__(self):
        raise RuntimeError

    def __iter__(self):
        raise RuntimeError

    def __getitem__(self, at):
        raise RuntimeError

    def __lt__(self, other):
        raise RuntimeError

    __gt__ = __le__ = __ge__ = __add__ = __radd__ = __lt__


class Unlike:
    """Something that cannot be compared at all."""

    def __eq__(self, other):
        raise RuntimeError

    __hash__ = None


# None of them is an integer from 0, a tuple, or None.
ODD_THINGS = (
    True, False, -1, 1.5, 0.0, "", "a", "00", b"", b"ab", [], [0], [0, 0], [[]], {}, {0: 0}, set(), {0}, range(2),
    iter(()), Odd(), Unlike(), object(), int, len, Odd, NotImplemented, ..., float("nan"), 1j,
)


def with_parts(thing):
    """The thing with each of its parts, at any depth, in the place of a part: (path, part)."""
    found = [((), thing)]
    if isinstance(thing, tuple):
        for k, part in enumerate(thing):
            found += [((k,) + path, inner) for path, inner in with_parts(part)]
    return found


def put(thing, path, part):
    """The thing with another part at a path."""
    if not path:
        return part
    k = path[0]
    return thing[:k] + (put(thing[k], path[1:], part),) + thing[k + 1:]
