"""What the other files ask of a thing of which nothing is known yet."""

from levelbench.errors import NoBench

LONGEST_NAME = 8


def is_whole(thing):
    return isinstance(thing, int) and not isinstance(thing, bool)


def is_name(thing):
    if not isinstance(thing, str) or not 1 <= len(thing) <= LONGEST_NAME:
        return False
    # islower and isalpha would let letters beyond a to z through.
    return all(["a" <= sign <= "z" for sign in thing])


def is_one_of(thing, names):
    # A thing of another kind may hold itself equal to a name, or can't be looked up in a dict.
    return isinstance(thing, str) and thing in names


def check_benches(benches):
    if not is_whole(benches) or benches < 1:
        raise NoBench("benches are a whole number from 1 on")


def own_copy(thing, depth=12):
    # A list or dict that is told back belongs to the asker, so it is never the very one that was handed in.
    # The depth has a bound since a list may hold itself.
    if depth == 0:
        return thing
    if isinstance(thing, list):
        return [own_copy(part, depth - 1) for part in thing]
    if isinstance(thing, tuple):
        return tuple([own_copy(part, depth - 1) for part in thing])
    if isinstance(thing, dict):
        pairs = [(key, own_copy(value, depth - 1)) for key, value in thing.items()]
        return dict(pairs)
    return thing
