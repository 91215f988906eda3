"""Jobs of any lengths that may be broken off: in how few turns the benches do them, and in which pieces."""

from levelbench.errors import NoLength, TooMany
from levelbench.kinds import check_benches, is_name, is_whole
from levelbench.plans import turns_filled

MOST_LENGTHS = 20


def check_lengths(lengths):
    if len(lengths) > MOST_LENGTHS:
        raise TooMany("there are more than twenty lengths")
    for name, length in lengths.items():
        if not is_name(name):
            raise NoLength("a key is no name")
        if not is_whole(length) or length < 0:
            raise NoLength("a length is a whole number from 0 on")


def broken(benches, lengths):
    check_benches(benches)
    check_lengths(lengths)
    turns = turns_filled(sum(lengths.values()), benches)
    paper = ("all",)
    for name, length in lengths.items():
        if length > turns:
            turns = length
            paper = ("long", name)
    return (turns, all_pieces(turns, lengths), paper)


def all_pieces(turns, lengths):
    # The benches are filled one behind the other, as if they were one long bench that is cut where turns are over.
    pieces = []
    done = 0
    for name, length in lengths.items():
        if length > 0:
            pieces.extend(pieces_of_job(name, length, turns, done))
        done = done + length
    return pieces


def pieces_of_job(name, length, turns, done):
    bench = done // turns
    first = done % turns + 1
    over = first + length - 1 - turns
    if over <= 0:
        return [(bench, name, first, first + length - 1)]
    # No job is longer than all turns, so what is left over ends ahead of the turn in which the job begins here.
    return [(bench, name, first, turns), (bench + 1, name, 1, over)]
