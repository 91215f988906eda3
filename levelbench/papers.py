"""Papers: how many turns they show that a plan has at least."""

from levelbench.errors import NoPaper
from levelbench.heights import depths, heights
from levelbench.kinds import check_benches, is_one_of, is_whole
from levelbench.plans import turns_filled

WORDS = ("blocks", "behind", "ahead")


def shown(jobs, benches, paper):
    check_benches(benches)
    if not isinstance(paper, tuple) or len(paper) != 2 or not is_one_of(paper[0], WORDS):
        raise NoPaper("a paper is a tuple of its word and one thing more")
    if paper[0] == "blocks":
        return shown_by_blocks(jobs, benches, paper[1])
    if not is_whole(paper[1]) or paper[1] < 0:
        raise NoPaper("the number of a paper is a whole number from 0 on")
    if paper[0] == "behind":
        return shown_by_number(heights(jobs), benches, paper[1])
    return shown_by_number(depths(jobs), benches, paper[1])


def shown_by_number(high, benches, number):
    many = len([name for name in high if high[name] > number])
    if many == 0:
        return 0
    return turns_filled(many, benches) + number


def shown_by_blocks(jobs, benches, blocks):
    check_blocks(jobs, blocks)
    return sum([turns_filled(len(block), benches) for block in blocks])


def check_blocks(jobs, blocks):
    if not isinstance(blocks, list):
        raise NoPaper("blocks are a list")
    stood = {}
    for block in blocks:
        check_block(jobs.names(), stood, block)
    for one, other in zip(blocks, blocks[1:]):
        if not all([has_all_behind(jobs, name, other) for name in one]):
            raise NoPaper("a job of a block is not ahead of each one of the next block")


def check_block(names, stood, block):
    if not isinstance(block, list) or not block:
        raise NoPaper("a block is a list of one job at least")
    for thing in block:
        if not is_one_of(thing, names):
            raise NoPaper("something in a block is no job")
        if thing in stood:
            raise NoPaper("a job stands in the blocks twice")
        stood[thing] = True


def has_all_behind(jobs, name, row):
    return all([jobs.is_ahead(name, other) for other in row])
