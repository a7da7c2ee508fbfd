"""Guards: the fewest folders that others must not have, so that a walk leads only where it may."""

from itertools import combinations

from namewalk.errors import Large
from namewalk.others import Others
from namewalk.reaching import reach

MOST_FOLDERS = 8


def guards(tree, others, place, path, look, allowed):
    """The first of the smallest sets of their folders without which they allow no other results, or None."""
    # What is wrong with the arguments comes before a number of folders that is too great.
    reach(tree, others, place, path, look)
    theirs = sorted(set(others.folders))
    if len(theirs) > MOST_FOLDERS:
        raise Large(len(theirs))
    # With fewer folders they can do less, so that nothing helps where even all of them are not enough,
    # and a folder with which alone they can do too much is always among them.
    if leads_elsewhere(tree, others, [], place, path, look, allowed):
        return None
    needed = [folder for folder in theirs if leads_elsewhere(tree, others, [folder], place, path, look, allowed)]
    for many in range(len(needed), len(theirs) + 1):
        for guarded in combinations(theirs, many):
            left = [folder for folder in theirs if folder not in guarded]
            if (all([folder in guarded for folder in needed])
                    and not leads_elsewhere(tree, others, left, place, path, look, allowed)):
                return list(guarded)
    return None


def leads_elsewhere(tree, others, folders, place, path, look, allowed):
    """Whether the walk can have a result that is not allowed, if the others have only these folders."""
    found = reach(tree, Others(others.owner, folders), place, path, look)
    return any([result not in allowed for result in found])
