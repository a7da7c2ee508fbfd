"""Rows of deeds, and what goes on by looks while they are done."""

from namewalk.deeds import trees
from namewalk.errors import Large, NoWeaving
from namewalk.kinds import is_number
from namewalk.trees import check_place
from namewalk.views import View

MOST_WEAVINGS = 5000


def views_of(tree, deeds, place):
    """Views of the trees after the first 0, 1, 2 and so on deeds; the place must be one in the first tree."""
    row = trees(tree, deeds)
    check_place(tree, place)
    return [View(one) for one in row]


def is_weaving(numbers, least, most):
    """Whether numbers is a list or tuple of numbers from least to most that do not descend."""
    if not isinstance(numbers, (list, tuple)):
        return False
    for number in numbers:
        if not is_number(number) or not least <= number <= most:
            return False
        least = number
    return True


def played(views, going, weaving):
    """What comes of something that goes on if its looks see the views whose numbers the weaving tells."""
    if not is_weaving(weaving, 0, len(views) - 1):
        raise NoWeaving()
    for number in weaving:
        if going.result is not None:
            raise NoWeaving()
        going = going.looked(views[number])
    if going.result is None:
        raise NoWeaving()
    return going.result


def all_played(views, going):
    """What comes of something that goes on by all weavings, once for each; Large if there are too many."""
    found = []
    waiting = [(going, 0)]
    while waiting:
        present, least = waiting.pop()
        if present.result is None:
            waiting.extend([(present.looked(views[number]), number) for number in range(least, len(views))])
        else:
            found.append(present.result)
            # Each one under way has an end, so that this counts no weaving too many.
            if len(found) > MOST_WEAVINGS:
                raise Large(MOST_WEAVINGS + 1)
    return found
