"""Rows of deeds, and what goes on by looks while they are done.

What goes on (a walk, a listing, a climb) is an object whose result is None as
long as it is not at its end, and whose looked(view) returns it after one look.
"""

from namewalk.deeds import trees
from namewalk.errors import NoWeaving
from namewalk.kinds import is_number
from namewalk.trees import check_place
from namewalk.views import View


def views_of(tree, deeds, place):
    """Views of the trees after the first 0, 1, 2 and so on deeds; the place must be one in the first tree."""
    row = trees(tree, deeds)
    check_place(tree, place)
    return [View(one) for one in row]


def is_weaving(numbers, least, most):
    """Whether numbers is a list or tuple of numbers from least to most that do not descend."""
    if not isinstance(numbers, (list, tuple)):
        return False
    for number in numbers:
        if not is_number(number) or not least <= number <= most:
            return False
        least = number
    return True


def played(views, going, weaving):
    """What going comes to if its looks see the views whose numbers the weaving tells."""
    if not is_weaving(weaving, 0, len(views) - 1):
        raise NoWeaving()
    for number in weaving:
        if going.result is not None:
            raise NoWeaving()
        going = going.looked(views[number])
    if going.result is None:
        raise NoWeaving()
    return going.result
