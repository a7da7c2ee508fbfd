"""Endings: what processes come to by all weavings of their moments."""

from namewalk.calls import Stage, begun_call
from namewalk.errors import Large
from namewalk.trees import check_place
from namewalk.walktexts import result_text

MOST_WOVEN = 1000


class Ending:
    """For each process the results of its calls, and how many weavings lead to them.

    whole tells whether some order of whole calls has these results; timely, for
    how many of the weavings there is one that keeps what came after what.
    """

    def __init__(self, results, count, whole, timely):
        self.results = tuple([tuple(row) for row in results])
        self.count = count
        self.whole = whole
        self.timely = timely

    def __eq__(self, other):
        return (isinstance(other, Ending) and self.results == other.results and self.count == other.count
                and self.whole == other.whole and self.timely == other.timely)


class Woven:
    """Processes that have come so far: for each one its call under way or None, and the results of those before.

    The log tells for each moment the numbers of the process and of its call.
    """

    def __init__(self, processes, stage, callings, results, log):
        self.processes = processes
        self.stage = stage
        self.callings = callings
        self.results = results
        self.log = log

    def going_on(self):
        """The numbers of the processes that are not at their ends."""
        return [number for number, calling in enumerate(self.callings) if calling is not None]

    def after_moment(self, number):
        """What has come to be after the next moment of a process."""
        index = len(self.results[number])
        calling, stage = self.callings[number].after_moment(self.stage, (number, index))
        results = self.results
        if calling.result is not None:
            row = results[number] + (stage.named(calling.result),)
            results = replaced(results, number, row)
            calling = call_at(self.processes[number], index + 1)
        callings = replaced(self.callings, number, calling)
        return Woven(self.processes, stage, callings, results, self.log + ((number, index),))

    def after_call(self, number):
        """What has come to be after the next whole call of a process."""
        woven = self.after_moment(number)
        while len(woven.results[number]) == len(self.results[number]):
            woven = woven.after_moment(number)
        return woven

    def texts(self):
        """The texts of all results, process by process."""
        return tuple([result_text(result) for row in self.results for result in row])

    def spans(self):
        """For each call, by the order of their begins, the numbers of its first and of its last moment."""
        found = {}
        for moment, call in enumerate(self.log):
            first, _ = found.get(call, (moment, moment))
            found[call] = (first, moment)
        return found


def replaced(row, index, one):
    """The tuple with another value at one place."""
    return row[:index] + (one,) + row[index + 1:]


def call_at(process, index):
    """A call of a process before its first moment, or None if there is none with this number."""
    if index < len(process.calls):
        return begun_call(process, process.calls[index])
    return None


def unwoven(tree, processes):
    """The processes before their first moments."""
    callings = tuple([call_at(process, 0) for process in processes])
    return Woven(processes, Stage(tree, len(tree.nodes), ()), callings, ((),) * len(processes), ())


def all_woven(begun):
    """The ends of all weavings; Large if there are too many."""
    found = []
    waiting = [begun]
    while waiting:
        woven = waiting.pop()
        numbers = woven.going_on()
        waiting.extend([woven.after_moment(number) for number in numbers])
        if len(numbers) == 0:
            found.append(woven)
            if len(found) > MOST_WOVEN:
                raise Large(MOST_WOVEN + 1)
    return found


def whole_orders(begun):
    """For the texts of results all orders of whole calls that have them."""
    found = {}
    waiting = [begun]
    while waiting:
        woven = waiting.pop()
        numbers = woven.going_on()
        waiting.extend([woven.after_call(number) for number in numbers])
        if len(numbers) == 0:
            found.setdefault(woven.texts(), []).append(list(woven.spans()))
    return found


def keeps_times(order, spans):
    """Whether no call comes behind one before whose begin it had ended."""
    latest_begin = 0
    for call in order:
        first, last = spans[call]
        if last < latest_begin:
            return False
        latest_begin = max(latest_begin, first)
    return True


def endings(tree, processes):
    """What the processes come to, each ending with the number of its weavings."""
    for process in processes:
        check_place(tree, process.place)
    begun = unwoven(tree, processes)
    by_texts = {}
    for woven in all_woven(begun):
        by_texts.setdefault(woven.texts(), []).append(woven)
    orders = whole_orders(begun)
    return [ending(by_texts[texts], orders.get(texts, [])) for texts in sorted(by_texts)]


def ending(weavings, orders):
    """The ending of weavings with the same results, which these orders of whole calls have, too."""
    timely = 0
    for woven in weavings:
        spans = woven.spans()
        if any([keeps_times(order, spans) for order in orders]):
            timely += 1
    return Ending(weavings[0].results, len(weavings), len(orders) > 0, timely)
