"""Calls: what the calls of processes do, moment by moment."""

from namewalk.deeds import MakeFile, MakeFolder, Move, Take, changed, is_making, why_not
from namewalk.paths import Path, ends_with_name
from namewalk.processes import Done, Find, Made, Make, Shift
from namewalk.views import View
from namewalk.walking import Came, Refused, begun


class Stage:
    """The tree of a moment, made ready for looks, and for each of its new nodes the call that made it.

    A call is told by the pair of the numbers of its process and of itself. New
    nodes are those from the number old on.
    """

    def __init__(self, tree, old, makers):
        self.tree = tree
        self.view = View(tree)
        self.old = old
        self.makers = makers

    def after_deed(self, deed, maker):
        """The stage after a deed of a call, which can be done."""
        makers = self.makers + (maker,) if is_making(deed) else self.makers
        return Stage(changed(self.tree, deed), self.old, makers)

    def named(self, result):
        """The result, with Made for a node that a call made."""
        if isinstance(result, Came) and result.node >= self.old:
            process, call = self.makers[result.node - self.old]
            return Made(process, call)
        return result


class Calling:
    """A call under way: the folders to which its walks have come, and the walk that looks next, or None.

    Its result is None as long as it is not at its end.
    """

    def __init__(self, process, call, folders, going):
        self.process = process
        self.call = call
        self.folders = folders
        self.going = going
        self.result = None

    def with_result(self, result):
        """The call at its end."""
        calling = Calling(self.process, self.call, self.folders, None)
        calling.result = result
        return calling

    def after_look(self, view):
        """The call after a look of its walk."""
        going = self.going.looked(view)
        if going.result is None:
            return Calling(self.process, self.call, self.folders, going)
        if isinstance(self.call, Find) or isinstance(going.result, Refused):
            return self.with_result(going.result)
        return with_next_walk(self.process, self.call, self.folders + (going.at,))

    def after_moment(self, stage, maker):
        """The call and the stage after its next moment; maker tells this call."""
        if self.going is not None:
            return self.after_look(stage.view), stage
        if lacks_name(self.call):
            return self.with_result(Refused("name")), stage
        if isinstance(self.call, Find):
            return self.with_result(Came(self.folders[0])), stage
        deed = self.last_deed()
        why = why_not(stage.tree, deed)
        if why is not None:
            return self.with_result(Refused(why)), stage
        return self.with_result(Done()), stage.after_deed(deed, maker)

    def last_deed(self):
        """The deed of a call whose walks are at their ends."""
        names = [path.steps[-1] for path in paths_of(self.call)]
        if isinstance(self.call, Shift):
            return Move(self.folders[0], names[0], self.folders[1], names[1])
        if not isinstance(self.call, Make):
            return Take(self.folders[0], names[0])
        if self.call.kind == "folder":
            return MakeFolder(self.folders[0], names[0], self.process.owner)
        return MakeFile(self.folders[0], names[0], self.process.owner)


def paths_of(call):
    if isinstance(call, Shift):
        return [call.path, call.other]
    return [call.path]


def lacks_name(call):
    """Whether a call that does a deed has a path without a name at its end."""
    return not isinstance(call, Find) and not all([ends_with_name(path.steps) for path in paths_of(call)])


def begun_call(process, call):
    """The call before its first moment."""
    if lacks_name(call):
        return Calling(process, call, (), None)
    return with_next_walk(process, call, ())


def with_next_walk(process, call, folders):
    """The call that has come to these folders, with the first walk behind them that has a look to do."""
    left = walked_paths(call)[len(folders):]
    for path in left:
        going = begun(process.place, path, process.look)
        if going.result is None:
            return Calling(process, call, folders, going)
        folders = folders + (going.at,)
    return Calling(process, call, folders, None)


def walked_paths(call):
    """The paths that a call walks: but for Find those to the folders of their last steps."""
    if isinstance(call, Find):
        return [call.path]
    return [Path(path.steps[:-1], path.absolute, True) for path in paths_of(call)]
