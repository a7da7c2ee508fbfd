"""Processes: users that do calls, each of which takes several moments."""

from namewalk.errors import NoOwner
from namewalk.kinds import is_owner


class Find:
    """The call that walks along a path."""

    def __init__(self, path):
        self.path = path

    def __eq__(self, other):
        return isinstance(other, Find) and self.path == other.path


class Make:
    """The call that makes a folder or a file."""

    def __init__(self, kind, path):
        self.kind = kind
        self.path = path

    def __eq__(self, other):
        return isinstance(other, Make) and self.kind == other.kind and self.path == other.path


class Remove:
    """The call that takes an entry away."""

    def __init__(self, path):
        self.path = path

    def __eq__(self, other):
        return isinstance(other, Remove) and self.path == other.path


class Shift:
    """The call that moves an entry from one path to another."""

    def __init__(self, path, other):
        self.path = path
        self.other = other

    def __eq__(self, other):
        return isinstance(other, Shift) and self.path == other.path and self.other == other.other


class Process:
    """A process: where its relative paths begin, how it looks, who owns what it makes, and its calls."""

    def __init__(self, place, look, owner, calls):
        self.place = place
        self.look = look
        self.owner = owner
        self.calls = tuple(calls)
        if not is_owner(owner):
            raise NoOwner(owner)

    def __eq__(self, other):
        return (isinstance(other, Process) and self.place == other.place and self.look == other.look
                and self.owner == other.owner and self.calls == other.calls)


class Done:
    """The result of a call whose deed was done."""

    def __eq__(self, other):
        return isinstance(other, Done)


class Made:
    """The result of a call that has come to a node which a call of a process made."""

    def __init__(self, process, call):
        self.process = process
        self.call = call

    def __eq__(self, other):
        return isinstance(other, Made) and self.process == other.process and self.call == other.call
