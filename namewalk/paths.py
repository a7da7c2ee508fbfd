"""Paths, and the texts that are read as paths."""

from namewalk.errors import BadText, NoPath
from namewalk.kinds import is_name


class Path:
    """A path: its steps, whether it is absolute, whether it wants a folder."""

    def __init__(self, steps, absolute, folder):
        self.steps = tuple(steps)
        self.absolute = absolute
        self.folder = folder
        if not all([is_step(step) for step in self.steps]):
            raise NoPath()
        # A text that does not end with a name always wants a folder.
        if not folder and not ends_with_name(self.steps):
            raise NoPath()

    def __eq__(self, other):
        return (isinstance(other, Path) and self.steps == other.steps
                and self.absolute == other.absolute and self.folder == other.folder)


def is_step(value):
    return is_name(value) or value == ".."


def ends_with_name(steps):
    return len(steps) > 0 and steps[-1] != ".."


def bad_place(text):
    """Where the first component that is none begins, or None if text is a path's text."""
    if not isinstance(text, str) or text == "":
        return 0
    place = 0
    for part in text.split("/"):
        if part not in ("", ".") and not is_step(part):
            return place
        place += len(part) + 1
    return None


def read_path(text):
    place = bad_place(text)
    if place is not None:
        raise BadText(place)
    parts = text.split("/")
    steps = [part for part in parts if part not in ("", ".")]
    return Path(steps, parts[0] == "", parts[-1] in ("", ".", ".."))


def path_text(path):
    """The shortest text that is read as the path."""
    text = "/".join(path.steps)
    if path.absolute:
        text = "/" + text
    if path.folder and ends_with_name(path.steps):
        text = text + "/"
    if text == "":
        return "."
    return text
