"""Texts of trees, rows of deeds and results."""

from namewalk.deeds import MakeFile, MakeFolder, MakeLink, Move, Put, Take
from namewalk.errors import BadText
from namewalk.kinds import is_name
from namewalk.paths import bad_place
from namewalk.processes import Done
from namewalk.reaching import New
from namewalk.trees import File, Folder, Gone, Link, Tree
from namewalk.walking import Came, Refused

DIGITS = "0123456789"
MOST_DIGITS = 9

NO_DEEDS = "nothing"

# What stands behind the first word of a deed's text.
DEED_FORMS = {
    "folder": ("number", "name", "number"),
    "file": ("number", "name", "number"),
    "link": ("number", "name", "number", "path"),
    "put": ("number", "name", "number"),
    "take": ("number", "name"),
    "move": ("number", "name", "number", "name"),
}

# What stands behind the first word of a node's text, and behind a folder's owner.
NODE_FORMS = {
    "file": ("number",),
    "link": ("number", "path"),
    "gone": ("number", "number"),
}
ENTRY_FORM = ("name", "number")


def is_number_text(word):
    """Whether a word is a number's: 1 to 9 digits without a leading zero."""
    if not 1 <= len(word) <= MOST_DIGITS or not all([letter in DIGITS for letter in word]):
        return False
    return word == "0" or word[0] != "0"


def is_of_form(word, form):
    if form == "number":
        return is_number_text(word)
    if form == "name":
        return is_name(word)
    return bad_place(word) is None


def read_words(words, forms):
    """The numbers and texts of the words, or None if they are not of these forms."""
    if len(words) != len(forms):
        return None
    if not all([is_of_form(word, form) for word, form in zip(words, forms)]):
        return None
    return [int(word) if form == "number" else word for word, form in zip(words, forms)]


def tree_text(tree):
    return "; ".join([node_text(node) for node in tree.nodes])


def node_text(node):
    if isinstance(node, Folder):
        return " ".join(["folder", str(node.owner)] + [f"{name}={number}" for name, number in node.entries])
    if isinstance(node, File):
        return f"file {node.owner}"
    if isinstance(node, Link):
        return f"link {node.owner} {node.text}"
    return f"gone {node.owner} {node.above}"


def read_tree(text):
    """The tree with this text."""
    return Tree(read_parts(text, "; ", read_node))


def read_parts(text, separator, reads):
    """What is read of the parts of a text; reads returns None for a part that is of no form."""
    if not isinstance(text, str):
        raise BadText(0)
    found = []
    for place, part in enumerate(text.split(separator)):
        one = reads(part)
        if one is None:
            raise BadText(place)
        found.append(one)
    return found


def read_node(text):
    """The node with this text, or None."""
    words = text.split(" ")
    kind = words[0]
    if kind == "folder":
        return read_folder(words[1:])
    if kind not in NODE_FORMS:
        return None
    read = read_words(words[1:], NODE_FORMS[kind])
    if read is None:
        return None
    if kind == "file":
        return File(read[0])
    if kind == "link":
        return Link(read[0], read[1])
    return Gone(read[0], read[1])


def read_folder(words):
    """The folder with these words behind the first one, or None."""
    owner = read_words(words[:1], ("number",))
    entries = [read_words(word.split("="), ENTRY_FORM) for word in words[1:]]
    if owner is None or any([entry is None for entry in entries]):
        return None
    return Folder(owner[0], entries)


def row_text(deeds):
    if len(deeds) == 0:
        return NO_DEEDS
    return ", ".join([deed_text(deed) for deed in deeds])


def deed_text(deed):
    if isinstance(deed, MakeFolder):
        return f"folder {deed.folder} {deed.name} {deed.owner}"
    if isinstance(deed, MakeFile):
        return f"file {deed.folder} {deed.name} {deed.owner}"
    if isinstance(deed, MakeLink):
        return f"link {deed.folder} {deed.name} {deed.owner} {deed.text}"
    if isinstance(deed, Put):
        return f"put {deed.folder} {deed.name} {deed.node}"
    if isinstance(deed, Take):
        return f"take {deed.folder} {deed.name}"
    return f"move {deed.folder} {deed.name} {deed.goal} {deed.other}"


def read_row(text):
    """The deeds of the row with this text."""
    if text == NO_DEEDS:
        return []
    return read_parts(text, ", ", read_deed)


def read_deed(text):
    """The deed with this text, or None."""
    words = text.split(" ")
    kind = words[0]
    if kind not in DEED_FORMS:
        return None
    read = read_words(words[1:], DEED_FORMS[kind])
    if read is None:
        return None
    if kind == "folder":
        return MakeFolder(*read)
    if kind == "file":
        return MakeFile(*read)
    if kind == "link":
        return MakeLink(*read)
    if kind == "put":
        return Put(*read)
    if kind == "take":
        return Take(*read)
    return Move(*read)


def result_text(result):
    if isinstance(result, Came):
        return f"came {result.node}"
    if isinstance(result, New):
        return f"new {result.kind}"
    if isinstance(result, Refused):
        return f"refused {result.why}"
    if isinstance(result, Done):
        return "done"
    return f"made {result.process} {result.call}"
