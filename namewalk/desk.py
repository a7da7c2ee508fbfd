"""Desks: sessions that are led by commands, which are strings."""

from namewalk.errors import BadText, WalkError
from namewalk.others import loose
from namewalk.paths import read_path
from namewalk.session import Session
from namewalk.walking import Look
from namewalk.walktexts import is_number_text, read_deed, result_text, tree_text

# For each way to look: whether links are followed, and whether at the last step, too.
WAYS = {"plain": (False, False), "nearly": (True, False), "all": (True, True)}

QUESTIONS = ("can", "tree", "loose", "history")


class Desk:
    """Answers commands by what they do in a session."""

    def __init__(self, tree, others):
        self.session = Session(tree, others)

    def tell(self, row):
        """The answer to a command, which is never an error."""
        try:
            return self.answer(row)
        except WalkError as error:
            return [error.told()]

    def answer(self, row):
        if not isinstance(row, str):
            raise BadText(0)
        if row in QUESTIONS:
            return self.answer_question(row)
        if row == "step":
            result = self.session.step()
            return ["on" if result is None else result_text(result)]
        if row == "back":
            self.session.back()
            return ["done"]
        if is_beginning(row):
            self.begin_walk(row.split(" "))
            return ["walking"]
        deed = read_deed(row)
        if deed is None:
            raise BadText(0)
        self.session.do(deed)
        return ["done"]

    def answer_question(self, word):
        if word == "can":
            return [result_text(result) for result in self.session.can()]
        if word == "history":
            return [result_text(result) for result in self.session.history()]
        if word == "tree":
            return [tree_text(self.session.now())]
        found = loose(self.session.now(), self.session.scene.others)
        return [" ".join([str(number) for number in found]) if found else "none"]

    def begin_walk(self, words):
        # A path that cannot be read is refused before the session is asked.
        path = read_path(words[3])
        follow, last = WAYS[words[2]]
        self.session.begin(int(words[1]), path, Look(follow, last, None))


def is_beginning(row):
    """Whether a command has the form begin PLACE HOW PATH, whatever PATH is."""
    words = row.split(" ")
    return len(words) == 4 and words[0] == "begin" and is_number_text(words[1]) and words[2] in WAYS
