"""Pulls: the pieces of one version of a page, gathered in order until it is whole."""

from freshreach.errors import NoAnswer, NoPage
from freshreach.kinds import is_from, is_tuple, is_within, is_word
from freshreach.plans import is_age, is_page_text


class Pull:
    """Takes a house's answers piece by piece, and tells which piece to ask for next, or the whole page."""

    def __init__(self, page):
        if not is_word(page):
            raise NoPage("no page was handed in")
        self.page = page
        self.let_go()

    def take(self, answer):
        """("piece", page, k): ask for this piece; or ("whole", version, text, age, at)."""
        if not is_piece(answer) or answer[1] != self.page:
            raise NoAnswer("no piece of this page was handed in")
        word, page, version, many, k, text, age, at = answer
        if k == 0 and version != self.version:
            self.begin(version, text, at)
        elif version == self.version and k == len(self.texts):
            self.texts.append(text)
            self.since = min(self.since, at)
        else:
            self.let_go()
        if len(self.texts) < many:
            return "piece", page, len(self.texts)
        whole = ("whole", version, "".join(self.texts), age, self.since)
        self.let_go()
        return whole

    def gathered(self):
        """The texts of the pieces that are there."""
        return tuple(self.texts)

    def begin(self, version, text, at):
        self.version = version
        self.texts = [text]
        # As fresh as the piece told longest ago: the page is read as it stood at that moment.
        self.since = at

    def let_go(self):
        self.version = None
        self.texts = []
        self.since = None


def is_piece(thing):
    """Whether it is a house's answer with a piece, of anything."""
    if not is_tuple(thing, 8, 8) or thing[0] != "piece" or not is_word(thing[1]):
        return False
    version, many, k, text, age, at = thing[2:]
    return (
        is_from(version, 1)
        and is_within(many, 1, 16)
        and is_within(k, 0, many - 1)
        and is_page_text(text)
        and is_age(age)
        and is_from(at, 0)
    )
