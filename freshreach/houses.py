"""Houses: pages with their versions, answered piece by piece."""

from freshreach.errors import NoMoment, NoNumber, NoPage, NoPages, NoQuestion, NoText
from freshreach.kinds import check_moment, is_from, is_tuple, is_within, is_word, rises
from freshreach.plans import is_own_page, is_page_text, is_size


class House:
    """Has pages that may be written anew, and answers questions about them."""

    def __init__(self, pages, size):
        if not are_own_pages(pages):
            raise NoPages("no pages were handed in")
        if not is_size(size):
            raise NoNumber("no size was handed in")
        self.size = size
        self.last = 0
        self.ages = {page: age for page, text, age in pages}
        # page: a list of (moment, text), one for each version
        self.texts = {page: [(0, text)] for page, text, age in pages}

    def write(self, page, text, now):
        """Puts another text in the place of the page's, and tells its version."""
        self.check_page(page)
        if not is_page_text(text):
            raise NoText(0)
        check_moment(now, self.last)
        self.last = now
        self.texts[page].append((now, text))
        return len(self.texts[page])

    def answer(self, question, now):
        """What it answers to ("piece", page, k) or to ("same", page, version)."""
        if not is_question(question):
            raise NoQuestion("no question was handed in")
        check_moment(now, self.last)
        self.last = now
        word, page, number = question
        if not self.has_page(page):
            return "none", page, now
        if word == "piece":
            return self.piece(page, number, now)
        if number == len(self.texts[page]):
            return "same", page, number, self.ages[page], now
        return self.piece(page, 0, now)

    def stood(self, page, moment):
        """(version, text) of the page behind all that was done at a moment up to the last one."""
        self.check_page(page)
        if not is_within(moment, 0, self.last):
            raise NoMoment("no moment up to the last one was handed in")
        texts = [text for since, text in self.texts[page] if since <= moment]
        return len(texts), texts[-1]

    def piece(self, page, k, now):
        version = len(self.texts[page])
        pieces = pieces_of(self.texts[page][-1][1], self.size)
        # Who asks beyond the end knows an older, longer version: it is told how the page begins now.
        shown = k if k < len(pieces) else 0
        return "piece", page, version, len(pieces), shown, pieces[shown], self.ages[page], now

    def has_page(self, page):
        # What is no text may be a thing that can't be looked up.
        return isinstance(page, str) and page in self.ages

    def check_page(self, page):
        if not self.has_page(page):
            raise NoPage("none of the house's pages was handed in")


def are_own_pages(thing):
    return (
        is_tuple(thing, 0, 8)
        and all([is_own_page(row) for row in thing])
        and rises([row[0] for row in thing])
    )


def is_question(thing):
    if not is_tuple(thing, 3, 3):
        return False
    word, page, number = thing
    if not is_word(page):
        return False
    if word == "piece":
        return is_from(number, 0)
    return word == "same" and is_from(number, 1)


def pieces_of(text, size):
    # Of the text without signs there is a piece, too: so the begin of it is always one.
    return [text[at:at + size] for at in range(0, max(1, len(text)), size)]
