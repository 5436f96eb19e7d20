"""A desk, which is told rows and answers each by a text."""

from ledhome.along import home_along, never_home
from ledhome.errors import NoForm, NoneYet, NoStep
from ledhome.least import least_home
from ledhome.rounds import behind_doing, behind_round, exchanged, far_from_home
from ledhome.texts import doing_text, is_number, read_round, read_things, read_web
from ledhome.webs import cube_web, grid_web, line_web, ring_web

MOST_FIGURES = 3

# The first words of the rows: those with a text behind them, with so many numbers, and with nothing.
TEXTS = ("web", "things", "round")
NUMBERS = {"line": 1, "ring": 1, "grid": 2, "cube": 1}
ALONE = ("undo", "far", "never", "least", "next", "lead")


class Desk:
    """A web and things, as they are told, and the rounds done since."""

    def __init__(self):
        self.web = None
        self.things = None
        self.done = []

    def say(self, row):
        """Answer a row."""
        check_form(row)
        word, _, text = row.partition(" ")
        if word == "things":
            return self.take_things(read_things(text))
        if word == "round":
            return self.do_round(read_round(text))
        if word in ALONE:
            return self.tell(word)
        return self.take_web(web_told(word, text))

    def take_web(self, web):
        """Let this be the web."""
        self.web = web
        self.done = []
        return f"places {web[0]}"

    def take_things(self, things):
        """Let these be the things."""
        self.things = things
        self.done = []
        return f"things {len(things)}"

    def do_round(self, exchanges):
        """Do a round."""
        self.check_told()
        self.things = behind_round(self.web, self.things, exchanges)
        self.done.append(exchanges)
        return self.away()

    def tell(self, word):
        """Answer a row of one word."""
        self.check_told()
        if word == "undo":
            return self.undo()
        if word == "lead":
            return self.lead()
        if word == "far":
            return far_text(self.web, self.things)
        if word == "never":
            return or_none(never_home(self.web, self.things))
        return least_text(word, self.web, self.things)

    def undo(self):
        """Undo the last round that stands."""
        if not self.done:
            raise NoStep("no round stands that could be undone")
        # A round undoes itself.
        self.things = exchanged(self.things, self.done.pop())
        return self.away()

    def lead(self):
        """Lead the things home along the tree."""
        doing = home_along(self.web, self.things)
        self.things = behind_doing(self.web, self.things, doing)
        self.done = []
        return f"rounds {len(doing)}"

    def check_told(self):
        """Refuse to go on without a web or without things."""
        if self.web is None or self.things is None:
            raise NoneYet("a web and things are to be told first")

    def away(self):
        """Tell how many things are not at home."""
        places = [place for place, home in enumerate(self.things) if home != place]
        return f"away {len(places)}"


def check_form(row):
    """Refuse rows of no form."""
    if "\n" in row or not has_form(row):
        raise NoForm("the row has none of the forms that a desk answers")


def has_form(row):
    """Tell whether the row has one of the forms."""
    word, blank, text = row.partition(" ")
    if word in TEXTS:
        return blank != ""
    if word in ALONE:
        return blank == ""
    numbers = text.split(" ")
    return word in NUMBERS and len(numbers) == NUMBERS[word] and all(is_short(number) for number in numbers)


def is_short(word):
    """Tell whether this writes a number of one to three figures."""
    return is_number(word) and len(word) <= MOST_FIGURES


def web_told(word, text):
    """Tell the web that a row tells."""
    if word == "web":
        return read_web(text)
    numbers = [int(number) for number in text.split(" ")]
    if word == "grid":
        return grid_web(numbers[0], numbers[1])
    if word == "line":
        return line_web(numbers[0])
    if word == "ring":
        return ring_web(numbers[0])
    return cube_web(numbers[0])


def far_text(web, things):
    """Tell how far each thing is from home."""
    texts = [or_none(far) for far in far_from_home(web, things)]
    return " ".join(texts)


def or_none(number):
    """Tell a number, or that there is none."""
    if number is None:
        return "none"
    return str(number)


def least_text(word, web, things):
    """Tell how many rounds are the fewest that lead home, or the first one of them."""
    kind, found = least_home(web, things)
    if kind == "never":
        return "never"
    if word == "least":
        return str(len(found))
    # The first round alone is written as a round, and none at all as home.
    return doing_text(found[:1])
