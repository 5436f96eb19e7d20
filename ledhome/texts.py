"""Webs, things, kinds and doings as texts, written and read."""

from ledhome.errors import NoText
from ledhome.webs import web_of

NO_EXCHANGE = "-"
NO_ROUNDS = "home"
BETWEEN_ROUNDS = " / "


def web_text(web):
    """Write a web."""
    many, pairs = web
    return " ".join([f"{many}:"] + [pair_text(pair) for pair in pairs])


def things_text(things):
    """Write things, or kinds."""
    return " ".join([str(thing) for thing in things])


def doing_text(doing):
    """Write a doing."""
    if not doing:
        return NO_ROUNDS
    return BETWEEN_ROUNDS.join([round_text(exchanges) for exchanges in doing])


def round_text(exchanges):
    """Write a round."""
    if not exchanges:
        return NO_EXCHANGE
    return " ".join([pair_text(pair) for pair in exchanges])


def pair_text(pair):
    """Write a pair of places."""
    one, other = pair
    return f"{one}-{other}"


def read_web(text):
    """Read a web."""
    many, colon, behind = text.partition(":")
    # A blank stands ahead of each pair, so nothing stands ahead of the first one.
    first, *words = behind.split(" ")
    if not is_number(many) or colon == "" or first != "":
        raise NoText("a web is a number, a colon, and pairs, each behind a blank")
    return web_of(int(many), read_pairs(words))


def read_things(text):
    """Read things, or kinds."""
    return [read_kind(word) for word in text.split(" ")]


def read_kind(word):
    """Read a whole number, which may be below 0."""
    if not is_number(word.removeprefix("-")) or word == "-0":
        raise NoText("a kind is a number, with a - ahead where it is below 0")
    return int(word)


def read_doing(text):
    """Read a doing."""
    if text == NO_ROUNDS:
        return []
    return [read_round(part) for part in text.split(BETWEEN_ROUNDS)]


def read_round(text):
    """Read a round."""
    if text == NO_EXCHANGE:
        return []
    exchanges = read_pairs(text.split(" "))
    places = [place for pair in exchanges for place in pair]
    if len(set(places)) != len(places):
        raise NoText("no place stands in a round twice")
    return exchanges


def read_pairs(words):
    """Read pairs that are sorted and unlike."""
    pairs = [read_pair(word) for word in words]
    if pairs != sorted(set(pairs)):
        raise NoText("pairs are sorted, each of them once")
    return pairs


def read_pair(word):
    """Read a pair whose first place is no greater than the other one."""
    one, _, other = word.partition("-")
    if not is_number(one) or not is_number(other) or int(one) > int(other):
        raise NoText("a pair is two places, the lesser one ahead")
    return int(one), int(other)


def is_number(word):
    """Tell whether this writes a whole number from 0 on: figures, without a 0 ahead but 0 itself."""
    return word.isascii() and word.isdigit() and (word == "0" or not word.startswith("0"))
