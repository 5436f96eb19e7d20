"""Points 43 and 44, and 2, 3 and 4 as they bear on these."""

import re
import unittest

from ledhome.along import home_along
from ledhome.errors import NoText, NoWeb
from ledhome.rounds import behind_doing
from ledhome.shorter import where_to
from ledhome.texts import doing_text, read_doing, read_things, read_web, things_text, web_text
from ledhome.webs import cube_web, grid_web, how_far, line_web, ring_web, web_of
from samples import (
    FULL, GREAT, GREAT_WEBS, GRID, LINE, ONE, PARTS, WEBS, Case,
    drawn_doing, many_doings, many_things, shuffled, small_webs,
)

NUMBER = "(?:0|[1-9][0-9]*)"
PAIR = f"{NUMBER}-{NUMBER}"
ROUND = f"(?:-|{PAIR}(?: {PAIR})*)"

KINDS = [[0], [-1], [7], [GREAT], [-GREAT], [0, 0, 0], [-3, 10, -10, 100, 5], [GREAT, -GREAT, 0], [9, 90, 900, 909],
         [10 ** 29, -10 ** 29], list(range(-20, 20)), list(range(99))]

# Signs that stand in texts, and some that stand in none.
SIGNS = " -:/0123456789\nhome.,+_~!aA(["


def web_of_99():
    """A web of ninety-nine places, not all of which hang together."""
    return web_of(99, [(k, k + 1) for k in range(0, 98, 3)] + [(k, 98 - k) for k in range(40)])


def doings():
    """Doings of many kinds on webs of one place to forty."""
    for web in WEBS:
        yield from many_doings(web, [1, 2, 5])
    for web in GREAT_WEBS:
        yield drawn_doing(web, 4, 1)


def pairs_in(text):
    """The pairs that stand in a text."""
    return [tuple(map(int, pair.split("-"))) for pair in re.findall(PAIR, text)]


def due_web(text):
    """The web that the text writes, or the refusal that is due, by its form as the document tells it."""
    if not re.fullmatch(f"{NUMBER}:(?: {PAIR})*", text):
        return NoText
    many, pairs = int(text.split(":")[0]), pairs_in(text)
    if pairs != sorted(set(pairs)) or any(a > b for a, b in pairs):
        return NoText
    if many < 1 or any(a == b or b >= many for a, b in pairs):
        return NoWeb
    return many, pairs


def due_things(text):
    """The numbers that the text writes, or the refusal that is due."""
    if not re.fullmatch("(?:0|-?[1-9][0-9]*)(?: (?:0|-?[1-9][0-9]*))*", text):
        return NoText
    return [int(word) for word in text.split()]


def due_doing(text):
    """The doing that the text writes, or the refusal that is due."""
    if text == "home":
        return []
    if not re.fullmatch(f"{ROUND}(?: / {ROUND})*", text):
        return NoText
    doing = [pairs_in(part) for part in text.split(" / ")]
    for pairs in doing:
        places = [place for pair in pairs for place in pair]
        if pairs != sorted(pairs) or any(a >= b for a, b in pairs) or len(set(places)) < len(places):
            return NoText
    return doing


def spoiled(text):
    """The text with a sign left out, doubled, put in, put in its stead, or two of them exchanged, at each place."""
    for at in range(len(text) + 1):
        yield text[:at] + text[at + 1:]
        yield text[:at] + text[at:at + 1] + text[at:]
        yield text[:at] + text[at + 1:at + 2] + text[at:at + 1] + text[at + 2:]
        for sign in SIGNS:
            yield text[:at] + sign + text[at:]
            yield text[:at] + sign + text[at + 1:]
    yield from [f" {text}", f"{text} ", f"{text}\n", f"\n{text}", text.replace(" ", "  "), text.replace("-", " - "),
                text.upper(), f"{text} {text}", f"{text} / {text}", f"{text}/{text}", text[::-1]]


class TextCase(Case):
    def check_read(self, function, due, text):
        """The text is read to what is due, or refused with the refusal that is due."""
        if isinstance(due, type):
            self.check_refused(due, function, text)
        else:
            told = function(text)
            self.assertEqual(told, due)
            self.assertIs(told.__class__, due.__class__)
            return told
        return None


class Point43(TextCase):
    def check_text(self, told, due):
        self.assertEqual(told, due)
        self.assertIs(told.__class__, str)

    def test_webs(self):
        self.check_text(web_text(line_web(3)), "3: 0-1 1-2")
        self.check_text(web_text(ONE), "1:")
        self.check_text(web_text((4, [])), "4:")
        self.check_text(web_text(LINE), "5: 0-1 1-2 2-3 3-4")
        self.check_text(web_text(web_of(GREAT, [(GREAT - 1, 10)])), f"{GREAT}: 10-{GREAT - 1}")

    def test_things_and_kinds(self):
        self.check_text(things_text([0]), "0")
        self.check_text(things_text([2, 0, 1]), "2 0 1")
        self.check_text(things_text([-3, 10, -10, 0]), "-3 10 -10 0")
        self.check_text(things_text([GREAT, -GREAT]), f"{GREAT} -{GREAT}")
        self.check_text(things_text(list(range(12))), "0 1 2 3 4 5 6 7 8 9 10 11")

    def test_doings(self):
        self.check_text(doing_text([]), "home")
        self.check_text(doing_text([[]]), "-")
        self.check_text(doing_text([[], []]), "- / -")
        self.check_text(doing_text([[(0, 1)]]), "0-1")
        self.check_text(doing_text([[(0, 1), (2, 3)], [], [(1, 2)]]), "0-1 2-3 / - / 1-2")
        self.check_text(doing_text([[(9, 10), (11, GREAT)]]), f"9-10 11-{GREAT}")

    def test_what_is_handed_in_stays(self):
        for web in WEBS:
            self.told_by(web_text, web)
        for kinds in KINDS:
            self.told_by(things_text, kinds)
        for doing in doings():
            self.told_by(doing_text, doing)

    def test_what_was_handed_in_is_not_kept(self):
        web, things, doing = line_web(3), [1, 0], [[(0, 1)], []]
        self.assertEqual([web_text(web), things_text(things), doing_text(doing)], ["3: 0-1 1-2", "1 0", "0-1 / -"])
        web[1].pop()
        things.reverse()
        doing.reverse()
        self.assertEqual([web_text(web), things_text(things), doing_text(doing)], ["3: 0-1", "0 1", "- / 0-1"])


class Point44Webs(TextCase):
    def check_spoiled(self, text):
        for wrong in spoiled(text):
            self.check_read(read_web, due_web(wrong), wrong)

    def test_what_is_written_is_read_to_the_same(self):
        for web in [*WEBS, *GREAT_WEBS, *small_webs(4), web_of(GREAT, [(0, GREAT - 1)])]:
            told = self.check_read(read_web, web, web_text(web))
            self.assertIs(told[1].__class__, list)
            self.assertTrue(all(pair.__class__ is tuple for pair in told[1]))

    def test_webs_to_ninety_nine_places(self):
        for web in [line_web(99), ring_web(99), grid_web(9, 11), (99, []), (98, [(0, 97)]), web_of_99()]:
            self.check_read(read_web, web, web_text(web))
        self.check_refused(NoWeb, read_web, "99: 0-99")

    def test_a_greater_web_that_was_read_is_handed_on(self):
        web, things = read_web(web_text(line_web(99))), list(range(99))[::-1]
        self.assertEqual(how_far(web, 0, 98), 98)
        self.check_list(behind_doing(web, things, [[(0, 1)], [(97, 98)]]), [97, 98, *range(96, 1, -1), 0, 1])
        self.check_list(where_to(web, [[(0, 1)], [(1, 2)]]), [2, 0, 1, *range(3, 99)])
        self.check_leads_home(web, things, home_along(web, things))

    def test_texts_that_are_spoiled(self):
        for text in ["1:", "2: 0-1", "3: 0-1 1-2", "4: 0-1 0-2 1-3", "12: 9-10 10-11", "20: 0-10 1-2 1-19"]:
            self.check_spoiled(text)

    def test_no_text(self):
        for text in [
            "", " ", ":", "3", "home", "-", "3 :", "3: ", "3:0-1", "3:  0-1", "3: 0-1 ", " 3: 0-1", "3: 0 - 1",
            "3: 0-1\n", "3:\n0-1", "\n3:", "03:", "00:", "3: 00-1", "3: 0-01", "3: 0_1", "3: 0-1-2", "3: 0--1",
            "3: -0-1", "-1:", "-3: 0-1", "+3:", "3: +0-1", "3: 0-1, 1-2", "3: 0-1 / 1-2", "3; 0-1", "3: a-b", "3.0:",
            "3: 0-1:", "3:: 0-1", "3: 0-", "3: -1", "3: -", "3: 0", "three:", "1e1:", "1_0:", "3: 0-1  1-2", "0 1 2",
        ]:
            self.check_refused(NoText, read_web, text)

    def test_pairs_unsorted_twice_or_with_the_greater_place_ahead(self):
        for text in [
            "3: 1-2 0-1", "3: 0-1 0-1", "3: 1-0", "3: 0-1 2-1", "4: 0-2 0-1", "4: 0-1 0-1 1-2", "12: 10-11 9-10",
        ]:
            self.check_refused(NoText, read_web, text)
        # Sorted as numbers, not as texts.
        self.check_read(read_web, (12, [(2, 3), (2, 10), (9, 10), (10, 11)]), "12: 2-3 2-10 9-10 10-11")
        self.check_refused(NoText, read_web, "12: 10-11 2-3")
        self.check_refused(NoText, read_web, "12: 2-10 2-3")

    def test_what_has_the_form_and_is_none(self):
        for text in [
            "0:", "0: 0-1", "0: 0-0", "1: 0-1", "1: 0-0", "2: 0-2", "2: 0-1 1-2", "3: 1-1", "3: 0-1 2-2", "3: 2-2",
            "40: 0-1 0-40", f"3: 0-{GREAT}", f"3: {GREAT}-{GREAT}",
        ]:
            self.check_refused(NoWeb, read_web, text)

    def test_no_text_goes_ahead_of_no_web(self):
        for text in [
            "0: 1-0", "1: 5-1", "1: 0-0 0-0", "2: 7-8 1-1", "2: 5-5 5-5", "0:  ", "00:", "0: 0-1 0-1", "2: 0-5 x",
        ]:
            self.check_refused(NoText, read_web, text)

    def test_figures_of_other_letters(self):
        for sign in ["\u0663", "\u00b2", "\uff11"]:
            for text in [f"{sign}:", f"3{sign}:", f"3: {sign}-{sign}", f"3: 0-{sign}"]:
                self.check_refused(NoText, read_web, text)
            self.check_refused(NoText, read_things, sign)
            self.check_refused(NoText, read_doing, f"0-{sign}")

    def test_each_web_is_new(self):
        for web in [*WEBS, FULL]:
            self.told_by(read_web, web_text(web))


class Point44Things(TextCase):
    def test_what_is_written_is_read_to_the_same(self):
        for kinds in KINDS:
            self.check_read(read_things, kinds, things_text(kinds))
        for many in [1, 2, 5, 11, 40]:
            for things in many_things(many):
                self.check_read(read_things, things, things_text(things))

    def test_long_texts(self):
        for kinds in [[GREAT - k for k in range(96)], [-k for k in range(700)], shuffled(range(700), 1)]:
            self.check_read(read_things, kinds, things_text(kinds))

    def test_texts_that_are_spoiled(self):
        for text in ["0", "-7", "10 -10 0", "2 0 1", "100 -5 -60 7", f"{-GREAT} 0"]:
            for wrong in spoiled(text):
                self.check_read(read_things, due_things(wrong), wrong)

    def test_no_text(self):
        for text in [
            "", " ", "  ", "-", "--1", "-0", "0 -0", "00", "01", "-01", "1 02", "1  2", " 1", "1 ", "1\n", "\n",
            "1\n2", "+1", "1,2", "1, 2", "[1, 2]", "1.0", "1e2", "1_0", "a", "home", "0-1", "1 - 2", "- 1", "1-",
            "1: 0-1", "0x1", "None",
        ]:
            self.check_refused(NoText, read_things, text)

    def test_each_list_is_new(self):
        for kinds in KINDS:
            self.told_by(read_things, things_text(kinds))


class Point44Doings(TextCase):
    def test_what_is_written_is_read_to_the_same(self):
        for doing in doings():
            self.check_doing(self.check_read(read_doing, doing, doing_text(doing)))
        self.check_read(read_doing, [[(0, GREAT)], [], [(1, 2), (3, 10)]], f"0-{GREAT} / - / 1-2 3-10")

    def test_rounds_as_they_stand(self):
        # No web is asked for: the pairs may be any.
        for web in [GRID, PARTS, cube_web(5)]:
            doing = drawn_doing(web, 9, 3)
            self.check_read(read_doing, doing, doing_text(doing))
        self.check_read(read_doing, [[(0, 98), (1, 97), (2, 3)]], "0-98 1-97 2-3")

    def test_three_hundred_rounds(self):
        for doing in [[[]] * 300, [[(0, 1)], []] * 150, [[(0, 1), (2, 3)]] * 280]:
            self.check_read(read_doing, doing, doing_text(doing))

    def test_texts_that_are_spoiled(self):
        for text in ["home", "-", "- / -", "0-1", "0-1 2-3 / - / 1-2", "- / 9-10 11-12 / -", "0-10 / 1-2 / 0-1"]:
            for wrong in spoiled(text):
                self.check_read(read_doing, due_doing(wrong), wrong)

    def test_no_text(self):
        for text in [
            "", " ", "/", " / ", "0-1 /", "/ 0-1", "0-1 / ", " / 0-1", "0-1 /  / 1-2", "0-1 // 1-2", "0-1/1-2",
            "0-1 /1-2", "0-1/ 1-2", "0-1  / 1-2", "0-1 /  1-2", " 0-1", "0-1 ", "0-1\n", "0-1\n/ 1-2", "home ",
            " home", "Home", "home / -", "- / home", "home home", "--", "- -", "- 0-1", "0-1 -", "00-1", "0-01",
            "0-1-2", "0--1", "-0-1", "-1-0", "0_1", "01", "0 1", "0 - 1", "1:", "1: 0-1", "0-1, 2-3", "a-b",
            "0-1 / x", "+0-1", "0-+1", "none",
        ]:
            self.check_refused(NoText, read_doing, text)

    def test_pairs_that_make_no_round(self):
        for wrong in [
            "1-0", "0-0", "0-1 0-1", "0-1 1-2", "2-3 0-1", "0-1 0-2", "0-2 1-2", "0-3 1-3", "10-11 9-12", "0-1 3-2",
            f"{GREAT}-0", f"{GREAT}-{GREAT}",
        ]:
            for text in [wrong, f"- / {wrong}", f"{wrong} / -", f"0-1 / {wrong} / 2-3"]:
                self.check_refused(NoText, read_doing, text)
        # Sorted as numbers, not as texts.
        self.check_read(read_doing, [[(2, 3), (9, 12), (10, 11)]], "2-3 9-12 10-11")
        self.check_refused(NoText, read_doing, "10-11 2-3")

    def test_a_place_may_stand_in_several_rounds(self):
        self.check_read(read_doing, [[(0, 1)], [(0, 1)], [(0, 2)]], "0-1 / 0-1 / 0-2")

    def test_each_list_is_new(self):
        for doing in doings():
            self.told_by(read_doing, doing_text(doing))


if __name__ == "__main__":
    unittest.main()
