"""Points 50 and 51, and 2, 3 and 4 as they bear on these."""

import re
import unittest

from ledhome.along import home_along
from ledhome.desk import Desk
from ledhome.errors import HomeError, NeverHome, NoForm, NoneYet, NoRound, NoStep, NoText, NoThings, NoWeb, TooMany
from ledhome.least import least_home
from ledhome.rounds import behind_round
from ledhome.texts import doing_text, read_doing, read_things, read_web, things_text, web_text
from ledhome.webs import cube_web, grid_web, line_web, ring_web
from samples import Case, distances, drawn_doing, shuffled

NUMBER = "(0|[1-9][0-9]{0,2})"
FORMS = [f"(line|ring|cube) {NUMBER}", f"(grid) {NUMBER} {NUMBER}", "(undo|far|never|least|next|lead)",
         "(web|things|round) ([^\n]*)"]

NO_FORMS = [
    "", " ", "  ", "\n", "line", "line ", "line 3 ", " line 3", "line  3", "line 3 4", "line three", "line 03",
    "line 00", "line 1000", "line 0000", "line -1", "line +1", "line 1.0", "line 1_0", "line\n3", "line 3\n",
    "line\t3", "Line 3", "LINE 3", "lines 3", "line3", "ring", "ring ", "ring 3 3", "ring 012", "ring 9999",
    "ring -3", "grid", "grid ", "grid 2", "grid 2 ", "grid 2  3", "grid 2 3 4", "grid 02 3", "grid 2 03",
    "grid 1000 1", "grid 1 1000", "grid 2,3", "grid 2x3", "grid 2 -3", "cube", "cube ", "cube 01", "cube -1",
    "cube 1 1", "cube 1000", "cube two", "web", "things", "round", "web\n", "things\n", "round\n", "web 2:\n",
    "web 2: 0-1\n", "things 1\n0", "things 0\n", "round -\n", "round\n0-1", "Web 1:", "web: 1:", "web1:", "thing 0",
    "things1", "rounds -", "undo ", " undo", "undo 1", "undo\n", "undone", "UNDO", "far ", " far", "far 0", "far\n",
    "never ", "never 1", "never\n", "least ", "least 2", "least\n", "next ", "next 1", "next\n", "lead ", "lead 1",
    "lead\n", "lead home", "tree 0 0", "home", "away", "help", "say far", "0", "3 line", "undo undo", "far never",
    "none", "done", "round-",
]

# Rows on webs of few places, of every kind, and what is refused of them.
POOL = [
    "line 4", "ring 4", "grid 2 2", "cube 2", "web 4: 0-1 2-3", "web 4:", "web 4: 0-3 1-2 1-3", "things 3 2 1 0",
    "things 1 0 3 2", "things 2 3 0 1", "things 0 1 2 3", "things 1 2 3 0", "things 5 5 -7 5", "line 3",
    "things 2 0 1", "cube 3", "round 0-1", "round 2-3", "round 0-1 2-3", "round 1-2", "round -", "round 0-2 1-3",
    "round 0-3 1-2", "round 0-9", "round 1-0", "round 0-1 / 2-3", "round home", "round ", "web ", "things ",
    "web 0:", "web 4: 0-4", "web 4: 1-0", "things -0", "things 1 x", "line 0", "ring 0", "grid 0 2", "cube 6",
    "line 04", "nothing", "far 1", "undo ", "things 6 5 4 3 2 1 0", "line 7",
]
ASKED = ["undo", "undo", "far", "never", "least", "next", "lead"]


class Slow:
    """What a desk is to answer, with all things kept that stood ahead of the rounds that stand."""

    def __init__(self):
        self.web, self.stood = None, []

    def say(self, row):
        """The answer, or the class of the refusal that is due."""
        found = [form for form in FORMS if re.fullmatch(form, row)]
        if not found:
            return NoForm
        try:
            return self.told(*re.fullmatch(found[0], row).groups())
        except HomeError as refusal:
            return refusal.__class__

    def told(self, word, *handed):
        if word in ["line", "ring", "cube", "grid", "web"]:
            make = {"line": line_web, "ring": ring_web, "cube": cube_web, "grid": grid_web}.get(word)
            self.web = make(*map(int, handed)) if make else read_web(*handed)
            self.stood = self.stood[-1:]
            return f"places {self.web[0]}"
        if word == "things":
            self.stood = [read_things(*handed)]
            return f"things {len(self.stood[0])}"
        doing = read_doing(*handed) if word == "round" else None
        if doing is not None and (len(doing) != 1 or handed[0] == "home"):
            return NoText
        if self.web is None or not self.stood:
            return NoneYet
        if word == "undo" and len(self.stood) == 1:
            return NoStep
        return self.asked(word, doing)

    def asked(self, word, doing):
        things, many = self.stood[-1], self.web[0]
        if word == "round":
            self.stood.append(behind_round(self.web, things, doing[0]))
            return self.away()
        if word == "undo":
            self.stood.pop()
            return self.away()
        if sorted(things) != list(range(many)):
            return NoThings
        far = distances(self.web)
        ways = [far[place][home] for place, home in enumerate(things)]
        if word == "far":
            return " ".join("none" if way is None else str(way) for way in ways)
        if word == "never":
            return str(ways.index(None)) if None in ways else "none"
        if word == "lead":
            doing = home_along(self.web, things)
            self.stood = [list(range(many))]
            return f"rounds {len(doing)}"
        kind, told = least_home(self.web, things)
        if kind == "never":
            return "never"
        return str(len(told)) if word == "least" else doing_text(told[:1])

    def away(self):
        return f"away {sum(home != place for place, home in enumerate(self.stood[-1]))}"


class DeskCase(Case):
    def check_said(self, desk, *rows):
        """Each row is followed by its answer, or by the class of its refusal."""
        for row, due in zip(rows[::2], rows[1::2]):
            if isinstance(due, type):
                self.check_refused(due, desk.say, row)
            else:
                told = desk.say(row)
                self.assertEqual((row, told), (row, due))
                self.assertIs(told.__class__, str)

    def desk(self, *rows):
        desk = Desk()
        for row in rows:
            desk.say(row)
        return desk


class Point50(DeskCase):
    def test_webs(self):
        self.check_said(
            Desk(), "web 3: 0-1 1-2", "places 3", "web 1:", "places 1", "line 5", "places 5", "ring 40", "places 40",
            "grid 5 8", "places 40", "cube 0", "places 1", "cube 5", "places 32", "line 1", "places 1", "ring 1",
            "places 1", "grid 1 1", "places 1", "line 999", "places 999", "web 99: 0-98", "places 99",
        )

    def test_each_word_tells_its_own_web(self):
        # How far things are from home tells the webs apart.
        for row, due in [
            ("line 6", "5 3 1 1 3 5"), ("ring 6", "1 3 1 1 3 1"), ("grid 2 3", "3 1 3 3 1 3"),
            ("grid 3 2", "3 3 1 1 3 3"), ("grid 6 1", "5 3 1 1 3 5"), ("web 6: 0-5", "1 none none none none 1"),
        ]:
            self.check_said(Desk(), row, "places 6", "things 5 4 3 2 1 0", "things 6", "far", due)
        self.check_said(self.desk("things 4 1 2 3 0 5"), "grid 2 3", "places 6", "far", "2 0 0 0 2 0")
        self.check_said(self.desk("things 4 1 2 3 0 5"), "grid 3 2", "places 6", "far", "2 0 0 0 2 0")
        self.check_said(self.desk("things 2 1 0 3 4 5"), "grid 2 3", "places 6", "far", "2 0 2 0 0 0")
        self.check_said(self.desk("things 2 1 0 3 4 5"), "grid 3 2", "places 6", "far", "1 0 1 0 0 0")
        self.check_said(self.desk("things 7 6 5 4 3 2 1 0"), "cube 3", "places 8", "far", "3 3 3 3 3 3 3 3")

    def test_things_whether_they_fit_a_web_or_not(self):
        self.check_said(
            self.desk("line 3"), "things 2 0 1", "things 3", "things 0", "things 1", "things 5 5 -7 5", "things 4",
            "things 1 2 3", "things 3", "things -1000", "things 1",
        )
        self.check_said(Desk(), "things 1 0", "things 2")

    def test_rounds(self):
        self.check_said(
            self.desk("line 4", "things 3 2 1 0"), "round 0-1 2-3", "away 4", "round 1-2", "away 4",
            "round -", "away 4", "round 0-1 2-3", "away 2", "round 1-2", "away 0", "round 0-1", "away 2",
        )

    def test_undo(self):
        self.check_said(
            self.desk("line 4", "things 1 0 2 3"), "round 0-1", "away 0", "undo", "away 2", "round 2-3", "away 4",
            "round 0-1", "away 2", "round -", "away 2", "undo", "away 2", "undo", "away 4", "undo", "away 2", "undo",
            NoStep, "far", "1 1 0 0",
        )

    def test_many_rounds_done_and_undone_one_by_one(self):
        for web in [line_web(9), grid_web(5, 8), cube_web(3), ring_web(4)]:
            for seed in range(3):
                doing, things = drawn_doing(web, 60, seed), shuffled(range(web[0]), seed)
                desk, slow = Desk(), Slow()
                rows = [f"round {doing_text([exchanges])}" for exchanges in doing]
                told = [f"web {web_text(web)}", f"things {things_text(things)}"]
                for row in [*told, *rows, *["undo", "far"] * 60]:
                    self.check_said(desk, row, slow.say(row))
                self.check_said(desk, "undo", NoStep)

    def test_far(self):
        self.check_said(self.desk("line 3", "things 2 1 0"), "far", "2 0 2")
        self.check_said(self.desk("web 4: 0-1", "things 1 0 3 2"), "far", "1 1 none none")
        self.check_said(self.desk("cube 0", "things 0"), "far", "0")
        self.check_said(self.desk("line 12", "things 11 1 2 3 4 5 6 7 8 9 10 0"), "far", "11 0 0 0 0 0 0 0 0 0 0 11")

    def test_never(self):
        self.check_said(self.desk("line 3", "things 2 1 0"), "never", "none")
        self.check_said(self.desk("web 4: 0-1", "things 1 0 3 2"), "never", "2")
        self.check_said(self.desk("web 2:", "things 1 0"), "never", "0")

    def test_least(self):
        self.check_said(self.desk("line 3", "things 2 1 0"), "least", "3")
        self.check_said(self.desk("line 6", "things 0 1 2 3 4 5"), "least", "0")
        self.check_said(self.desk("web 4: 0-1", "things 1 0 3 2"), "least", "never")

    def test_next(self):
        self.check_said(self.desk("line 3", "things 2 1 0"), "next", "0-1")
        self.check_said(self.desk("grid 2 3", "things 3 4 5 0 1 2"), "next", "0-3 1-4 2-5")
        self.check_said(self.desk("line 6", "things 0 1 2 3 4 5"), "next", "home")
        self.check_said(self.desk("web 4: 0-1", "things 1 0 3 2"), "next", "never")

    def test_what_is_told_next_leads_home(self):
        for things in ["5 4 3 2 1 0", "1 2 3 4 5 0", "3 1 5 0 2 4"]:
            for web in ["line 6", "ring 6", "grid 2 3", "web 6: 0-1 0-2 0-3 0-4 0-5"]:
                desk = self.desk(web, f"things {things}")
                for left in range(int(desk.say("least")), 0, -1):
                    self.check_said(desk, "least", str(left))
                    desk.say(f"round {desk.say('next')}")
                self.check_said(desk, "least", "0", "next", "home")

    def test_lead(self):
        self.check_said(self.desk("line 2", "things 1 0"), "lead", "rounds 1", "far", "0 0", "lead", "rounds 0")
        for web, row in [(grid_web(5, 8), "grid 5 8"), (ring_web(40), "ring 40"), (cube_web(5), "cube 5")]:
            things = shuffled(range(web[0]), 1)
            desk = self.desk(row, f"things {things_text(things)}")
            rounds = len(home_along(web, things))
            self.check_said(desk, "lead", f"rounds {rounds}", "far", " ".join("0" * web[0]), "round -", "away 0")

    def test_things_that_were_told_ahead_of_the_web(self):
        self.check_said(Desk(), "things 1 0 2", "things 3", "line 3", "places 3", "far", "1 1 0", "round 0-1", "away 0")


class Point51Forgets(DeskCase):
    def test_things_told_anew_forget_the_rounds_done(self):
        self.check_said(
            self.desk("line 3", "things 2 1 0", "round 0-1"),
            "things 0 2 1", "things 3", "undo", NoStep, "far", "0 1 1",
        )
        # The same things told again are told anew.
        self.check_said(self.desk("line 2", "things 1 0", "round -"), "things 1 0", "things 2", "undo", NoStep)

    def test_a_web_forgets_the_rounds_done(self):
        for row in ["line 3", "ring 3", "grid 1 3", "web 3: 0-1 1-2", "cube 1"]:
            desk = self.desk("line 3", "things 2 1 0", "round 0-1", "round 1-2", row)
            self.check_said(desk, "undo", NoStep)

    def test_the_things_stay_as_they_stand_where_a_web_is_told(self):
        self.check_said(self.desk("line 3", "things 2 1 0", "round 0-1"), "ring 3", "places 3", "far", "1 1 1")

    def test_lead_forgets_the_rounds_done(self):
        self.check_said(
            self.desk("line 3", "things 2 1 0", "round 0-1"), "lead", "rounds 2", "undo", NoStep, "far", "0 0 0",
            "round 1-2", "away 2", "undo", "away 0", "undo", NoStep,
        )

    def test_what_is_asked_forgets_nothing(self):
        desk = self.desk("line 3", "things 2 1 0", "round 0-1")
        self.check_said(desk, "far", "1 1 2", "never", "none", "least", "2", "next", "1-2", "undo", "away 2")
        self.check_said(desk, "undo", NoStep)


class Point51Refused(DeskCase):
    def test_no_form(self):
        for row in NO_FORMS:
            for desk in [Desk(), self.desk("line 3"), self.desk("line 3", "things 2 1 0", "round 0-1")]:
                self.check_refused(NoForm, desk.say, row)

    def test_numbers_of_one_to_three_figures(self):
        self.check_said(
            Desk(), "line 0", NoWeb, "ring 0", NoWeb, "grid 0 3", NoWeb, "grid 3 0", NoWeb, "cube 6", NoWeb,
            "cube 999", NoWeb, "line 10", "places 10", "line 100", "places 100", "line 1000", NoForm,
            "cube 0", "places 1", "cube 00",
            NoForm,
        )

    def test_what_stands_behind_the_blank_is_the_text(self):
        for word in ["web", "things", "round"]:
            for text in ["", " ", "x", " 0", "0 ", "-0", "00", "0  1"]:
                self.check_refused(NoText, Desk().say, f"{word} {text}")
        self.check_said(Desk(), "web  1:", NoText, "web 1: ", NoText, "things  1", NoText, "things 1 ", NoText)
        self.check_said(Desk(), "round  -", NoText, "round - ", NoText)

    def test_what_reading_refuses(self):
        self.check_said(
            Desk(), "web 3", NoText, "web 3: 1-0", NoText, "web 0:", NoWeb, "web 3: 0-3", NoWeb, "web 3: 1-1", NoWeb,
            "things -", NoText, "things 1,0", NoText, "round 1-0", NoText, "round 0-1 1-2", NoText, "round 0-0",
            NoText,
        )

    def test_a_text_of_several_rounds_or_none_is_no_round(self):
        for desk in [Desk(), self.desk("line 3", "things 2 1 0")]:
            self.check_said(desk, "round home", NoText, "round 0-1 / 1-2", NoText, "round - / -", NoText)

    def test_none_yet(self):
        for rows in [[], ["line 3"], ["things 2 1 0"], ["things 5 5 5"]]:
            desk = self.desk(*rows)
            for row in ["round -", "round 0-1", "round 8-9", *ASKED]:
                self.check_refused(NoneYet, desk.say, row)

    def test_no_step(self):
        for things in ["2 1 0", "5 5 5", "0"]:
            self.check_said(self.desk("line 3", f"things {things}"), "undo", NoStep)
            self.check_said(self.desk(f"things {things}", "line 3"), "undo", NoStep)

    def test_no_things(self):
        for things in ["5 5 5", "0 1", "0 1 2 3", "0 1 3", "0 0 1", "-1 0 1"]:
            desk = self.desk("line 3", f"things {things}")
            for row in ["round -", "round 0-1", "round 8-9", "far", "never", "least", "next", "lead"]:
                self.check_refused(NoThings, desk.say, row)
        # Things of another web, with too many places for the fewest rounds, too.
        for web in ["line 7", "cube 3", "line 999"]:
            desk = self.desk(web, "things 2 1 0")
            for row in ["round -", "far", "never", "least", "next", "lead"]:
                self.check_refused(NoThings, desk.say, row)

    def test_no_round(self):
        desk = self.desk("line 3", "things 2 1 0")
        for row in ["round 0-2", "round 2-3", "round 0-1 2-3", "round 8-9", "round 0-999"]:
            self.check_refused(NoRound, desk.say, row)

    def test_too_many(self):
        for web, many in [("line 7", 7), ("cube 3", 8), ("grid 5 8", 40), ("web 7:", 7)]:
            for things in [range(many), range(many - 1, -1, -1)]:
                desk = self.desk(web, f"things {things_text(things)}")
                self.check_said(desk, "least", TooMany, "next", TooMany)

    def test_never_home(self):
        self.check_said(self.desk("web 4: 0-1", "things 1 0 3 2"), "lead", NeverHome, "never", "2")
        self.check_said(self.desk("web 7:", "things 1 0 2 3 4 5 6"), "lead", NeverHome, "least", TooMany, "never", "0")

    def test_which_refusal_goes_first(self):
        # No form, ahead of what reading refuses; that, ahead of what is not told yet.
        self.check_said(Desk(), "web 0:\n", NoForm, "things x\n", NoForm, "round x\n", NoForm, "undo ", NoForm)
        self.check_said(Desk(), "round 1-0", NoText, "round ", NoText, "round x", NoText)
        # What is not told yet, ahead of no step and of what the stages refuse.
        self.check_said(self.desk("line 7"), "undo", NoneYet, "round 8-9", NoneYet, "least", NoneYet)
        self.check_said(self.desk("things 5 5"), "undo", NoneYet, "round 8-9", NoneYet, "lead", NoneYet)
        # No step, ahead of no things; no things, ahead of no round, of too many and of what never comes home.
        self.check_said(self.desk("line 3", "things 5 5"), "undo", NoStep, "round 8-9", NoThings, "far", NoThings)
        self.check_said(self.desk("web 7:", "things 1 0"), "undo", NoStep, "least", NoThings, "lead", NoThings)

    def test_what_is_refused_changes_nothing(self):
        told = ["web 6: 0-1 1-2 3-4", "things 2 1 0 4 3 5", "round 0-1", "round 1-2 3-4"]
        desk, refused = self.desk(*told), 0
        for row in POOL + NO_FORMS:
            slow = Slow()
            due = [slow.say(one) for one in [*told, row]][-1]
            if isinstance(due, type):
                self.check_refused(due, desk.say, row)
                self.check_said(desk, "far", "1 1 0 0 0 0", "least", "1", "next", "0-1", "never", "none")
                refused += 1
        self.assertGreater(refused, 100)
        self.check_said(desk, "undo", "away 5", "undo", "away 4", "undo", NoStep)

    def test_a_lead_that_is_refused_forgets_nothing(self):
        desk = self.desk("web 4: 0-1", "things 1 0 3 2", "round 0-1")
        self.check_said(desk, "lead", NeverHome, "far", "0 0 none none", "undo", "away 4", "far", "1 1 none none")

    def test_a_web_or_things_that_are_refused_forget_nothing(self):
        for row in ["web 0:", "web x", "things x", "line 0", "grid 1 0", "cube 6", "ring 0", "line 03"]:
            desk = self.desk("line 3", "things 2 1 0", "round 0-1")
            with self.assertRaises(HomeError):
                desk.say(row)
            self.check_said(desk, "far", "1 1 2", "undo", "away 2", "far", "2 0 2")

    def test_a_round_that_is_refused_does_not_stand(self):
        desk = self.desk("line 3", "things 2 1 0")
        self.check_said(desk, "round 0-2", NoRound, "undo", NoStep, "round x", NoText, "undo", NoStep)
        desk = self.desk("line 3", "things 5 5 5")
        self.check_said(desk, "round 0-1", NoThings, "undo", NoStep)


class Rows(DeskCase):
    """Rows in any order, on one desk and on several."""

    def test_rows_in_any_order(self):
        seen = set()
        for seed in range(400):
            desk, slow = Desk(), Slow()
            fitting = ["line 4", "things 3 2 1 0"] if seed % 4 else []
            for row in fitting + shuffled(POOL + ASKED * 4, seed):
                due = slow.say(row)
                self.check_said(desk, row, due)
                seen.add((row.partition(" ")[0] if row in POOL + ASKED else row, due if isinstance(due, type) else str))
        words = {word for word, due in seen if due is str}
        self.assertEqual(words, {"line", "ring", "grid", "cube", "web", "things", "round", *ASKED})
        refusals = {due for _, due in seen} - {str}
        self.assertEqual(refusals, {NoForm, NoText, NoWeb, NoneYet, NoStep, NoThings, NoRound, TooMany, NeverHome})

    def test_two_desks_know_nothing_of_one_another(self):
        for seed in range(40):
            desks = [(Desk(), Slow()), (Desk(), Slow())]
            for at, row in enumerate(shuffled((POOL + ASKED) * 2, seed)):
                desk, slow = desks[(at + seed) % 2]
                self.check_said(desk, row, slow.say(row))
        first, second = Desk(), Desk()
        self.check_said(first, "line 2", "places 2", "things 1 0", "things 2", "round -", "away 2")
        self.check_said(second, "undo", NoneYet, "line 3", "places 3", "things 2 1 0", "things 3", "undo", NoStep)
        self.check_said(first, "undo", "away 2", "far", "1 1")
        self.check_said(second, "far", "2 0 2")


if __name__ == "__main__":
    unittest.main()
