import random
import unittest
from fractions import Fraction

from growurns import errors
from growurns.desk import Desk
from growurns.errors import BadNote, NoBall, NoKind, NoNumber, NoRule, NoUrn
from growurns.notes import rule_text, urn_text
from tests.helpers import COURSES, CROSSED, FOUR, UrnCase, every_order, no_rule_texts_of_two, no_texts
from tests.helpers import no_urn_texts, square

ONE = "1,0/0,1"

# Wrong whatever is kept: each is a line but for one thing.
NO_LINES = [
    "", " ", "  ", "x", "hello", "a", "1", "1,2", "kep", "keptt", "Kept", "KEPT", "kept ", " kept", "kept a",
    "kept kept", "kept  ", "ke pt", "kept\n", "\nkept", "kept,", "'kept'",
    "show", "show ", "show a b", "show a a", "show  a", " show a", "show a ", "Show a", "SHOW a", "show A",
    "show aB", "show abcdefghi", "show a1", "show 1", "show a_b", "show a-b", "show a.", "show ~", "show `",
    "show {", "show @", "show [", "show a,b", "show a/b", "show\ta", "show a\n", "show,a", "show \u00e4",
    "show \u0430", "shows a", "show 1,2",
    "urn", "urn ", "urn a", "urn a ", "urn 1,2", "urn  1,2", "urn 1,2 a", "urn a 1,2 ", " urn a 1,2",
    "urn  a 1,2", "urn a  1,2", "urn a 1,2 x", "urn a 1,2 1,2", "urn a b", "Urn a 1,2", "urn A 1,2",
    "urn abcdefghi 1,2", "urn a1 1,2", "urn a\n 1,2", "urn a\t1,2", "urns a 1,2", "urn a " + ONE,
    "urn \u00e4 1,2",
    "chance", "chance a", "chance a ", "chance 0", "chance 0 a", "chance a 0 0", "chance a 0 ", " chance a 0",
    "chance  a 0", "chance a  0", "chance a 00", "chance a 01", "chance a 10", "chance a -1", "chance a +1",
    "chance a x", "chance a 0,", "chance A 0", "Chance a 0", "chance a \u0661", "chance a \u00b2",
    "chance a \uff10", "chance a 1,0", "chance abcdefghi 0", "chance a a", "chance a 0\n", "chance a ,",
    "chance a /",
    "draw", "draw a", f"draw a {ONE}", f"draw a {ONE} 0", f"draw a {ONE} b", f"draw a {ONE} 0 b c",
    f"draw a {ONE} 0 b ", f" draw a {ONE} 0 b", f"draw  a {ONE} 0 b", f"draw a  {ONE} 0 b",
    f"draw a {ONE}  0 b", f"draw a {ONE} 0  b", f"Draw a {ONE} 0 b", f"draw A {ONE} 0 b", f"draw a {ONE} 0 B",
    f"draw a {ONE} 00 b", f"draw a {ONE} 10 b", f"draw a {ONE} x b", f"draw a {ONE} 0 b1",
    f"draw a {ONE} 0 abcdefghi", f"draw abcdefghi {ONE} 0 b", f"draw a 0 {ONE} b", f"draw {ONE} a 0 b",
    f"draw a {ONE} b 0", "draw a 0 b", f"draw a {ONE} -1 b", f"draw a {ONE} 0 1",
    "stands", "stands a", f"stands a {ONE}", "stands a 1", f"stands a {ONE} 1 1", f"stands a {ONE} 1 ",
    f"stands a {ONE}  1", f"stands A {ONE} 1", f"Stands a {ONE} 1", f"stands a {ONE} 01",
    f"stands a {ONE} 10", f"stands a {ONE} -1", f"stands a {ONE} x", f"stands a 1 {ONE}", f"stands {ONE} 1",
    f"stand a {ONE} 1", f"stands a {ONE} \u0661",
    "mean", "mean a", f"mean a {ONE}", "mean a 1", f"mean a {ONE} 1 1", f"mean a {ONE} 1 ",
    f"mean a {ONE}  1", f"mean A {ONE} 1", f"Mean a {ONE} 1", f"mean a {ONE} 01", f"mean a {ONE} 10",
    f"mean a {ONE} x", f"means a {ONE} 1", "fair", "fair a", f"fair {ONE}", f"fair a {ONE} 1",
    f"fair a {ONE} ", f"fair  a {ONE}", f"fair a  {ONE}", f"fair A {ONE}", f"Fair a {ONE}", f"fair {ONE} a",
    f"fair a {ONE} {ONE}", "fair a b", "fair a yes",
]


def no_rules_of_any():
    """Words that write no rule of any number of kinds."""
    wrong = [text for text in no_rule_texts_of_two() if text not in ("1", "1,0,0/0,1,0/0,0,1")]
    wrong += ["6", "10", "01", "-1", "x", "1,1", "1/1", "1/1/1/1/1", "1,1,1,1,1", "1,1,1/1,1,1", "1,1,1,1/1,1,1,1"]
    return wrong + ["/".join(["1,1,1,1,1"] * 5), "/".join(["1,1,1,1"] * 5), "/".join(["1,1,1,1"] * 3 + ["1,1,1"])]


def kept_by(desk):
    """All that a desk keeps, by its own answers."""
    return {name: desk.say("show " + name) for name in desk.say("kept").split()}


def written(exact):
    """One of Python's own fractions, as the desk writes it."""
    return str(exact)


class DeskCase(UrnCase):

    def setUp(self):
        self.desk = Desk()
        for name, urn in [("a", "1,2"), ("zero", "0,2"), ("one", "5"), ("three", "1,2,3"), ("four", "1,0,2,4")]:
            self.answers("ok", f"urn {name} {urn}")

    def answers(self, answer, line):
        self.tells(answer, self.desk.say, line)

    def denies(self, due, line):
        """The line is refused, and changes nothing."""
        before = kept_by(self.desk)
        self.refuses(due, self.desk.say, line)
        self.assertEqual(kept_by(self.desk), before)


class TestKeeping(DeskCase):

    def test_urn_and_show(self):
        for text in ["1", "20", "0,1", "1,0", "12,3,0", "20,20,20,20", "0,0,0,1"]:
            self.answers("ok", f"urn b {text}")
            self.answers(text, "show b")

    def test_an_urn_in_the_stead_of_an_elder_one(self):
        self.answers("ok", "urn a 7,7,7")
        self.answers("7,7,7", "show a")
        self.answers("a four one three zero", "kept")

    def test_names_of_one_and_of_eight_letters(self):
        desk = Desk()
        for name in ["a", "z", "m", "abcdefgh", "zzzzzzzz", "urn", "kept", "ok", "full", "show"]:
            self.tells("ok", desk.say, f"urn {name} 3,4")
            self.tells("3,4", desk.say, f"show {name}")

    def test_every_letter(self):
        letters = "abcdefghijklmnopqrstuvwxyz"
        desk = Desk()
        for letter in reversed(letters):
            self.tells("ok", desk.say, f"urn {letter} 1")
        self.tells(" ".join(letters), desk.say, "kept")

    def test_the_names_in_the_order_of_texts(self):
        desk = Desk()
        for name in ["b", "ab", "aa", "z", "a", "abcdefgh", "b", "zz", "az"]:
            desk.say(f"urn {name} 1")
        self.tells("a aa ab abcdefgh az b z zz", desk.say, "kept")

    def test_none_kept(self):
        self.tells("", Desk().say, "kept")

    def test_two_desks_have_nothing_in_common(self):
        one, other = Desk(), Desk()
        one.say("urn a 1,2")
        self.tells("", other.say, "kept")
        self.refuses(NoUrn, other.say, "show a")
        other.say("urn a 3,4")
        other.say("urn b 5")
        self.tells("1,2", one.say, "show a")
        self.tells("a", one.say, "kept")
        one.say(f"draw a {ONE} 0 a")
        self.tells("3,4", other.say, "show a")
        self.tells("2,2", one.say, "show a")

    def test_the_same_again(self):
        for line in ["kept", "show a", "chance a 1", f"stands a {ONE} 6", f"mean a {ONE} 6", f"fair a {ONE}"]:
            before = kept_by(self.desk)
            self.answers(self.desk.say(line), line)
            self.assertEqual(kept_by(self.desk), before)


class TestDraw(DeskCase):

    def test_by_a_new_name(self):
        self.answers("ok", "draw a 0,2/3,1 0 b")
        self.answers("1,4", "show b")
        self.answers("ok", "draw a 0,2/3,1 1 c")
        self.answers("4,3", "show c")
        self.answers("1,2", "show a")
        self.answers("a b c four one three zero", "kept")

    def test_by_its_own_name(self):
        self.answers("ok", f"draw a {ONE} 1 a")
        self.answers("ok", f"draw a {ONE} 1 a")
        self.answers("1,4", "show a")

    def test_in_the_stead_of_an_elder_one(self):
        self.answers("ok", f"draw a {ONE} 1 four")
        self.answers("1,3", "show four")

    def test_of_one_and_of_four_kinds(self):
        self.answers("ok", "draw one 3 0 one")
        self.answers("8", "show one")
        self.answers("ok", f"draw four {rule_text(FOUR)} 0 four")
        self.answers("1,1,4,7", "show four")
        self.answers("ok", f"draw four {rule_text(FOUR)} 3 abcdefgh")
        self.answers("1,1,4,7", "show abcdefgh")

    def test_full(self):
        self.answers("ok", "urn b 20,3")
        self.answers("full", f"draw b {ONE} 0 b")
        self.answers("20,3", "show b")
        self.answers("full", f"draw b {ONE} 0 new")
        self.answers("a b four one three zero", "kept")
        self.answers("full", f"draw b {ONE} 0 a")
        self.answers("1,2", "show a")
        self.answers("ok", f"draw b {ONE} 1 b")
        self.answers("20,4", "show b")

    def test_full_by_any_kind(self):
        for at in range(4):
            urn = tuple(18 if kind == at else 1 for kind in range(4))
            self.answers("ok", f"urn b {urn_text(urn)}")
            for more, answer in [(5, "full"), (3, "full"), (2, "ok"), (0, "ok")]:
                for kind in range(4):
                    self.answers(answer, f"draw b {rule_text(square(4, more))} {kind} c")

    def test_just_twenty(self):
        self.answers("ok", "urn b 15,1")
        self.answers("ok", "draw b 5,0/0,0 0 b")
        self.answers("20,1", "show b")
        self.answers("full", "draw b 5,0/0,0 0 b")
        self.answers("ok", "draw b 0,0/0,0 0 b")

    def test_refusals(self):
        self.denies(NoUrn, f"draw b {ONE} 0 a")
        self.denies(NoRule, "draw a 1 0 a")
        self.denies(NoRule, "draw one 1,0/0,1 0 a")
        self.denies(NoRule, f"draw a {rule_text(FOUR)} 0 a")
        self.denies(NoKind, f"draw a {ONE} 2 a")
        self.denies(NoKind, f"draw a {ONE} 9 a")
        self.denies(NoKind, "draw one 3 1 one")
        self.denies(NoBall, f"draw zero {ONE} 0 a")
        self.denies(NoBall, f"draw zero {ONE} 0 new")

    def test_refusals_in_order(self):
        self.denies(NoUrn, "draw b 1 9 a")
        self.denies(NoRule, "draw zero 1 9 a")
        self.denies(NoRule, "draw zero 1 0 a")
        self.denies(NoKind, f"draw zero {ONE} 2 a")
        self.answers("ok", "urn b 20,0")
        self.denies(NoBall, f"draw b {rule_text(square(2, 5))} 1 c")


class TestAsking(DeskCase):

    def test_chance(self):
        self.answers("1/3", "chance a 0")
        self.answers("2/3", "chance a 1")
        self.answers("0", "chance zero 0")
        self.answers("1", "chance zero 1")
        self.answers("1", "chance one 0")
        self.answers("4/7", "chance four 3")
        self.denies(NoKind, "chance a 2")
        self.denies(NoKind, "chance a 9")
        self.denies(NoKind, "chance one 1")
        self.denies(NoUrn, "chance b 0")
        self.denies(NoUrn, "chance b 9")

    def test_stands(self):
        self.answers("1", f"stands a {ONE} 0")
        self.answers("2", f"stands a {ONE} 1")
        self.answers("7", f"stands a {ONE} 6")
        self.answers("1", "stands a 5,5/5,5 6")
        self.answers("1", "stands one 5 6")
        self.denies(NoNumber, f"stands a {ONE} 7")
        self.denies(NoNumber, f"stands a {ONE} 9")
        self.denies(NoRule, "stands a 1 9")
        self.denies(NoUrn, "stands b 1 9")

    def test_mean(self):
        self.answers("1 2", f"mean a {ONE} 0")
        self.answers("4/3 8/3", f"mean a {ONE} 1")
        self.answers("3 10/3", f"mean a {rule_text(CROSSED)} 1")
        self.answers("163/35 502/105", f"mean a {rule_text(CROSSED)} 2")
        self.answers("35", "mean one 5 6")
        self.answers("0 8", f"mean zero {ONE} 6")
        self.denies(NoNumber, f"mean a {ONE} 7")
        self.denies(NoNumber, f"mean a {ONE} 9")
        self.denies(NoRule, "mean a 1 9")
        self.denies(NoUrn, "mean b 1 9")

    def test_fair(self):
        self.answers("yes", f"fair a {ONE}")
        self.answers("no", f"fair a {rule_text(CROSSED)}")
        self.answers("yes", "fair one 5")
        self.denies(NoRule, "fair a 1")
        self.denies(NoRule, f"fair three {ONE}")
        self.denies(NoUrn, "fair b 1")

    def test_show(self):
        self.denies(NoUrn, "show b")
        self.denies(NoUrn, "show kept")
        self.denies(NoUrn, "show abcdefgh")

    def test_against_all_orders(self):
        for urn, rule in COURSES:
            self.answers("ok", f"urn b {urn_text(urn)}")
            for draws in (0, 1, 3):
                ends = [(behind, exact) for order, exact, behind in every_order(urn, rule, draws) if exact]
                means = [sum((exact * behind[kind] for behind, exact in ends), Fraction(0)) for kind in range(len(urn))]
                self.answers(" ".join(map(written, means)), f"mean b {rule_text(rule)} {draws}")
                self.answers(str(len({behind for behind, exact in ends})), f"stands b {rule_text(rule)} {draws}")
            for kind in range(len(urn)):
                self.answers(written(Fraction(urn[kind], sum(urn))), f"chance b {kind}")
            shares = [Fraction(balls, sum(urn)) for balls in urn]
            ends = [(behind, exact) for order, exact, behind in every_order(urn, rule, 1) if exact]
            later = [sum((exact * Fraction(behind[kind], sum(behind)) for behind, exact in ends), Fraction(0))
                     for kind in range(len(urn))]
            self.answers("yes" if later == shares else "no", f"fair b {rule_text(rule)}")


class TestNoLines(DeskCase):

    def test_no_lines(self):
        for line in NO_LINES:
            self.denies(BadNote, line)

    def test_no_texts(self):
        for thing in no_texts():
            self.denies(BadNote, thing)

    def test_no_lines_on_a_desk_that_keeps_nothing(self):
        # No name is kept there, so the line is looked at ahead of the name.
        for line in NO_LINES + no_texts():
            desk = Desk()
            self.refuses(BadNote, desk.say, line)
            self.tells("", desk.say, "kept")

    def test_texts_that_write_no_urn(self):
        for text in no_urn_texts():
            self.denies(BadNote, f"urn a {text}")
            self.denies(BadNote, f"urn new {text}")

    def test_words_that_write_no_rule_of_any_number_of_kinds(self):
        for text in no_rules_of_any():
            for name in ("a", "nobody"):
                for line in [f"draw {name} {text} 0 b", f"draw {name} {text} 9 a", f"stands {name} {text} 1",
                             f"mean {name} {text} 9", f"fair {name} {text}"]:
                    self.denies(BadNote, line)

    def test_rules_of_every_number_of_kinds_are_words_of_a_line(self):
        for kinds in (1, 2, 3, 4):
            text = rule_text(square(kinds, 1))
            self.denies(NoUrn, f"fair nobody {text}")
            for name, own in [("one", 1), ("a", 2), ("three", 3), ("four", 4)]:
                if own == kinds:
                    self.answers("1", f"stands {name} {text} 1")
                else:
                    self.denies(NoRule, f"stands {name} {text} 1")

    def test_one_sign_more_fewer_or_other(self):
        for line in ["show a", "chance a 0", f"fair a {ONE}", "kept"]:
            for at in range(line.index(" ") + 1 if " " in line else len(line) + 1):
                for near in [line[:at] + line[at + 1:]] + [line[:at] + sign + line[at:] for sign in " aA0,~"]:
                    # Behind the last sign there is none to leave out.
                    if near != line:
                        self.denies(BadNote, near)


def plain_answer(kept, line):
    """The answer to a right line by another way of reckoning, or the refusal that is due."""
    asked, *words = line.split(" ")
    if asked == "urn":
        kept[words[0]] = [int(number) for number in words[1].split(",")]
        return "ok"
    if asked == "kept":
        return " ".join(sorted(kept))
    if words[0] not in kept:
        return NoUrn
    urn = kept[words[0]]
    if asked == "show":
        return ",".join(map(str, urn))
    if asked == "chance":
        kind = int(words[1])
        return written(Fraction(urn[kind], sum(urn))) if kind < len(urn) else NoKind
    rule = [[int(number) for number in row.split(",")] for row in words[1].split("/")]
    kind = int(words[2])
    if len(rule) != len(urn):
        return NoRule
    if kind >= len(urn):
        return NoKind
    if urn[kind] == 0:
        return NoBall
    behind = [balls + more for balls, more in zip(urn, rule[kind])]
    if max(behind) > 20:
        return "full"
    kept[words[3]] = behind
    return "ok"


class TestLongTalks(DeskCase):

    def line(self, chooser):
        name, new = chooser.choice(["a", "b", "cc", "zzzzzzzz"]), chooser.choice(["a", "b", "cc", "zzzzzzzz"])
        kinds = chooser.choice([1, 2, 2, 2, 3, 4])
        urn = ",".join(str(chooser.randint(1 if at == 0 else 0, 20)) for at in range(kinds))
        rule = "/".join(",".join(str(chooser.randint(0, 5)) for at in range(kinds)) for row in range(kinds))
        return chooser.choice([
            f"urn {name} {urn}", "kept", f"show {name}", f"chance {name} {chooser.randint(0, 4)}",
            f"draw {name} {rule} {chooser.randint(0, kinds)} {new}",
            f"draw {name} {rule} {chooser.randint(0, kinds)} {name}",
        ])

    def test_against_another_reckoning(self):
        chooser = random.Random(2)
        seen = set()
        for talk in range(60):
            desk, kept = Desk(), {}
            for turn in range(60):
                line = self.line(chooser)
                due = plain_answer(kept, line)
                if isinstance(due, str):
                    self.tells(due, desk.say, line)
                else:
                    self.refuses(due, desk.say, line)
                seen.add(due)
        self.assertTrue({"ok", "full", NoUrn, NoRule, NoKind, NoBall} <= seen)


class TestRefusalsAreUrnErrors(DeskCase):

    def test_what_is_refused_can_be_caught_as_one(self):
        for line in ["", "show b", "chance a 2", f"draw zero {ONE} 0 b", "fair a 1", f"mean a {ONE} 7"]:
            with self.assertRaises(errors.UrnError):
                self.desk.say(line)


if __name__ == "__main__":
    unittest.main()
