import random
import unittest

from cases import HALF, NONE, ONE, WRONG_NUMBERS, WRONG_SIGNS, Case, nothing, some_tariff
from plain import form_told
from textworths.closures import again, all_alike, behind, each, just, lengths, places, plus, rest, scaled, turned
from textworths.desks import Desk
from textworths.errors import (
    DoubleName, Endless, InvalidName, InvalidNumber, InvalidSigns, NothingToUndo, UnknownName, UnknownSign, UnlikeSigns,
    Unreadable,
)
from textworths.patterns import ways
from textworths.readings import read_machine
from textworths.sums import counted
from textworths.tariffs import tariff_of
from textworths.texts import show_tariff

ONES, LONG, A = all_alike("ab", ONE), lengths("ab"), places("ab", "a")
WRONG_NAMES = ["", "A", "aB", "a1", "a b", " a", "a ", "-", "abcdefghi", "\u00e4", "a_", "main "]
MACHINE = "ab ; 1 0 ; 0 a 1 1/2 , 1 b 1 1 ; 0 1"


def desk_with(**tariffs):
    desk = Desk("ab")
    for name, tariff in tariffs.items():
        desk.put(name, tariff)
    return desk


def seen(desk):
    """All that a desk tells of the fork in use, and of itself."""
    return (desk.signs, desk.fork, desk.forks(), desk.names(), [form_told(desk.form(name)) for name in desk.names()],
            desk.ledger(), len(desk))


class TheDesk(Case):
    def test_new_one(self):
        for signs in ("a", "ab", "xyz"):
            desk = Desk(signs=signs)
            self.assertEqual(seen(desk), (signs, "main", ["main"], [], [], [], 0))
            self.assertEqual(desk.ledger_sum(), NONE)
        for wrong in WRONG_SIGNS:
            self.raises(InvalidSigns, wrong, Desk, wrong)

    def test_put_and_drop(self):
        desk = Desk("ab")
        self.assertIsNone(desk.put("b", LONG))
        self.assertIsNone(desk.put(tariff=A, name="a"))
        self.assertEqual((desk.names(), len(desk)), (["a", "b"], 2))
        self.assertEqual((desk.form("a"), desk.form(name="b")), (A, LONG))
        desk.put("a", ONES)
        self.assertEqual((desk.names(), desk.form("a"), len(desk)), (["a", "b"], ONES, 3))
        self.assertIsNone(desk.drop(name="b"))
        self.assertEqual((desk.names(), len(desk)), (["a"], 4))
        desk.put("abcdefgh", nothing())
        self.assertEqual(desk.names(), ["a", "abcdefgh"])

    def test_make(self):
        desk = desk_with(ones=ONES, long=LONG, a=A, word=just("ab", "ab"))
        pattern = ("then", ("many", ("any",)), ("weigh", HALF, ("sign", "b")))
        for deed, wanted in ((("plus", "a", "long"), plus(A, LONG)), (("each", "a", "long"), each(A, LONG)),
                             (("behind", "a", "ones"), behind(A, ONES)), (("again", "word"), again(just("ab", "ab"))),
                             (("turned", "word"), just("ab", "ba")), (("scaled", "a", (-1, 2)), scaled(A, (-1, 2))),
                             (("rest", "a", "aab"), rest(A, "aab")), (("counted", "long", "b"), counted(LONG, "b")),
                             (("pattern", pattern), ways("ab", pattern))):
            many = len(desk)
            self.assertIsNone(desk.make("made", deed))
            self.assertEqual(form_told(desk.form("made")), form_told(wanted))
            self.assertEqual(len(desk), many + 1)
        desk.make(deed=("plus", "a", "a"), name="a")
        self.assertEqual(desk.form("a"), scaled(A, (2, 1)))
        desk.make("a", ("turned", "word"))
        self.assertEqual(desk.form("a"), turned(just("ab", "ab")))

    def test_ledger(self):
        desk = desk_with(a=A, long=LONG)
        self.assertIsNone(desk.send("a", "aab"))
        desk.send(message="", name="long")
        desk.make("a", ("scaled", "a", (-1, 3)))
        desk.send("a", "aab")
        wanted = [("a", "aab", (2, 1)), ("long", "", NONE), ("a", "aab", (-2, 3))]
        self.assertEqual(desk.ledger(), wanted)
        self.assertEqual(desk.ledger_sum(), (4, 3))
        desk.drop("a")
        self.assertEqual(desk.ledger(), wanted)
        self.apart(desk.ledger(), desk.ledger())
        desk.ledger().clear()
        self.assertEqual(desk.ledger(), wanted)

    def test_answers(self):
        desk = desk_with(a=A, long=LONG, alike=plus(A, nothing()), zero=nothing())
        self.assertEqual(desk.worth("a", "aba"), (2, 1))
        self.assertEqual(desk.worth(message="", name="long"), NONE)
        self.assertEqual(desk.apart("a", "long"), "b")
        self.assertEqual(desk.apart(other="zero", name="a"), "a")
        self.assertIsNone(desk.apart("a", "alike"))
        self.assertIsNone(desk.apart("a", "a"))
        self.assertEqual(desk.total("a", 3), (12, 1))
        self.assertEqual(desk.total(length=200, name="zero"), NONE)
        self.assertEqual([desk.same_as(name) for name in ("a", "alike", "long")], [["alike"], ["a"], []])
        desk.put("b", A)
        self.assertEqual(desk.same_as(name="alike"), ["a", "b"])
        self.apart(desk.same_as("a"), desk.same_as("a"))
        self.apart(desk.names(), desk.names())
        self.apart(desk.forks(), desk.forks())
        self.assertEqual(len(desk), 5)

    def test_forks(self):
        desk = desk_with(a=A)
        desk.send("a", "a")
        self.assertIsNone(desk.branch("b"))
        self.assertEqual((desk.fork, desk.forks()), ("main", ["b", "main"]))
        desk.send("a", "aa")
        desk.put("c", LONG)
        self.assertIsNone(desk.switch(name="b"))
        self.assertEqual((desk.fork, desk.names(), desk.ledger()), ("b", ["a"], [("a", "a", ONE)]))
        desk.put("a", LONG)
        desk.send("a", "bb")
        desk.branch(name="a")
        desk.drop("a")
        desk.switch("a")
        self.assertEqual((desk.names(), desk.ledger()), (["a"], [("a", "a", ONE), ("a", "bb", (2, 1))]))
        desk.switch("main")
        self.assertEqual(desk.form("a"), A)
        self.assertEqual((desk.names(), desk.forks()), (["a", "c"], ["a", "b", "main"]))
        self.assertEqual(desk.ledger(), [("a", "a", ONE), ("a", "aa", (2, 1))])
        desk.switch("main")
        self.assertEqual(desk.fork, "main")

    def test_undo(self):
        desk = Desk("ab")
        deeds = [lambda: desk.put("a", A), lambda: desk.put("a", A), lambda: desk.send("a", "ab"),
                 lambda: desk.branch("b"), lambda: desk.make("c", ("plus", "a", "a")), lambda: desk.switch("b"),
                 lambda: desk.drop("a"), lambda: desk.switch("b"), lambda: desk.branch("c"),
                 lambda: desk.switch("main"), lambda: desk.send("c", "aa")]
        stood = [seen(desk)]
        for many, deed in enumerate(deeds):
            deed()
            stood.append(seen(desk))
            self.assertEqual(len(desk), many + 1)
        for wanted in stood[-2::-1]:
            self.assertIsNone(desk.undo())
            self.assertEqual(seen(desk), wanted)
        for _ in range(2):
            self.raises(NothingToUndo, 0, desk.undo)
            self.assertEqual(seen(desk), stood[0])
        for deed, wanted in zip(deeds, stood[1:]):
            deed()
            self.assertEqual(seen(desk), wanted)

    def test_undo_in_all_forks(self):
        desk = desk_with(a=A)
        desk.branch("b")
        desk.switch("b")
        desk.put("a", LONG)
        desk.switch("main")
        desk.undo()
        self.assertEqual((desk.fork, desk.form("a")), ("b", LONG))
        desk.undo()
        self.assertEqual((desk.fork, desk.form("a")), ("b", A))
        desk.undo()
        self.assertEqual((desk.fork, desk.forks()), ("main", ["b", "main"]))
        desk.undo()
        self.assertEqual(desk.forks(), ["main"])
        self.assertEqual((desk.names(), len(desk)), (["a"], 1))

    def test_two_desks(self):
        one, other = desk_with(a=A), desk_with(b=LONG)
        one.send("a", "a")
        one.branch("x")
        other.send("b", "bb")
        self.assertEqual((one.names(), one.forks(), one.ledger(), len(one)), (["a"], ["main", "x"], [("a", "a", ONE)], 3))
        self.assertEqual((other.names(), other.forks(), other.ledger(), len(other)),
                         (["b"], ["main"], [("b", "bb", (2, 1))], 2))
        other.undo()
        other.undo()
        self.raises(NothingToUndo, 0, other.undo)
        self.assertEqual(len(one), 3)

    def test_by_chance(self):
        """Calls by chance beside a plain account of what stands."""
        source = random.Random(1)
        for _ in range(8):
            desk, at, forks, past = Desk("ab"), "main", {"main": ({}, [])}, []
            for _ in range(60):
                tariffs, ledger = forks[at]
                kind = source.choice(["put", "put", "drop", "send", "send", "branch", "switch", "undo", "plus"])
                name, other = source.choice("abc"), source.choice("abc")
                kept = (at, {fork: (dict(one), list(rows)) for fork, (one, rows) in forks.items()})
                if kind == "undo":
                    if past:
                        at, forks = past.pop()
                        desk.undo()
                    else:
                        self.raises(NothingToUndo, 0, desk.undo)
                elif kind == "put":
                    tariffs[name], _ = some_tariff(source, "ab", 1)
                    desk.put(name, tariffs[name])
                    past.append(kept)
                elif kind == "branch":
                    if name in forks:
                        self.raises(DoubleName, name, desk.branch, name)
                    else:
                        forks[name] = (dict(tariffs), list(ledger))
                        desk.branch(name)
                        past.append(kept)
                elif kind == "switch":
                    if name not in forks:
                        self.raises(UnknownName, name, desk.switch, name)
                    else:
                        at = name
                        desk.switch(name)
                        past.append(kept)
                elif name not in tariffs:
                    for deed, more in ((desk.drop, []), (desk.send, ["?"]), (desk.worth, ["?"]), (desk.total, [-1]),
                                       (desk.form, []), (desk.apart, ["?"]), (desk.same_as, [])):
                        self.raises(UnknownName, name, deed, name, *more)
                elif kind == "drop":
                    del tariffs[name]
                    desk.drop(name)
                    past.append(kept)
                elif kind == "send":
                    ledger.append((name, "ab", tariffs[name]("ab")))
                    desk.send(name, "ab")
                    past.append(kept)
                elif other in tariffs and len(tariffs[name]) + len(tariffs[other]) < 20:
                    tariffs["c"] = plus(tariffs[name], tariffs[other])
                    desk.make("c", ("plus", name, other))
                    past.append(kept)
                tariffs, ledger = forks[at]
                self.assertEqual((desk.fork, desk.forks(), desk.names(), desk.ledger(), len(desk)),
                                 (at, sorted(forks), sorted(tariffs), ledger, len(past)))
                self.assertTrue(all(desk.form(one) == tariffs[one] for one in tariffs))


class Errors(Case):
    def setUp(self):
        self.desk = desk_with(a=A, ones=ONES)
        self.desk.send("a", "a")
        self.desk.branch("other")

    def refused(self, error, value, deed, *arguments, **named):
        stood = seen(self.desk)
        self.raises(error, value, deed, *arguments, **named)
        self.assertEqual(seen(self.desk), stood)

    def test_names(self):
        for wrong in WRONG_NAMES:
            self.refused(InvalidName, wrong, self.desk.put, wrong, lengths("a"))
            self.refused(InvalidName, wrong, self.desk.make, wrong, ("plus", "x", "y"))
            self.refused(InvalidName, wrong, self.desk.branch, wrong)
            for deed, more in ((self.desk.drop, []), (self.desk.send, ["?"]), (self.desk.switch, []),
                               (self.desk.worth, ["?"]), (self.desk.apart, ["x"]), (self.desk.total, [-1]),
                               (self.desk.form, []), (self.desk.same_as, [])):
                self.refused(UnknownName, wrong, deed, wrong, *more)
        for name in ("main", "other"):
            self.refused(DoubleName, name, self.desk.branch, name)
            self.refused(UnknownName, name, self.desk.form, name)
        self.refused(UnknownName, "a", self.desk.switch, "a")
        self.refused(UnknownName, "x", self.desk.apart, "x", "y")
        self.refused(UnknownName, "y", self.desk.apart, "a", "y")

    def test_put(self):
        for signs in ("a", "abc", "xy"):
            self.refused(UnlikeSigns, signs, self.desk.put, "a", lengths(signs))
            self.refused(UnlikeSigns, signs, self.desk.put, tariff=nothing(signs), name="new")

    def test_deeds(self):
        make = self.desk.make
        for kind in ("plus", "each", "behind"):
            self.refused(UnknownName, "x", make, "n", (kind, "x", "y"))
            self.refused(UnknownName, "y", make, "n", (kind, "a", "y"))
            self.refused(UnknownName, "x", make, "n", (kind, "x", "a"))
        for kind, more in (("again", ()), ("turned", ()), ("scaled", ((2, 2),)), ("rest", ("c",)), ("counted", ("c",))):
            self.refused(UnknownName, "x", make, "n", (kind, "x", *more))
        self.refused(Endless, ONES, make, "n", ("again", "ones"))
        for wrong in WRONG_NUMBERS:
            self.refused(InvalidNumber, wrong, make, "n", ("scaled", "a", wrong))
            self.refused(InvalidNumber, wrong, make, "n", ("pattern", ("weigh", wrong, ("sign", "c"))))
        self.refused(UnknownSign, "c", make, "a", ("rest", "a", "abca"))
        for sign in ("c", "", "ab", "A"):
            self.refused(UnknownSign, sign, make, "a", ("counted", "a", sign))
            self.refused(UnknownSign, sign, make, "n", ("pattern", ("many", ("or", ("empty",), ("sign", sign)))))
        self.refused(Endless, ("empty",), make, "n", ("pattern", ("many", ("empty",))))

    def test_messages_and_lengths(self):
        self.refused(UnknownSign, "c", self.desk.send, "a", "abc")
        self.refused(UnknownSign, "c", self.desk.worth, "a", "abc")
        self.refused(InvalidNumber, -1, self.desk.total, "a", -1)

    def test_forks_have_names_of_their_own(self):
        self.desk.switch("other")
        self.desk.drop("a")
        self.refused(UnknownName, "a", self.desk.form, "a")
        self.desk.switch("main")
        self.assertEqual(self.desk.form("a"), A)


class Orders(Case):
    def ordered(self, desk, *pairs):
        for text, wanted in pairs:
            self.assertEqual(desk.order(text), wanted, text)

    def test_each_order(self):
        desk = Desk("ab")
        self.ordered(
            desk, ("names", "none"), ("forks", "main"), ("ledger", "none"), ("sum", "0"),
            ("pattern as (.* (a .*))", "done"), ("pattern all .*", "done"), (f"machine m {MACHINE}", "done"),
            ("names", "all as m"), ("worth as aba", "2"), ("worth as -", "0"), ("worth m ab", "1/2"),
            ("plus p as all", "done"), ("worth p aa", "3"), ("each e as as", "done"), ("worth e aaa", "9"),
            ("behind b all all", "done"), ("worth b ab", "3"), ("pattern word (a b)", "done"),
            ("again g word", "done"), ("worth g abab", "1"), ("turned t word", "done"), ("worth t ba", "1"),
            ("scaled s as -1/2", "done"), ("worth s aab", "-1"), ("scaled z as 0", "done"), ("form z", "ab"),
            ("total as 3", "12"), ("total s 0", "0"), ("apart as all", "-"), ("apart as s", "a"),
            ("apart as as", "alike"), ("same as", "none"), ("plus q as z", "done"), ("same as", "q"),
            ("pattern r (.* (a .*))", "done"), ("same q", "as r"),
            ("send as aab", "done"), ("send s -", "done"), ("send s a", "done"),
            ("ledger", "as aab 2 | s - 0 | s a -1/2"), ("sum", "3/2"), ("form all", "ab | -=1 ; 1 ; 1"),
            ("branch fork", "done"), ("forks", "fork main"), ("switch fork", "done"), ("drop as", "done"),
            ("names", "all b e g m p q r s t word z"), ("undo", "done"), ("undo", "done"), ("forks", "fork main"),
            ("undo", "done"), ("forks", "main"))
        self.assertEqual(len(desk), 16)
        self.assertEqual(desk.form("as"), A)
        self.assertEqual(desk.form("m"), tariff_of(read_machine(MACHINE)))
        self.assertEqual(desk.order("form m"), show_tariff(desk.form("m")))

    def test_by_name(self):
        desk = Desk("ab")
        self.assertEqual(desk.order(text="pattern a 1/2[a]"), "done")
        self.assertEqual(desk.order(text="worth a a"), "1/2")

    def test_names_of_eight_letters(self):
        desk = Desk("ab")
        self.ordered(desk, ("pattern abcdefgh a", "done"), ("pattern undo b", "done"), ("pattern none .", "done"),
                     ("names", "abcdefgh none undo"), ("plus sum undo none", "done"), ("worth sum b", "2"))

    def test_unreadable(self):
        desk = desk_with(a=A, b=LONG)
        stood = seen(desk)
        for text in ("", " ", "undo ", " undo", "undo a", "Undo", "UNDO", "redo", "sum a", "sum ", "names a", "forks -",
                     "ledger a", "ledger ", "drop", "drop ", "drop a b", "drop  a", "drop a ", "drop A", "drop a1",
                     "drop abcdefghi", "drop -", "switch", "switch main b", "branch", "branch a b", "branch A",
                     "branch abcdefghi", "branch -", "form", "form a b", "same", "same a b", "apart a", "apart a b c",
                     "apart a  b", "apart A b", "plus c a", "plus c a b d", "plus c a  b", "plus  c a b", "plus c a b ",
                     "each c a", "each", "behind c a", "behind c a b b", "again c", "again c a b", "turned c",
                     "turned c a b", "scaled c a", "scaled c a 2/4", "scaled c a 1/1", "scaled c a -0", "scaled c a 01",
                     "scaled c a 1 2", "scaled c a 1/0", "scaled c a x", "scaled c a 1234567890", "send a", "send a A",
                     "send a a b", "send a --", "send a a-", "send a -a", "send a ", "send a  -", "send - a",
                     "send abcdefghi a", "worth a", "worth a a1", "worth a a b", "worth a ", "worth a .", "total a",
                     "total a -1", "total a -0", "total a 01", "total a 1/2", "total a 3 ", "total a x", "total a -",
                     "total a 1234567890", "total a 1 2", "pattern c", "pattern c ", "pattern c  a", "pattern c a b",
                     "pattern c A", "pattern c (a b", "pattern C a", "pattern c 1/2", "pattern c (a  b)", "pattern (a b)",
                     "machine c", "machine c ab", "machine c ab ; 1 ; -", "machine c  ab ; - ; - ; -",
                     "machine c ba ; - ; - ; -", "machine c ab ; 1 ; 0 c 0 1 ; 1", "machine C ab ; - ; - ; -",
                     "rest c a b", "counted c a b", "put c a", "make c a", "same_as a", "ledger_sum", "len", "fork",
                     "undo\n", "\u00e4", "worth a \u00e4", "x" * 3000, "undo" + " " * 2996):
            self.raises(Unreadable, text, desk.order, text)
        self.assertEqual(seen(desk), stood)

    def test_errors_of_the_methods(self):
        desk = desk_with(a=A, ones=ONES)
        stood = seen(desk)
        for text, error, value in (
                ("drop x", UnknownName, "x"), ("send x c", UnknownName, "x"), ("send a abc", UnknownSign, "c"),
                ("worth a cd", UnknownSign, "c"), ("worth abcdefgh a", UnknownName, "abcdefgh"),
                ("apart x y", UnknownName, "x"), ("apart a y", UnknownName, "y"), ("total x 3", UnknownName, "x"),
                ("form x", UnknownName, "x"), ("same x", UnknownName, "x"), ("switch a", UnknownName, "a"),
                ("branch main", DoubleName, "main"), ("plus c x y", UnknownName, "x"), ("each c a y", UnknownName, "y"),
                ("behind c a y", UnknownName, "y"), ("again c x", UnknownName, "x"), ("turned c x", UnknownName, "x"),
                ("scaled c x 2", UnknownName, "x"), ("again c ones", Endless, ONES), ("pattern c (a c)", UnknownSign, "c"),
                ("pattern c 1*", Endless, ("empty",)), ("pattern c (z 1*)", UnknownSign, "z"),
                ("machine c abc ; - ; - ; -", UnlikeSigns, "abc"), ("machine c a ; 1 ; - ; 1", UnlikeSigns, "a")):
            self.raises(error, value, desk.order, text)
            self.assertEqual(seen(desk), stood)
        self.raises(NothingToUndo, 0, Desk("a").order, "undo")

    def test_a_thousand_calls(self):
        desk = Desk("ab")
        desk.order("pattern a (.* (a .*))")
        stood = []
        for at in range(330):
            stood.append(seen(desk)[1:4] + (desk.ledger_sum(), len(desk)))
            self.assertEqual(desk.order(["send a aab", "scaled b a 1/3", "switch main"][at % 3]), "done")
        self.assertEqual(desk.order("sum"), "220")
        for wanted in stood[::-1]:
            self.assertEqual(desk.order("undo"), "done")
            self.assertEqual(seen(desk)[1:4] + (desk.ledger_sum(), len(desk)), wanted)
        self.assertEqual(len(desk), 1)

    def test_great_numbers(self):
        desk = desk_with(a=scaled(ONES, (10 ** 300 + 1, 10 ** 200)))
        number = desk.worth("a", "ab")
        desk.make("b", ("scaled", "a", number))
        self.assertEqual(desk.order("worth b -"), f"{(10 ** 300 + 1) ** 2}/{10 ** 400}")
        desk.send("b", "ab")
        self.assertEqual(desk.order("sum"), desk.order("worth b -"))


if __name__ == "__main__":
    unittest.main()
