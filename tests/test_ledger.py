"""Promises [19.1] to [19.3] and [0.2] to [0.5] for ledgers, whose histories are held beside a plain record."""

import copy
import random
import unittest

from hookstrips.base.numbers import is_name, list_text
from hookstrips.errors import (
    InvalidNumber, InvalidOperation, InvalidPledge, InvalidRow, InvalidWord, NothingToUndo, Refused, TooMany,
    UnknownName,
)
from hookstrips.kinds.gaps import Kind, is_gap_row
from hookstrips.shape.ranks import crossed
from hookstrips.shape.rows import is_row
from hookstrips.shape.words import row_above, row_below
from hookstrips.use.ledger import Ledger, is_pledge
from tests.bounded import failing_squares
from tests.places import NO_NAMES, NO_PLEDGES
from tests.samples import FIVE, FOUR, LONGEST, OBJECTS, PAIR, STRIP, turned_by_squares

PLEDGES = [
    ("size", "a", 4), ("size", "b", 0), ("size", "a", 5), ("size", "c", 3), ("box", "a", 3, 3), ("box", "b", 40, 40),
    ("box", "c", 2, 5), ("bounded", "a", 5, 2, 1, 1), ("bounded", "b", 7, 3, 2, 2), ("bounded", "c", 17, 8, 3, 4),
    ("gap", "a", 2, 2), ("gap", "b", 3, 2), ("gap", "c", 8, 8), ("rank", "a", 2, 2), ("rank", "b", 8, 7),
    ("rank", "c", 3, 1), ("size", "zz", 1), ("box", "a", 40, 40), ("box", "a", 40, 39),
]
ROWS = [(), (1,), (2,), (1, 1), (3, 1), (2, 2), (2, 1), (4, 2, 1), (3,), (200,) * 60, (1,) * 60, (200,)]
NAMES = ["a", "b", "c", "d", "e", "f", "zz", "abcdefgh"]


class Plain:
    """A plain record of names, rows and pledges, and of all that was there ahead."""

    def __init__(self):
        self.rows = {}
        self.pledges = []
        self.past = []
        self.later = []

    def page(self):
        return dict(self.rows), list(self.pledges)

    def lines(self):
        return tuple(f"{name}: {list_text(row)}" for name, row in sorted(self.rows.items()))

    def holds(self, pledge, rows):
        what, name, *numbers = pledge
        if name not in rows:
            return False
        row = rows[name]
        if what == "size":
            return sum(row) == numbers[0]
        if what == "box":
            return len(row) <= numbers[1] and max(row, default=0) <= numbers[0]
        if what == "bounded":
            return failing_squares(numbers, row) == []
        order, first = numbers
        if what == "gap":
            pairs = [row.count(j) + row.count(j + 1) for j in range(1, max(row, default=0) + 1)]
            return row.count(1) < first and max(pairs, default=0) < order
        other = turned_by_squares(row)
        ranks = [row[at] - other[at] for at in range(len(row)) if row[at] > at]
        return all(2 - first <= rank <= 2 * order - first - 1 for rank in ranks)

    def change(self, rows, pledges):
        for pledge in pledges:
            if not self.holds(pledge, rows):
                raise Refused(pledge)
        before = self.lines()
        self.past.append(self.page())
        self.later = []
        self.rows, self.pledges = dict(rows), list(pledges)
        return self.news(before)

    def news(self, before):
        now = self.lines()
        return tuple(sorted(set(before) - set(now))), tuple(sorted(set(now) - set(before)))

    def known(self, name):
        if not is_name(name) or name not in self.rows:
            raise UnknownName(name)
        return self.rows[name]

    def new(self, name):
        if not is_name(name) or name in self.rows:
            raise InvalidOperation("")

    def put(self, name, row):
        self.new(name)
        if not is_row(row):
            raise InvalidRow("")
        if len(self.rows) == 6:
            raise TooMany(6)
        return self.change({**self.rows, name: row}, self.pledges)

    def twice(self, name, one):
        self.new(name)
        row = self.known(one)
        return self.put(name, row)

    def lessen(self, name):
        row = self.known(name)
        if row == ():
            raise InvalidOperation("")
        return self.change({**self.rows, name: row_below(row)[0]}, self.pledges)

    def with_row(self, name, row):
        if len(row) > 60:
            raise TooMany(60)
        if max(row, default=0) > 200:
            raise TooMany(200)
        return self.change({**self.rows, name: row}, self.pledges)

    def lift(self, name, letter):
        row = self.known(name)
        if letter not in ("a", "b"):
            raise InvalidWord("")
        return self.with_row(name, row_above(row, letter))

    def turn(self, name):
        return self.with_row(name, turned_by_squares(self.known(name)))

    def cross(self, name):
        return self.with_row(name, crossed(self.known(name)))

    def drop(self, name):
        self.known(name)
        return self.change({other: row for other, row in self.rows.items() if other != name}, self.pledges)

    def rename(self, names):
        if set(names) != set(self.rows) or not all(is_name(name) for name in names.values()):
            raise InvalidOperation("")
        if len(set(names.values())) != len(names):
            raise InvalidOperation("")
        return self.change({names[name]: row for name, row in self.rows.items()}, self.pledges)

    def demand(self, pledge):
        if not is_pledge(pledge):
            raise InvalidPledge("")
        if pledge in self.pledges:
            raise InvalidOperation("")
        if len(self.pledges) == 10:
            raise TooMany(10)
        return self.change(self.rows, self.pledges + [pledge])

    def waive(self, pledge):
        if pledge not in self.pledges:
            raise InvalidOperation("")
        return self.change(self.rows, [other for other in self.pledges if other != pledge])

    def undo(self, many):
        if many < 0:
            raise InvalidNumber(many)
        if many > len(self.past):
            raise NothingToUndo(many)
        before = self.lines()
        for _ in range(many):
            self.later.append(self.page())
            self.rows, self.pledges = self.past.pop()
        return self.news(before)

    def redo(self, many):
        if many < 0:
            raise InvalidNumber(many)
        if many > len(self.later):
            raise NothingToUndo(many)
        before = self.lines()
        for _ in range(many):
            self.past.append(self.page())
            self.rows, self.pledges = self.later.pop()
        return self.news(before)


def asked_for(chance, plain):
    """A method and arguments for it, most of which can be right."""
    name, other = chance.choice(NAMES[:6]), chance.choice(NAMES)
    names = list(plain.rows)
    shuffled = chance.sample(names, len(names)) if chance.random() < 0.7 else chance.sample(NAMES, len(names))
    return chance.choice([
        ("put", name, chance.choice(ROWS)), ("put", other, chance.choice(ROWS)), ("put", "A", (1,)), ("put", name, (1, 2)),
        ("twice", name, other), ("twice", other, name), ("lessen", name), ("lessen", name), ("lift", name, "a"),
        ("lift", name, "b"), ("lift", name, "c"), ("turn", name), ("turn", other), ("cross", name), ("cross", other),
        ("drop", other), ("rename", dict(zip(names, shuffled))), ("rename", {"a": "b"}),
        ("demand", chance.choice(PLEDGES)), ("demand", chance.choice(PLEDGES)), ("demand", chance.choice(PLEDGES)),
        ("demand", ("size", name, True)), ("waive", chance.choice(PLEDGES)),
        ("waive", chance.choice(plain.pledges or PLEDGES)),
        ("undo", chance.randrange(4)), ("redo", chance.randrange(4)), ("undo", -1), ("redo", chance.choice([1, 1, 99])),
    ])


def outcome(call):
    """The result of a call, or the class of its error and what it keeps."""
    try:
        return call()
    except (ValueError, LookupError, RuntimeError, ArithmeticError) as error:
        return type(error), list(vars(error).values())


class Histories(unittest.TestCase):
    def same(self, ledger, plain):
        self.assertEqual(ledger.labels, tuple(sorted(plain.rows)))
        self.assertEqual(ledger.lines, plain.lines())
        self.assertEqual(list(ledger), list(plain.lines()))
        self.assertEqual(ledger.pledges, tuple(plain.pledges))
        self.assertEqual((len(ledger), ledger.changes), (len(plain.pledges), len(plain.past)))
        self.assertEqual(str(ledger), f"ledger of {len(plain.rows)} rows, {len(plain.pledges)} pledges")
        for name, row in plain.rows.items():
            self.assertEqual(ledger.row_named(name), row)

    def step(self, ledger, plain, chance):
        asked, *values = asked_for(chance, plain)
        if asked in ("undo", "redo"):
            told = outcome(lambda: getattr(ledger, asked)(many=values[0]))
        else:
            told = outcome(lambda: getattr(ledger, asked)(*values))
        self.assertEqual(told, outcome(lambda: getattr(plain, asked)(*values)), (asked, values))
        self.same(ledger, plain)

    def block(self, ledger, plain, chance, deep):
        """A block of steps, blocks in blocks among them; some end by an error."""
        inner = copy.deepcopy(plain)
        try:
            with ledger.trial() as same:
                self.assertIs(same, ledger)
                for _ in range(chance.randrange(8)):
                    self.step(ledger, inner, chance)
                    if deep < 3 and chance.random() < 0.2:
                        self.block(ledger, inner, chance, deep + 1)
                if chance.random() < 0.5:
                    ledger.row_named("none")
        except UnknownName as error:
            self.assertEqual(error.name, "none")
        self.same(ledger, plain)

    def test_beside_a_plain_record(self):
        for seed in range(12):
            chance = random.Random(seed)
            pairs = [(Ledger(), Plain())]
            for _ in range(250):
                ledger, plain = chance.choice(pairs)
                self.step(ledger, plain, chance)
                if chance.random() < 0.1:
                    self.block(ledger, plain, chance, 0)
                if chance.random() < 0.02 and len(pairs) < 5:
                    pairs.append((ledger.twin(), copy.deepcopy(plain)))
            for ledger, plain in pairs:
                self.same(ledger, plain)
                for other, another in pairs:
                    equal = (plain.rows, plain.pledges) == (another.rows, another.pledges)
                    self.assertIs(ledger == other, equal)
                    self.assertIs(ledger != other, not equal)

    def test_all_back_and_all_again(self):
        chance = random.Random(5)
        ledger, plain, states = Ledger(), Plain(), [((), ())]
        while len(states) < 60:
            self.step(ledger, plain, chance)
            if ledger.changes == len(states):
                states.append((ledger.lines, ledger.pledges))
            else:
                del states[ledger.changes + 1:]
        many = ledger.changes
        news = ledger.undo(many=many)
        self.assertEqual(news, (states[many][0], ()))
        self.assertEqual((ledger.lines, ledger.pledges, ledger.changes), ((), (), 0))
        for at in range(1, many + 1):
            ledger.redo()
            self.assertEqual((ledger.lines, ledger.pledges), states[at])
        self.assertEqual(ledger.undo(many=many)[0], ledger.redo(many=many)[1])


def two():
    """A ledger with two rows and a pledge."""
    ledger = Ledger()
    ledger.put("a", (3, 1))
    ledger.put("b", (2, 2))
    ledger.demand(("size", "a", 4))
    return ledger


class Raising(unittest.TestCase):
    def raises(self, error, kept, ledger, name, *values, **keywords):
        """The error is raised with what it keeps, and the ledger stays as it was."""
        before, history = ledger.twin(), ledger.changes
        with self.subTest(name=name, values=str(values)[:100]):
            with self.assertRaises(error) as caught:
                getattr(ledger, name)(*values, **keywords)
            self.assertIs(type(caught.exception), error)
            if kept is not None:
                self.assertEqual(list(vars(caught.exception).values()), [kept])
            self.assertTrue(ledger == before)
            self.assertEqual(ledger.changes, history)
            self.assertEqual(outcome(ledger.twin().redo), outcome(before.redo))


class Rows(Raising):
    def test_lines_and_news(self):
        ledger = Ledger()
        self.assertEqual((ledger.lines, ledger.labels, ledger.pledges, ledger.changes), ((), (), (), 0))
        self.assertEqual(str(ledger), "ledger of 0 rows, 0 pledges")
        self.assertEqual(ledger.put("b", ()), ((), ("b: -",)))
        self.assertEqual(ledger.put("aa", (10, 2, 2)), ((), ("aa: 10 2 2",)))
        self.assertEqual(ledger.put("a", (1,)), ((), ("a: 1",)))
        self.assertEqual(ledger.lines, ("a: 1", "aa: 10 2 2", "b: -"))
        self.assertEqual(ledger.rename({"a": "b", "b": "aa", "aa": "a"}), (
            ("a: 1", "aa: 10 2 2", "b: -"), ("a: 10 2 2", "aa: -", "b: 1"),
        ))
        self.assertEqual(ledger.twice("c", "aa"), ((), ("c: -",)))
        self.assertEqual(ledger.rename({"a": "a", "b": "b", "aa": "c", "c": "aa"}), ((), ()))
        self.assertEqual(ledger.drop("aa"), (("aa: -",), ()))
        self.assertEqual(ledger.changes, 7)

    def test_six_rows_and_a_seventh(self):
        ledger = Ledger()
        for name in NAMES[:6]:
            ledger.put(name, (1,))
        self.raises(TooMany, 6, ledger, "put", "zz", (1,))
        self.raises(TooMany, 6, ledger, "twice", "zz", "a")
        self.raises(InvalidRow, None, ledger, "put", "zz", (1, 2))
        self.raises(InvalidOperation, None, ledger, "put", "a", (1, 2))
        self.raises(UnknownName, "z", ledger, "twice", "zz", "z")
        self.raises(InvalidOperation, None, ledger, "twice", "a", "z")
        ledger.drop("a")
        ledger.put("zzzzzzzz", (1,))
        self.assertEqual(len(ledger.labels), 6)

    def test_names(self):
        for name in NO_NAMES:
            ledger = two()
            self.raises(InvalidOperation, None, ledger, "put", name, (1,))
            self.raises(InvalidOperation, None, ledger, "twice", name, "a")
            for call in ("lessen", "turn", "cross", "drop", "row_named"):
                self.raises(UnknownName, name, ledger, call, name)
            self.raises(UnknownName, name, ledger, "lift", name, "c")
            self.raises(UnknownName, name, ledger, "twice", "c", name)
            self.raises(InvalidOperation, None, ledger, "rename", {"a": name, "b": "c"})
        ledger = Ledger()
        self.assertEqual(ledger.put("a", (1,))[1] + ledger.put("abcdefgh", (1,))[1], ("a: 1", "abcdefgh: 1"))
        self.raises(InvalidOperation, None, ledger, "put", "abcdefghi", (1,))

    def test_rows(self):
        for row in (None, [], [1], "1", (0,), (1, 2), (201,), (1,) * 61, (True,), {}, *OBJECTS):
            self.raises(InvalidRow, None, two(), "put", "c", row)
            self.raises(InvalidOperation, None, two(), "put", "a", row)

    def test_letters(self):
        for letter in (None, "", "ab", "c", "A", ["a"], 1, True, {}):
            self.raises(InvalidWord, None, two(), "lift", "b", letter)

    def test_too_long_and_too_wide(self):
        ledger = Ledger()
        ledger.put("a", (200,) + (1,) * 59)
        self.raises(TooMany, 60, ledger, "lift", "a", "b")
        self.raises(TooMany, 60, ledger, "turn", "a")
        ledger.put("b", (61,))
        self.raises(TooMany, 60, ledger, "turn", "b")
        ledger.put("c", (60,))
        self.assertEqual(ledger.turn("c")[1], ("c: " + " ".join(["1"] * 60),))
        ledger.put("d", (200, 1))
        self.raises(TooMany, 200, ledger, "lift", "d", "a")
        self.raises(TooMany, 200, ledger, "lift", "d", "b")
        ledger.put("e", (200, 200, 200))
        self.assertEqual(crossed((200, 200, 200))[0], 202)
        self.raises(TooMany, 200, ledger, "cross", "e")
        # Ahead of a pledge that would not hold.
        ledger.demand(("size", "d", 201))
        self.raises(TooMany, 200, ledger, "lift", "d", "b")
        ledger.demand(("size", "b", 61))
        self.raises(TooMany, 60, ledger, "turn", "b")

    def test_the_row_without_parts(self):
        ledger = Ledger()
        ledger.put("a", ())
        self.raises(InvalidOperation, None, ledger, "lessen", "a")
        self.assertEqual(ledger.lift("a", "a"), ((), ()))
        self.raises(InvalidOperation, None, ledger, "lessen", "a")
        self.assertEqual(ledger.lift("a", "b"), (("a: -",), ("a: 1",)))
        self.assertEqual(ledger.lessen("a"), (("a: 1",), ("a: -",)))
        for call in ("turn", "cross"):
            self.assertEqual(getattr(ledger, call)("a"), ((), ()))
        self.assertEqual(ledger.changes, 6)

    def test_lift_and_then_lessen(self):
        for row in ((3, 1), (2, 2), (4, 2, 1), (5,), (1, 1, 1)):
            for letter in "ab":
                ledger = Ledger()
                ledger.put("a", row)
                ledger.lift("a", letter)
                ledger.lessen("a")
                self.assertEqual(ledger.row_named("a"), row)

    def test_turn_and_cross_keep_sizes(self):
        for row in ((3, 1), (2, 2), (4, 2, 1), (5,), (1, 1, 1)):
            ledger = Ledger()
            ledger.put("a", row)
            ledger.demand(("size", "a", sum(row)))
            ledger.turn("a")
            ledger.cross("a")
            self.assertEqual(sum(ledger.row_named("a")), sum(row))

    def test_rename(self):
        ledger = Ledger()
        self.assertEqual(ledger.rename({}), ((), ()))
        self.assertEqual(ledger.changes, 1)
        for names in (None, [], "", (), {"a": "b"}):
            self.raises(InvalidOperation, None, ledger, "rename", names)
        ledger = two()
        ledger.waive(("size", "a", 4))
        for names in (
            {}, {"a": "c"}, {"a": "c", "b": "c"}, {"a": "b", "b": "b"}, {"a": "c", "b": "d", "c": "e"},
            {"a": "c", "c": "d"}, {"a": "c", "b": "D"}, {"a": "c", "b": None}, {"a": "c", "b": ["d"]},
            {1: "c", None: "d"}, [("a", "c"), ("b", "d")],
        ):
            self.raises(InvalidOperation, None, ledger, "rename", names)
        names = {"b": "a", "a": "b"}
        ledger.rename(names)
        names["a"] = "z"
        self.assertEqual(ledger.lines, ("a: 2 2", "b: 3 1"))


class Pledges(Raising):
    def test_which_values_are_pledges(self):
        for value in NO_PLEDGES:
            self.assertIs(is_pledge(value), False)
            self.raises(InvalidPledge, None, two(), "demand", value)
            self.raises(InvalidOperation, None, two(), "waive", value)
        for value in PLEDGES + [
            ("size", "a", LONGEST), ("box", "a", 0, 0), ("box", "a", 40, 40), ("bounded", "a", 3, 1, 1, 1),
            ("bounded", "a", 17, 16, 15, 1), ("bounded", "a", 17, 1, 1, 15), ("gap", "abcdefgh", 8, 8), ("rank", "z", 2, 1),
        ]:
            self.assertIs(is_pledge(value), True)

    def test_what_pledges_ask(self):
        plain = Plain()
        for row in ROWS[:9] + [(5, 5, 1), (3, 3, 3), (1,) * 7]:
            for what, *numbers in [
                *[("size", many) for many in (0, 1, 4, 7, 9)], ("box", 0, 0), ("box", 3, 2), ("box", 2, 3), ("box", 40, 6),
                ("bounded", 5, 2, 1, 1), ("bounded", 7, 3, 2, 2), ("bounded", 9, 5, 1, 3),
                *[(what, order, first) for what in ("gap", "rank") for order in (2, 3, 8) for first in (1, 2, order)],
            ]:
                ledger, pledge = Ledger(), (what, "a", *numbers)
                ledger.put("a", row)
                if plain.holds(pledge, {"a": row}):
                    self.assertEqual(ledger.demand(pledge), ((), ()))
                    self.assertIn(pledge, ledger)
                else:
                    self.raises(Refused, pledge, ledger, "demand", pledge)
                    self.assertNotIn(pledge, ledger)

    def test_ten_pledges_and_an_eleventh(self):
        ledger = two()
        for many in range(31, 40):
            ledger.demand(("box", "a", 40, many))
        self.assertEqual(len(ledger), 10)
        self.raises(TooMany, 10, ledger, "demand", ("box", "a", 40, 40))
        self.raises(TooMany, 10, ledger, "demand", ("size", "a", 5))
        self.raises(InvalidOperation, None, ledger, "demand", ("box", "a", 40, 39))
        self.raises(InvalidPledge, None, ledger, "demand", ("box", "a", 40, 41))
        ledger.waive(("box", "a", 40, 33))
        ledger.demand(("box", "a", 40, 40))
        told = [("size", "a", 4)] + [("box", "a", 40, many) for many in range(31, 41) if many != 33]
        self.assertEqual(ledger.pledges, tuple(told))

    def test_twice(self):
        ledger = two()
        self.raises(InvalidOperation, None, ledger, "demand", ("size", "a", 4))
        ledger.waive(("size", "a", 4))
        self.raises(InvalidOperation, None, ledger, "waive", ("size", "a", 4))
        self.assertEqual(ledger.pledges, ())

    def test_the_first_one_that_would_not_hold(self):
        ledger = two()
        ledger.demand(("gap", "a", 2, 2))
        ledger.demand(("box", "a", 3, 2))
        ledger.demand(("size", "b", 4))
        for call, values, pledge in (
            ("lessen", ("a",), ("size", "a", 4)), ("lift", ("a", "b"), ("size", "a", 4)),
            ("turn", ("a",), ("gap", "a", 2, 2)), ("cross", ("a",), ("gap", "a", 2, 2)), ("drop", ("a",), ("size", "a", 4)),
            ("drop", ("b",), ("size", "b", 4)), ("rename", ({"a": "b", "b": "a"},), ("gap", "a", 2, 2)),
            ("rename", ({"a": "a", "b": "c"},), ("size", "b", 4)), ("rename", ({"a": "c", "b": "d"},), ("size", "a", 4)),
            ("demand", (("size", "z", 1),), ("size", "z", 1)), ("demand", (("rank", "b", 2, 1),), ("rank", "b", 2, 1)),
        ):
            self.raises(Refused, pledge, ledger, call, *values)
        ledger.waive(("gap", "a", 2, 2))
        self.raises(Refused, ("box", "a", 3, 2), ledger, "turn", "a")

    def test_pledges_keep_their_names(self):
        ledger = Ledger()
        ledger.put("a", (3, 1))
        ledger.put("b", (2, 2))
        ledger.demand(("size", "a", 4))
        ledger.rename({"a": "b", "b": "a"})
        self.assertEqual((ledger.lines, ledger.pledges), (("a: 2 2", "b: 3 1"), (("size", "a", 4),)))
        self.raises(Refused, ("size", "a", 4), ledger, "rename", {"a": "c", "b": "d"})

    def test_true_is_not_1(self):
        ledger = Ledger()
        ledger.put("a", (1,))
        ledger.demand(("size", "a", 1))
        self.assertIn(("size", "a", 1), ledger)
        self.assertNotIn(("size", "a", True), ledger)
        self.raises(InvalidPledge, None, ledger, "demand", ("size", "a", True))
        self.raises(InvalidOperation, None, ledger, "waive", ("size", "a", True))

    def test_lessen_need_not_keep_gap_rows(self):
        found = 0
        for row in ((3, 1), (4, 2), (3,), (5, 3, 1), (6, 3, 1), (6, 4, 1), (7, 5, 2), (2,)):
            for kind in ((2, 1), (2, 2), (3, 1)):
                ledger = Ledger()
                ledger.put("a", row)
                if is_gap_row(Kind(*kind), row):
                    ledger.demand(("gap", "a", *kind))
                    if outcome(lambda: ledger.lessen("a")) == (Refused, [("gap", "a", *kind)]):
                        found += 1
        self.assertGreater(found, 0)

    def test_undo_asks_no_pledges(self):
        ledger = Ledger()
        ledger.put("a", (3, 1))
        ledger.demand(("size", "a", 4))
        ledger.waive(("size", "a", 4))
        ledger.lessen("a")
        self.assertEqual(ledger.undo(many=2), (("a: 2",), ("a: 3 1",)))
        self.assertEqual(ledger.pledges, (("size", "a", 4),))
        self.assertEqual(ledger.redo(many=2), (("a: 3 1",), ("a: 2",)))
        self.assertEqual(ledger.pledges, ())


class BackAndAgain(Raising):
    def test_many(self):
        ledger = two()
        self.assertEqual(ledger.undo(many=0), ((), ()))
        self.raises(NothingToUndo, 4, ledger, "undo", many=4)
        self.raises(NothingToUndo, 1, ledger, "redo")
        self.raises(NothingToUndo, LONGEST, ledger, "undo", many=LONGEST)
        self.assertEqual(ledger.undo(many=3), (("a: 3 1", "b: 2 2"), ()))
        self.raises(NothingToUndo, 1, ledger, "undo")
        self.raises(NothingToUndo, 4, ledger, "redo", many=4)
        self.assertEqual(ledger.redo(many=0), ((), ()))
        self.assertEqual(ledger.redo(many=2), ((), ("a: 3 1", "b: 2 2")))
        self.assertEqual((ledger.pledges, ledger.changes), ((), 2))
        ledger.redo()
        self.assertEqual((ledger.pledges, ledger.changes), ((("size", "a", 4),), 3))

    def test_wrong_numbers(self):
        for many in (-1, None, True, False, "1", [1], (1,), {}, 10 ** 60, -LONGEST):
            for call in ("undo", "redo"):
                self.raises(InvalidNumber, many, two(), call, many=many)

    def test_by_keyword_alone(self):
        for call in ("undo", "redo"):
            with self.assertRaises(TypeError):
                getattr(two(), call)(1)

    def test_another_change_ends_what_can_be_done_again(self):
        ledger = two()
        ledger.undo(many=2)
        self.raises(InvalidRow, None, ledger, "put", "b", None)
        ledger.undo(many=0)
        self.assertEqual(ledger.twin().redo(many=2), ((), ("b: 2 2",)))
        ledger.turn("a")
        self.raises(NothingToUndo, 1, ledger, "redo")

    def test_changes_that_change_nothing_count(self):
        ledger = Ledger()
        ledger.put("a", (2, 1))
        self.assertEqual([ledger.turn("a"), ledger.cross("a"), ledger.rename({"a": "a"})], [((), ())] * 3)
        self.assertEqual(ledger.changes, 4)
        ledger.undo(many=3)
        self.assertEqual(ledger.lines, ("a: 2 1",))
        ledger.turn("a")
        self.raises(NothingToUndo, 1, ledger, "redo")


class Blocks(unittest.TestCase):
    def test_as_it_was(self):
        ledger = two()
        ledger.undo()
        with ledger.trial() as same:
            self.assertIs(same, ledger)
            same.redo()
            same.turn("b")
            same.undo(many=4)
            same.put("z", (1,))
            self.assertEqual(same.lines, ("z: 1",))
        self.assertEqual((ledger.lines, ledger.pledges, ledger.changes), (("a: 3 1", "b: 2 2"), (), 2))
        ledger.redo()
        self.assertEqual(ledger.pledges, (("size", "a", 4),))

    def test_when_the_block_is_entered(self):
        ledger = Ledger()
        trial = ledger.trial()
        ledger.put("a", (1,))
        for _ in range(2):
            with trial as same:
                same.drop("a")
            self.assertEqual(ledger.lines, ("a: 1",))
            ledger.lift("a", "b")
            ledger.undo()

    def test_errors_go_on(self):
        ledger = two()
        for error in (KeyError("x"), Refused(1), ZeroDivisionError()):
            with self.assertRaises(type(error)) as caught:
                with ledger.trial():
                    ledger.drop("b")
                    raise error
            self.assertIs(caught.exception, error)
            self.assertEqual((ledger.lines, ledger.changes), (("a: 3 1", "b: 2 2"), 3))

    def test_blocks_in_blocks(self):
        ledger = Ledger()
        with ledger.trial():
            ledger.put("a", (1,))
            with ledger.trial():
                ledger.put("b", (1,))
                with ledger.trial():
                    ledger.undo(many=2)
                    self.assertEqual(ledger.lines, ())
                self.assertEqual(ledger.lines, ("a: 1", "b: 1"))
            self.assertEqual((ledger.lines, ledger.changes), (("a: 1",), 1))
        self.assertEqual((ledger.lines, ledger.changes), ((), 0))

    def test_during(self):
        ledger = two()
        self.assertEqual(ledger.during(lambda same: (same is ledger, same.drop("b"), same.lines)), (
            True, (("b: 2 2",), ()), ("a: 3 1",),
        ))
        self.assertEqual((ledger.lines, ledger.changes), (("a: 3 1", "b: 2 2"), 3))
        with self.assertRaises(UnknownName) as caught:
            ledger.during(lambda same: [same.turn("b"), same.turn("c")])
        self.assertEqual(caught.exception.name, "c")
        self.assertEqual(ledger.changes, 3)
        self.assertIsNone(ledger.during(lambda same: None))
        self.assertIs(ledger.during(lambda same: same), ledger)

    def test_twins(self):
        ledger = two()
        ledger.undo()
        twin = ledger.twin()
        self.assertIsNot(twin, ledger)
        self.assertTrue(twin == ledger)
        twin.redo()
        self.assertEqual((twin.pledges, ledger.pledges), ((("size", "a", 4),), ()))
        twin.undo(many=3)
        self.assertEqual((twin.lines, ledger.lines, ledger.changes), ((), ("a: 3 1", "b: 2 2"), 2))
        ledger.turn("a")
        twin.redo(many=3)
        self.assertEqual((twin.lines, twin.changes), (("a: 3 1", "b: 2 2"), 3))
        with twin.trial():
            twin.drop("b")
            ledger.drop("b")
        self.assertEqual((twin.labels, ledger.labels), (("a", "b"), ("a",)))


class Values(unittest.TestCase):
    def test_in(self):
        ledger = two()
        for value in ("a: 3 1", "b: 2 2", ("size", "a", 4)):
            self.assertIs(value in ledger, True)
        for value in (
            "a", "a: 3 1 ", "a:3 1", "", "b: 3 1", ("size", "a", 5), ("size", "b", 4), ("size", "a"), ["size", "a", 4],
            None, True, 0, (), {}, [], ("a: 3 1",), (3, 1), *OBJECTS, ledger,
        ):
            self.assertIs(value in ledger, False)

    def test_equal_ledgers(self):
        one, other = two(), Ledger()
        for name, row in (("b", (2, 2)), ("a", (3, 1))):
            other.put(name, row)
        self.assertIs(one == other, False)
        other.demand(("size", "a", 4))
        # Histories are not compared.
        other.turn("b")
        self.assertIs(one == other, True)
        self.assertIs(one != other, False)
        one.demand(("size", "b", 4))
        other.demand(("box", "b", 9, 9))
        self.assertIs(one == other, False)
        one.demand(("box", "b", 9, 9))
        other.demand(("size", "b", 4))
        # The same pledges in another sequence.
        self.assertIs(one == other, False)
        for value in (None, 0, True, (), [], {}, "ledger of 0 rows, 0 pledges", FOUR, FIVE, STRIP, PAIR):
            self.assertIs(Ledger() == value, False)
            self.assertIs(Ledger() != value, True)

    def test_iteration(self):
        ledger = two()
        self.assertEqual([line for line in ledger], ["a: 3 1", "b: 2 2"])
        self.assertEqual(list(Ledger()), [])
        first, second = ledger
        self.assertEqual((first, second), ledger.lines)
        self.assertEqual(len(ledger), 1)
        self.assertEqual(len(Ledger()), 0)

    def test_properties_are_not_assigned(self):
        ledger = two()
        for name in ("labels", "lines", "pledges", "changes"):
            with self.assertRaises(AttributeError):
                setattr(ledger, name, ())
        for value in (ledger.labels, ledger.lines, ledger.pledges):
            self.assertIs(type(value), tuple)
        self.assertIs(type(ledger.changes), int)


if __name__ == "__main__":
    unittest.main()
