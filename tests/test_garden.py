"""A garden: what is asked of it, its deeds, what it refuses, its versions, watches and twins."""

import copy
import unittest

from samples import (ABOVE, ANY_VALUES, BROAD, CHERRY, FLAT, FULL, LADDER, ONE, OVERFULL, THREE, W, WEBS,
                     Draws, deep, drawn_webs, plain_lot, small_webs)
from wayrows.edits import grafted, spots, struck
from wayrows.errors import (BadGraft, BadNames, BadWeb, Full, NoKind, NothingDone, NothingUndone, NoLink,
                            NoVersion, NoWatch)
from wayrows.forms import form, renamed
from wayrows.garden import Garden
from wayrows.rows import lot, row
from wayrows.texts import web_text
from wayrows.webs import links, mixings, root, web_error

TREE = (3, ((0, 1), (2, 3)))
V = (3, ((1,), (2, 3), (0, 3), (4, 5)))
SAMPLES = small_webs()[::5] + list(WEBS) + drawn_webs(16, 91) + [LADDER, TREE]
GRAFT = (("on", 4, 2), ("on", 3, 1))


def plain_pair(before, behind):
    """The rows that stand oftener in the one lot, and those that stand oftener in the other one."""
    def oftener(one, other):
        return tuple(told for told in sorted(set(one))
                     for _ in range(one.count(told) - other.count(told)))

    return (oftener(before, behind), oftener(behind, before))


def state(garden):
    """All that a garden tells of itself, but for its watches."""
    return (garden.web, garden.lot, garden.version, len(garden), list(garden), str(garden),
            [garden.since(version) for version in range(garden.version + 1)])


def turned(garden, times):
    """The garden with so many names given, each deed turning the leaves by one."""
    leaves = garden.web[0]
    for _ in range(times):
        garden.rename(tuple(range(1, leaves)) + (0,))
    return garden


class GardenTest(unittest.TestCase):
    def refuse(self, garden, error, fields, deed, *arguments, **named):
        """The deed raises this error alone, with these fields, and nothing is changed."""
        before, calls = state(garden), []
        number = garden.watch(lambda *told: calls.append(told))
        with self.assertRaises(error) as held:
            getattr(garden, deed)(*arguments, **named)
        self.assertIs(type(held.exception), error)
        told = vars(held.exception)
        self.assertEqual(set(told), set(fields))
        for name, value in fields.items():
            self.assertTrue(told[name] is value or (type(told[name]) is type(value) and told[name] == value))
        garden.unwatch(number)
        self.assertEqual((state(garden), calls), (before, []))


class TestMade(GardenTest):
    def test_form(self):
        for web in SAMPLES:
            garden = Garden(web)
            self.assertEqual((garden.web, garden.lot, garden.version), (form(web), lot(web), 0))
        self.assertEqual(Garden(W).web, V)
        self.assertEqual(Garden(web=W).web, V)

    def test_bad_web(self):
        values = ANY_VALUES + (OVERFULL, (3, ((0, 1), (0, 2, 3))), (2, ()), (True, ()), (1, [], 2),
                               [1, ()], (1, []), (2, ((0, True),)), (9, ()), (2, ((0,), (1, 2))),
                               (2, ((0, 1), (2,))), (3, ((0, 1), (2,), (3, 4), (3, 5))))
        for value in values:
            fault = web_error(value)
            self.assertIsNotNone(fault)
            with self.assertRaises(BadWeb) as held:
                Garden(value)
            self.assertEqual(held.exception.error, fault)
            self.assertEqual(vars(held.exception), {"error": fault})

    def test_properties_can_only_be_read(self):
        garden = Garden(W)
        before = state(garden)
        for name in ("web", "lot", "version"):
            with self.assertRaises(AttributeError):
                setattr(garden, name, getattr(garden, name))
            with self.assertRaises(AttributeError):
                delattr(garden, name)
        self.assertEqual(state(garden), before)

    def test_a_garden_is_no_web(self):
        with self.assertRaises(BadWeb) as held:
            Garden(Garden(W))
        self.assertEqual(held.exception.error, (None, "web"))


class TestAsked(GardenTest):
    def test_kinds(self):
        for web in SAMPLES:
            garden = Garden(web)
            self.assertEqual(len(garden), root(web) + 1)
            self.assertEqual(list(garden), [garden[kind] for kind in range(len(garden))])
            for kind, told in enumerate(garden):
                self.assertEqual(told, row(garden.web, kind))
            self.assertEqual(tuple(sorted(garden)), garden.lot)

    def test_no_kind(self):
        for web in (ONE, CHERRY, W, FULL):
            garden = Garden(web)
            for value in ANY_VALUES + (len(garden), -1, -len(garden), (0,), "0", W, garden, deep(12)):
                if type(value) is int and 0 <= value < len(garden):
                    self.assertEqual(garden[value], row(garden.web, value))
                else:
                    with self.assertRaises(NoKind) as held:
                        garden[value]
                    self.assertIs(held.exception.kind, value)

    def test_rows_in_it(self):
        for web in SAMPLES:
            garden = Garden(web)
            for told in garden:
                self.assertIs(told in garden, True)
                self.assertIs(list(told) in garden, False)
                self.assertIs(told + (0,) in garden, False)
                self.assertIs(tuple(bool(number) if number < 2 else number for number in told) in garden,
                              False)
                more = (told[0] + 1,) + told[1:]
                self.assertIs(more in garden, more in garden.lot)

    def test_any_value_in_it(self):
        for web in (ONE, CHERRY, W, FLAT):
            garden = Garden(web)
            for value in ANY_VALUES + (W, garden, garden.web, garden.lot, (True,), (0, True), (False, 1)):
                expected = any(type(value) is tuple and value == told
                               and all(type(number) is int for number in value) for told in garden)
                self.assertIs(value in garden, expected)
                self.assertIs(value not in garden, not expected)
        self.assertIs((1,) in Garden(ONE), True)
        self.assertIs((True,) in Garden(ONE), False)
        self.assertIs((0, 1) in Garden(CHERRY), True)
        self.assertIs((0, True) in Garden(CHERRY), False)

    def test_iteration_again_and_again(self):
        garden = Garden(W)
        self.assertEqual([(one, other) for one in garden for other in garden],
                         [(one, other) for one in list(garden) for other in list(garden)])

    def test_equal_and_not(self):
        for web in SAMPLES:
            for other in SAMPLES:
                alike = form(web) == form(other)
                self.assertIs(Garden(web) == Garden(other), alike)
                self.assertIs(Garden(web) != Garden(other), not alike)
        garden = Garden(W)
        for value in ANY_VALUES + (W, V, garden.lot, str(garden), list(garden)):
            self.assertIs(garden == value, False)
            self.assertIs(garden != value, True)
            self.assertIs(value == garden, False)

    def test_equal_whatever_the_deeds(self):
        garden = Garden(TREE)
        garden.graft(*GRAFT)
        garden.watch(print)
        self.assertIs(garden == Garden(W), True)
        self.assertIs(garden != Garden(W), False)
        self.assertIs(garden == Garden(TREE), False)

    def test_text(self):
        for web in SAMPLES:
            self.assertEqual(str(Garden(web)), web_text(web))
        garden = Garden(W)
        garden.strike(5, 3)
        self.assertEqual(str(garden), "(0,(1,2));")


class TestDeeds(GardenTest):
    def check(self, garden, web, deed, *arguments):
        """The deed is done, leads to this web, and tells what is gone and come."""
        before, version = garden.lot, garden.version
        told = getattr(garden, deed)(*arguments)
        self.assertEqual((garden.web, garden.lot, garden.version), (web, plain_lot(web), version + 1))
        self.assertEqual(told, plain_pair(before, plain_lot(web)))
        self.assertEqual([type(part) for part in (told,) + told], [tuple] * 3)

    def test_by_hand(self):
        garden = Garden(W)
        self.assertEqual(garden.strike(5, 3), (((0, 1, 0), (1, 1, 0), (1, 2, 1)), ((1, 1, 1),)))
        self.assertEqual(garden.graft(("on", 4, 0), ("on", 3, 1)),
                         (((1, 1, 1),), ((0, 1, 0), (1, 1, 0), (1, 2, 1))))
        self.assertEqual(garden.rename((1, 0, 2)), (((0, 1, 0), (0, 1, 1), (1, 2, 1)),
                                                    ((1, 0, 0), (1, 0, 1), (2, 1, 1))))
        self.assertEqual(garden.version, 3)

    def test_rows_as_often_as_they_stand(self):
        # (1, 1, 0) stands twice in the one lot and not at all in the other one.
        web = (3, ((0, 1), (3,), (2, 4), (4, 5)))
        gone, _ = Garden(web).rename((0, 2, 1))
        self.assertEqual(gone.count((1, 1, 0)), 2)

    def test_strikes(self):
        for web in SAMPLES:
            start = form(web)
            for parent, child in links(start):
                if child in mixings(start):
                    self.check(Garden(web), struck(start, parent, child), "strike", parent, child)

    def test_grafts(self):
        draws = Draws(92)
        for web in SAMPLES:
            start = form(web)
            found = spots(start)
            for begin, end in draws.some(found, min(len(found), 6)):
                self.check(Garden(web), grafted(start, begin, end), "graft", begin, end)

    def test_renames(self):
        draws = Draws(93)
        for web in SAMPLES:
            garden = Garden(web)
            for _ in range(3):
                names = tuple(draws.some(range(web[0]), web[0]))
                self.check(garden, renamed(garden.web, names), "rename", names)

    def test_names_as_they_are_are_a_deed(self):
        garden = Garden(W)
        self.assertEqual(garden.rename((0, 1, 2)), ((), ()))
        self.assertEqual((garden.version, garden.web), (1, V))
        self.assertEqual(garden.undo(), ((), ()))
        self.assertEqual(garden.version, 0)

    def test_by_name(self):
        garden = Garden(W)
        garden.strike(child=3, parent=5)
        garden.graft(end=("on", 3, 1), begin=("on", 4, 0))
        garden.rename(names=(2, 1, 0))
        self.assertEqual(garden.since(value=0), plain_pair(lot(W), garden.lot))
        garden.unwatch(number=garden.watch(function=print))

    def test_links_are_those_of_its_own_web(self):
        # In W the kinds 4 and 5 stand otherwise than in its form.
        garden = Garden(W)
        garden.strike(4, 3)
        self.assertEqual(garden.web, struck(V, 4, 3))
        self.assertNotEqual(garden.web, struck(W, 4, 3))


class TestRefused(GardenTest):
    def test_no_link(self):
        for web in (W, ONE, CHERRY, ABOVE, THREE):
            garden = Garden(web)
            mixed = mixings(garden.web)
            for parent in range(-1, len(garden) + 1):
                for child in range(-1, len(garden) + 1):
                    if (parent, child) not in links(garden.web) or child not in mixed:
                        self.refuse(garden, NoLink, {"parent": parent, "child": child},
                                    "strike", parent, child)

    def test_no_link_with_any_values(self):
        garden = Garden(W)
        for value in ANY_VALUES + (W, garden):
            self.refuse(garden, NoLink, {"parent": value, "child": value}, "strike", value, value)
            self.refuse(garden, NoLink, {"parent": 7, "child": value}, "strike", 7, value)
            if value != 5 and value != 4:
                self.refuse(garden, NoLink, {"parent": value, "child": 3}, "strike", value, 3)

    def test_bad_graft(self):
        garden = Garden(TREE)
        for begin, end, word in ((("in", 0), GRAFT[1], "begin"), (GRAFT[0], ("in", 3), "end"),
                                 (GRAFT[0], GRAFT[0], "same"), (("in", 3), ("on", 4, 3), "ring"),
                                 (("in", 4), ("on", 4, 2), "twice"), ("over", "over", "begin")):
            self.refuse(garden, BadGraft, {"word": word}, "graft", begin, end)
        self.refuse(Garden(W), BadGraft, {"word": "bare"}, "graft", ("over",), ("on", 3, 1))
        full = Garden(FULL)
        self.refuse(full, BadGraft, {"word": "kinds"}, "graft", ("over",), ("in", mixings(full.web)[0]))

    def test_bad_graft_with_any_values(self):
        garden = Garden(TREE)
        for value in ANY_VALUES + (W, garden):
            self.refuse(garden, BadGraft, {"word": "begin"}, "graft", value, GRAFT[1])
            self.refuse(garden, BadGraft, {"word": "begin"}, "graft", value, value)
            self.refuse(garden, BadGraft, {"word": "end"}, "graft", GRAFT[0], value)

    def test_bad_names(self):
        garden = Garden(W)
        for value in ANY_VALUES + ((0, 1), (0, 1, 2, 3), (0, 1, 1), (1, 2, 3), (0, 1, -1), [0, 1, 2],
                                   (0, True, 2), (False, 1, 2), (0, 1, "2"), (0, 1, (2,)), "012",
                                   {0: 0, 1: 1, 2: 2}, (0, 1, None), (0, 1, [2]), W, garden):
            self.refuse(garden, BadNames, {"names": value}, "rename", value)
        self.refuse(Garden(ONE), BadNames, {"names": (False,)}, "rename", (False,))
        self.refuse(Garden(CHERRY), BadNames, {"names": (0, True)}, "rename", (0, True))
        self.assertEqual(Garden(ONE).rename((0,)), ((), ()))


class TestFull(GardenTest):
    def test_ahead_of_all_else(self):
        garden = turned(Garden(W), 30)
        self.assertEqual(garden.version, 30)
        mixing = mixings(garden.web)[0]
        upper = [parent for parent, child in links(garden.web) if child == mixing][0]
        self.refuse(garden, Full, {}, "rename", (0, 1, 2))
        self.refuse(garden, Full, {}, "rename", None)
        self.refuse(garden, Full, {}, "strike", upper, mixing)
        self.refuse(garden, Full, {}, "strike", None, [])
        self.refuse(garden, Full, {}, "graft", *spots(garden.web)[0])
        self.refuse(garden, Full, {}, "graft", None, None)

    def test_not_with_twenty_nine(self):
        garden = turned(Garden(W), 29)
        self.refuse(garden, BadNames, {"names": None}, "rename", None)
        self.refuse(garden, NoLink, {"parent": 6, "child": 6}, "strike", 6, 6)
        self.refuse(garden, BadGraft, {"word": "begin"}, "graft", None, None)
        garden.rename((0, 1, 2))
        self.refuse(garden, Full, {}, "rename", None)

    def test_not_once_one_is_taken_back(self):
        garden = turned(Garden(W), 30)
        last = garden.undo()
        self.assertEqual(garden.version, 29)
        self.assertEqual(garden.redo(), (last[1], last[0]))
        self.refuse(garden, Full, {}, "rename", (0, 1, 2))
        garden.undo()
        garden.rename((0, 1, 2))
        self.refuse(garden, Full, {}, "rename", (0, 1, 2))
        self.refuse(garden, NothingUndone, {}, "redo")

    def test_all_thirty_back_and_forth(self):
        garden = turned(Garden(W), 30)
        last = garden.web
        for _ in range(30):
            garden.undo()
        self.refuse(garden, NothingDone, {}, "undo")
        self.assertEqual((garden.web, garden.version), (V, 0))
        for _ in range(30):
            garden.redo()
        self.refuse(garden, NothingUndone, {}, "redo")
        self.assertEqual((garden.web, garden.version), (last, 30))


class TestUndoAndRedo(GardenTest):
    def test_nothing_done(self):
        garden = Garden(W)
        self.refuse(garden, NothingDone, {}, "undo")
        self.refuse(garden, NothingUndone, {}, "redo")
        garden.strike(5, 3)
        self.refuse(garden, NothingUndone, {}, "redo")
        garden.undo()
        self.refuse(garden, NothingDone, {}, "undo")
        garden.redo()
        self.refuse(garden, NothingUndone, {}, "redo")

    def test_back_and_forth(self):
        garden = Garden(TREE)
        webs = [garden.web]
        for deed, arguments in (("graft", GRAFT), ("rename", ((1, 2, 0),)), ("graft", (("over",), ("in", 3))),
                                ("rename", ((2, 1, 0),))):
            getattr(garden, deed)(*arguments)
            webs.append(garden.web)
        at = 4
        for step in (-1, -1, 1, -1, -1, 1, 1, 1, -1, -1, -1, -1, 1, 1, 1, 1):
            told = garden.undo() if step < 0 else garden.redo()
            self.assertEqual(told, plain_pair(lot(webs[at]), lot(webs[at + step])))
            at += step
            self.assertEqual((garden.web, garden.lot, garden.version), (webs[at], lot(webs[at]), at))

    def test_nothing_to_redo_behind_a_new_deed(self):
        garden = turned(Garden(W), 3)
        garden.undo()
        garden.undo()
        garden.rename((2, 1, 0))
        self.assertEqual(garden.version, 2)
        self.refuse(garden, NothingUndone, {}, "redo")
        garden.undo()
        self.assertEqual(garden.web, turned(Garden(W), 1).web)
        garden.redo()
        self.refuse(garden, NothingUndone, {}, "redo")

    def test_still_to_redo_behind_a_refused_one(self):
        garden = turned(Garden(W), 2)
        last = garden.web
        garden.undo()
        garden.undo()
        self.refuse(garden, BadNames, {"names": ()}, "rename", ())
        self.refuse(garden, NoLink, {"parent": 0, "child": 0}, "strike", 0, 0)
        self.refuse(garden, BadGraft, {"word": "begin"}, "graft", 0, 0)
        self.refuse(garden, NothingDone, {}, "undo")
        garden.redo()
        garden.redo()
        self.assertEqual(garden.web, last)


class TestSince(GardenTest):
    def test_every_number_of_deeds(self):
        garden = Garden(TREE)
        lots = [garden.lot]
        for deed, arguments in (("graft", GRAFT), ("rename", ((1, 2, 0),)), ("rename", ((0, 1, 2),)),
                                ("graft", (("over",), ("in", 3)))):
            getattr(garden, deed)(*arguments)
            lots.append(garden.lot)
            for version, before in enumerate(lots):
                self.assertEqual(garden.since(version), plain_pair(before, garden.lot))
        self.assertEqual(garden.since(4), ((), ()))
        garden.undo()
        garden.undo()
        for version in range(3):
            self.assertEqual(garden.since(version), plain_pair(lots[version], lots[2]))

    def test_behind_another_deed(self):
        # What was taken back is no version any more.
        garden = turned(Garden(W), 2)
        garden.undo()
        garden.rename((2, 1, 0))
        self.assertEqual(garden.since(2), ((), ()))
        self.assertEqual(garden.since(1), plain_pair(turned(Garden(W), 1).lot, garden.lot))

    def test_no_version(self):
        for garden in (Garden(W), turned(Garden(W), 2)):
            for value in ANY_VALUES + (garden.version + 1, -1, (0,), "0", W, garden):
                if type(value) is not int or not 0 <= value <= garden.version:
                    self.refuse(garden, NoVersion, {"value": value}, "since", value)
        garden = turned(Garden(W), 2)
        garden.undo()
        self.refuse(garden, NoVersion, {"value": 2}, "since", 2)


class TestWatches(GardenTest):
    def test_called_in_order_behind_each_deed(self):
        garden, calls = Garden(TREE), []
        for name in "abc":
            garden.watch(lambda told, gone, come, name=name:
                         calls.append((name, told is garden, state(told), gone, come)))
        for deed, arguments in (("graft", GRAFT), ("rename", ((1, 2, 0),)), ("undo", ()), ("redo", ()),
                                ("strike", (5, 3)), ("undo", ()), ("undo", ())):
            calls.clear()
            gone, come = getattr(garden, deed)(*arguments)
            now = state(garden)
            self.assertEqual(calls, [(name, True, now, gone, come) for name in "abc"])

    def test_called_for_deeds_that_change_no_row(self):
        garden, calls = Garden(W), []
        garden.watch(lambda *told: calls.append(told[1:]))
        garden.rename((0, 1, 2))
        garden.undo()
        self.assertEqual(calls, [((), ()), ((), ())])

    def test_numbers_go_up_each_once(self):
        garden = Garden(W)
        self.assertEqual([garden.watch(print) for _ in range(3)], [0, 1, 2])
        garden.unwatch(1)
        self.assertEqual(garden.watch(print), 3)
        garden.unwatch(3)
        garden.unwatch(0)
        garden.unwatch(2)
        self.assertEqual(garden.watch(print), 4)

    def test_the_same_function_twice(self):
        garden, calls = Garden(W), []

        def watch(told, gone, come):
            calls.append(gone)

        self.assertEqual((garden.watch(watch), garden.watch(watch)), (0, 1))
        garden.rename((0, 1, 2))
        self.assertEqual(len(calls), 2)
        garden.unwatch(0)
        garden.rename((0, 1, 2))
        self.assertEqual(len(calls), 3)

    def test_not_called_any_more(self):
        garden, calls = Garden(W), []
        for name in "abc":
            garden.watch(lambda told, gone, come, name=name: calls.append(name))
        self.assertIsNone(garden.unwatch(1))
        garden.rename((0, 1, 2))
        garden.watch(lambda told, gone, come: calls.append("d"))
        garden.undo()
        self.assertEqual(calls, ["a", "c", "a", "c", "d"])

    def test_no_watch(self):
        garden = Garden(W)
        for value in ANY_VALUES + (W, garden):
            self.refuse_watch(garden, value)
        for _ in range(3):
            garden.watch(print)
        for value in (True, False, -1, 3, None, "0", (0,), [0], {}, [], garden):
            self.refuse_watch(garden, value)
        garden.unwatch(1)
        self.refuse_watch(garden, 1)
        garden.unwatch(0)
        self.refuse_watch(garden, 0)

    def refuse_watch(self, garden, value):
        with self.assertRaises(NoWatch) as held:
            garden.unwatch(value)
        self.assertIs(held.exception.number, value)


class TestTwin(GardenTest):
    def test_same_web_and_deeds(self):
        garden = turned(Garden(W), 3)
        garden.undo()
        twin = garden.twin()
        self.assertIs(type(twin), Garden)
        self.assertIsNot(twin, garden)
        self.assertIs(twin == garden, True)
        self.assertEqual(state(twin), state(garden))
        self.assertEqual(twin.redo(), garden.redo())
        for _ in range(3):
            self.assertEqual(twin.undo(), garden.undo())
            self.assertEqual(state(twin), state(garden))
        self.refuse(twin, NothingDone, {}, "undo")
        for _ in range(3):
            self.assertEqual(twin.redo(), garden.redo())
        self.refuse(twin, NothingUndone, {}, "redo")

    def test_each_goes_on_by_itself(self):
        garden = turned(Garden(W), 2)
        garden.undo()
        twin = garden.twin()
        before = state(twin)
        garden.rename((2, 1, 0))
        garden.undo()
        garden.undo()
        self.assertEqual(state(twin), before)
        twin.redo()
        before = state(garden)
        twin.rename((1, 0, 2))
        self.assertEqual(state(garden), before)
        self.assertEqual((garden.version, twin.version), (0, 3))

    def test_without_watches(self):
        garden, calls = Garden(W), []
        garden.watch(lambda *told: calls.append("garden"))
        garden.watch(lambda *told: calls.append("garden"))
        twin = garden.twin()
        twin.rename((0, 1, 2))
        self.assertEqual(calls, [])
        with self.assertRaises(NoWatch):
            twin.unwatch(0)
        self.assertEqual(twin.watch(lambda *told: calls.append("twin")), 0)
        twin.undo()
        garden.rename((0, 1, 2))
        self.assertEqual(calls, ["twin", "garden", "garden"])
        self.assertEqual((garden.watch(print), twin.watch(print)), (2, 1))

    def test_full_as_well(self):
        twin = turned(Garden(W), 30).twin()
        self.refuse(twin, Full, {}, "rename", (0, 1, 2))


class TestOthers(GardenTest):
    def test_gardens_do_not_share(self):
        one, other = Garden(W), Garden(W)
        one.strike(5, 3)
        one.watch(print)
        self.assertEqual(state(other), state(Garden(W)))
        self.assertEqual(other.watch(lambda *told: None), 0)

    def test_later_changes_change_no_answer(self):
        names = [2, 1, 0]
        garden = Garden(W)
        garden.rename(tuple(names))
        before = state(garden)
        names.append(3)
        told = list(garden)
        told.clear()
        self.assertEqual(state(garden), before)

    def test_arguments_stay_as_they_were(self):
        garden = Garden(W)
        for value in ANY_VALUES:
            before = copy.deepcopy(value)
            for deed, many in (("strike", 2), ("graft", 2), ("rename", 1), ("since", 1), ("unwatch", 1)):
                try:
                    getattr(garden, deed)(*[value] * many)
                except ValueError:
                    pass
            self.assertEqual(repr(value), repr(before))

    def test_what_is_told_may_be_passed_on(self):
        garden = Garden(BROAD)
        self.assertIs(Garden(garden.web) == garden, True)
        self.assertEqual(lot(garden.web), garden.lot)
        for begin, end in spots(garden.web)[:5]:
            garden.graft(begin, end)
            self.assertIsNone(web_error(garden.web))
            garden.undo()


if __name__ == "__main__":
    unittest.main()
