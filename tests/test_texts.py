"""Texts of webs: written, read, and each fault by itself and ahead of the later ones."""

import copy
import re
import unittest

from samples import (ABOVE, ANY_VALUES, BROAD, CHERRY, FLAT, FULL, LADDER, ONE, OVERFULL, THREE, W, WEBS,
                     Draws, drawn_webs, numberings, plain_children, plain_parents, small_webs, tower)
from wayrows.errors import BadName, BadText, BadWeb
from wayrows.forms import form
from wayrows.texts import read_web, web_text
from wayrows.webs import web_error

TREE = (4, ((0, 1), (2, 4), (3, 5)))
# A mixing (4) beneath another one (6), with which it has a parent in common.
NESTED = (4, ((0,), (1, 4), (5,), (2, 4, 6), (3, 6), (7, 8)))
SAMPLES = small_webs() + list(WEBS) + drawn_webs(60, 81) + [LADDER, TREE, NESTED, tower(4, 4), tower(6, 2)]
ALPHABET = "01789(),#; a-"


def plain_text(web):
    """The text by the document's words: first with the kinds' numbers, then with the right ones."""
    shape = form(web)
    below, above, done = plain_children(shape), plain_parents(shape), set()

    def written(kind):
        if len(above[kind]) > 1:
            if kind in done:
                return f"<{kind}>"
            done.add(kind)
            return f"({written(below[kind][0])})<{kind}>"
        if not below[kind]:
            return str(kind)
        return "(" + ",".join([written(child) for child in below[kind]]) + ")"

    text = written(max(below)) + ";"
    for at, name in enumerate(dict.fromkeys(re.findall("<[0-9]+>", text))):
        text = text.replace(name, f"#{at}")
    return text


def drawn_text(web, draws):
    """A text of the web with children in a drawn order, any numbers, and written out anywhere."""
    below, above = plain_children(web), plain_parents(web)
    mixed = [kind for kind in below if len(above[kind]) > 1]
    numbers = dict(zip(mixed, draws.some(range(1000), len(mixed))))
    places = {kind: draws.some(above[kind], 1)[0] for kind in mixed}

    def written(kind, upper):
        if kind in mixed and places[kind] != upper:
            return f"#{numbers[kind]}"
        if not below[kind]:
            return str(kind)
        told = [written(child, kind) for child in draws.some(below[kind], len(below[kind]))]
        return "(" + ",".join(told) + ")" + (f"#{numbers[kind]}" if kind in mixed else "")

    return written(max(below), None) + ";"


def is_text(value):
    """Whether value is a text by the rules of signs alone: kinds become K, one within another."""
    value = re.sub("#(0|[1-9][0-9]{0,2})(?![0-9])", "N", value.replace("N", " ").replace("K", " "))
    value = re.sub("[0-7]", "K", value)
    value = re.sub(r"(?<!\))N", "K", value)
    before = None
    while before != value:
        before = value
        value = re.sub(r"\(K(,K)+\)(?!N)|\(K\)N", "K", value)
    return value == "K;"


def may_begin(value):
    """Whether value begins some text: a few signs end the kind, and others all open brackets."""
    return is_text(value) or any(is_text(value + signs + ",0)" * many + ";")
                                 for signs in ("", "0", "#0") for many in range(value.count("(") + 1))


def plain_place(value):
    """The length of the longest beginning of value that begins some text."""
    return max(many for many in range(len(value) + 1) if may_begin(value[:many]))


def plain_name(value):
    """The number of the first fault of names in a text, by the place of its sign; None if there is none."""
    told = [(match.start(), int(match.group(1))) for match in re.finditer("#([0-9]+)", value)]
    outs = [place for place, _ in told if value[place - 1] == ")"]
    for place, number in told:
        come = [other for other, name in told if name == number]
        written = [other for other in come if other in outs]
        if place in written[1:] or len(come) == 1 or (place == come[0] and not written):
            return number
    return None


class TextsTest(unittest.TestCase):
    def check(self, value, kind, field, told):
        before = repr(value)
        with self.assertRaises(kind) as held:
            read_web(value)
        self.assertIs(type(held.exception), kind)
        self.assertEqual(getattr(held.exception, field), told, value)
        self.assertIs(type(getattr(held.exception, field)), type(told))
        self.assertEqual(repr(value), before)

    def check_place(self, value, place):
        self.check(value, BadText, "place", place)

    def check_name(self, value, number):
        self.check(value, BadName, "number", number)

    def check_web(self, value, word):
        self.check(value, BadWeb, "error", word)


class TestWebText(TextsTest):
    def test_document(self):
        self.assertEqual([web_text(W), read_web("((#7,2),(0,(1)#7));") == form(W)],
                         ["((2,(1)#0),(0,#0));", True])

    def test_trees(self):
        self.assertEqual(web_text(ONE), "0;")
        self.assertEqual(web_text(CHERRY), "(0,1);")
        self.assertEqual(web_text(FLAT), "(0,1,2,3,4,5,6,7);")
        self.assertEqual(web_text(TREE), "(3,(2,(0,1)));")

    def test_mixings_with_several_parents(self):
        self.assertEqual(web_text(THREE), "((3,(0)#0),(2,#0),(1,#0));")
        self.assertEqual(web_text(ABOVE), "(((0,1))#0,(2,#0));")
        self.assertEqual(web_text((2, ((1,), (0, 2), (2, 3), (2, 4)))), "((1)#0,(#0,(0,#0)));")

    def test_mixings_within_mixings(self):
        # What is written out within comes ahead, as its "#" stands ahead.
        self.assertEqual(web_text(NESTED), "((3,((1,(0)#0))#1),(2,#0,#1));")
        self.assertEqual(web_text(LADDER), "((2,((0,(1)#0))#1),(3,#0,#1));")
        self.assertEqual(web_text((3, ((0,), (1, 3), (3, 4), (5,), (2, 6), (6, 7)))),
                         "((((0)#0,(1,#0)))#1,(2,#1));")

    def test_all_webs(self):
        for web in SAMPLES:
            self.assertEqual(web_text(web), plain_text(web))

    def test_alike_webs_have_one_text(self):
        for web in (W, ABOVE, THREE, BROAD, LADDER, NESTED, tower(2, 3)):
            self.assertEqual({web_text(other) for other in numberings(web)}, {plain_text(web)})

    def test_somewhat_beyond_the_bounds(self):
        self.assertEqual(web_text(OVERFULL), plain_text(OVERFULL))


class TestReadWeb(TextsTest):
    def test_texts_told(self):
        for web in SAMPLES:
            told = read_web(web_text(web))
            self.assertEqual(told, form(web))
            self.assertIsNone(web_error(told))

    def test_children_in_any_order_and_any_numbers(self):
        for value in ("((2,(1)#0),(0,#0));", "((0,(1)#0),(2,#0));", "((0,#0),(2,(1)#0));", "((#0,0),((1)#0,2));",
                      "((#999,2),(0,(1)#999));", "((2,#10),((1)#10,0));", "(((1)#5,0),(#5,2));"):
            self.assertEqual(read_web(value), form(W), value)
        self.assertEqual(read_web("(1,0);"), CHERRY)
        self.assertEqual(read_web("0;"), ONE)
        self.assertEqual(read_web("(3,((1,0),2));"), TREE)

    def test_written_out_at_any_place(self):
        for value in ("((1,(0)#3),(2,#3),(3,#3));", "((1,#3),(2,(0)#3),(3,#3));", "((1,#3),(2,#3),(3,(0)#3));"):
            self.assertEqual(read_web(value), form(THREE))

    def test_drawn_texts(self):
        draws = Draws(82)
        for web in SAMPLES:
            for _ in range(3):
                value = drawn_text(web, draws)
                self.assertTrue(is_text(value))
                self.assertEqual(read_web(value), form(web), value)

    def test_the_same_call_gets_the_same_answer(self):
        values = [web_text(web) for web in SAMPLES]
        kept = copy.deepcopy(SAMPLES)
        first = [read_web(value) for value in values]
        self.assertEqual([read_web(value) for value in values[::-1]], first[::-1])
        self.assertEqual([web_text(web) for web in SAMPLES[::-1]], values[::-1])
        self.assertEqual(SAMPLES, kept)

    def test_tuples_at_every_depth(self):
        told = read_web("((2,(1)#0),(0,#0));")
        self.assertEqual((type(told), type(told[0]), type(told[1])), (tuple, int, tuple))
        for item in told[1]:
            self.assertEqual((type(item), {type(kind) for kind in item}), (tuple, {int}))


class TestBadText(TextsTest):
    def test_no_string(self):
        for value in ANY_VALUES + WEBS + (["0;"], ("0;",), {"0;": 0}, b"0;"):
            if not isinstance(value, str):
                self.check_place(value, -1)

    def test_strings(self):
        for value in ANY_VALUES:
            if isinstance(value, str):
                self.check_place(value, plain_place(value[:20]))
        self.check_place("", 0)
        self.check_place("x" * 3000, 0)

    def test_signs_lack(self):
        for web in SAMPLES[::3] + [W, LADDER]:
            value = web_text(web)
            for many in range(len(value)):
                self.check_place(value[:many], many)

    def test_a_sign_lacks_or_is_too_many(self):
        for web in (ONE, CHERRY, W, THREE, ABOVE, NESTED):
            value = web_text(web)
            changed = [value[:at] + value[at + 1:] for at in range(len(value))]
            changed += [value[:at] + sign + value[at:] for at in range(len(value) + 1) for sign in ALPHABET]
            changed += [value[:at] + sign + value[at + 1:] for at in range(len(value)) for sign in ALPHABET]
            for other in changed:
                if not is_text(other):
                    self.check_place(other, plain_place(other))

    def test_all_short_strings(self):
        begun = [""]
        for _ in range(6):
            longer = []
            for value in begun:
                if not is_text(value):
                    self.check_place(value, len(value))
                for sign in "0189(),#;x":
                    if may_begin(value + sign):
                        longer.append(value + sign)
                    else:
                        for rest in ("", ";", "0)"):
                            self.check_place(value + sign + rest, len(value))
            begun = longer

    def test_behind_the_end(self):
        self.check_place("0;;", 2)
        self.check_place("0; ", 2)
        self.check_place("0;0;", 2)
        self.check_place("(0,1);x", 6)
        self.check_place(" 0;", 0)
        self.check_place("(0,1);\n", 6)

    def test_numbers(self):
        self.check_place("#;", 1)
        self.check_place("#01;", 2)
        self.check_place("#00;", 2)
        self.check_place("#1000;", 4)
        self.check_place("#x;", 1)
        self.check_place("#-1;", 1)
        self.check_place("(0)#012;", 5)
        self.check_place("(0)#1234;", 7)
        self.check_place("(0)#", 4)
        self.check_place("(0)#;", 4)
        self.check_name("#999;", 999)
        self.check_name("#0;", 0)
        self.check_name("(0)#100;", 100)

    def test_leaves(self):
        self.check_place("8;", 0)
        self.check_place("9;", 0)
        self.check_place("(0,8);", 3)
        self.check_place("(9,0);", 1)
        self.check_place("10;", 1)
        self.check_place("(0,12);", 4)
        self.check_place("07;", 1)
        self.check_web("7;", "leaves")

    def test_one_kind_in_brackets_has_a_number(self):
        self.check_place("(0);", 3)
        self.check_place("((0,1));", 7)
        self.check_place("((0),1);", 4)
        self.check_place("(0,1)#0;", 5)
        self.check_place("((0,1)#0,2);", 6)
        self.check_place("();", 1)
        self.check_place("(0,);", 3)
        self.check_place("(,0);", 1)
        self.check_place("0,1;", 1)
        self.check_place("(0,1;", 4)
        self.check_place("0);", 1)
        self.check_place("(0 ,1);", 2)

    def test_nested_deep(self):
        for many in (1000, 2999, 3000):
            self.check_place("(" * many, many)
            self.check_place("(" * many + ")", many)
        self.check_place("(" * 1000 + "0" + ")" * 1000, 1002)
        self.check_place("(" * 1000 + "0" + ",1)" * 1000, 4001)

    def test_ahead_of_the_later_ones(self):
        self.check_place("(#1,(0)#1)", 10)
        self.check_place("#5", 2)
        self.check_place("(0,0)", 5)
        self.check_place("((0)#1,(0)#1)x", 13)
        self.check_place("((#1,#1))#1x", 11)


class TestBadName(TextsTest):
    def test_written_out_twice(self):
        self.check_name("((0)#4,(1)#4);", 4)
        self.check_name("((2,(1)#0),((1)#0,#0));", 0)
        self.check_name("(((0)#4)#4,1);", 4)
        self.check_name("(#3,((0)#3,(1)#3));", 3)
        self.check_name("((0)#4,(1)#4,(2)#4);", 4)

    def test_written_out_nowhere(self):
        self.check_name("(#2,(0,#2));", 2)
        self.check_name("((0,#12),(1,#12));", 12)

    def test_comes_once(self):
        self.check_name("(0)#1;", 1)
        self.check_name("((0)#1,1);", 1)
        self.check_name("(#1,0);", 1)
        self.check_name("((0,1))#999;", 999)

    def test_first_by_the_place_of_the_sign(self):
        # 2 is written out nowhere, 1 comes once: the "#" of what is within stands ahead.
        self.check_name("(((#2,0))#1,#2);", 2)
        self.check_name("(((0)#3)#4,1);", 3)
        self.check_name("(((0)#3,1),(#4,#3));", 4)
        self.check_name("((#5,(0)#6),((1)#6,#5));", 5)
        self.check_name("(((0)#6,#5),((1)#6,(2)#5));", 6)
        self.check_name("((0)#6,((1)#6,#7));", 6)

    def test_drawn_texts_with_a_number_changed(self):
        draws, seen = Draws(83), set()
        for web in SAMPLES:
            value = drawn_text(web, draws)
            names = re.findall("#[0-9]+", value)
            for at, match in enumerate(re.finditer("#[0-9]+", value)):
                other = draws.some(names + ["#0"], 1)[0]
                changed = value[:match.start()] + other + value[match.end():]
                number = plain_name(changed)
                seen.add(number is None)
                if number is not None:
                    self.check_name(changed, number)
                elif changed == value:
                    self.assertEqual(read_web(changed), form(web))
        self.assertEqual(seen, {True, False})

    def test_ahead_of_the_later_ones(self):
        self.check_name("(0,(0)#1);", 1)
        self.check_name("((#1)#1,(#2,#2));", 2)
        self.check_name("(7,#1);", 1)


class TestBadWeb(TextsTest):
    def test_ring(self):
        self.check_web("(0,((#1,1))#1);", "ring")
        self.check_web("(#1)#1;", "ring")
        self.check_web("((#2,0))#2;", "ring")
        self.check_web("((0,((1,#2))#1),(2,((3,#1))#2));", "ring")

    def test_leaves(self):
        self.check_web("1;", "leaves")
        self.check_web("(0,0);", "leaves")
        self.check_web("(0,2);", "leaves")
        self.check_web("(1,2);", "leaves")
        self.check_web("(0,1,1);", "leaves")
        self.check_web("((2,(1)#0),(3,#0));", "leaves")
        self.check_web("(0,1,2,3,4,5,6,7,0);", "leaves")
        self.check_web("(0,1,2,3,4,5,7);", "leaves")

    def test_inner(self):
        self.assertEqual(len(read_web(web_text(FULL))[1]), 20)
        self.check_web(web_text(OVERFULL), "inner")
        value = "(1,(0)#0)"
        for many in range(3, 23):
            value = f"({value},#0)"
            if many <= 20:
                self.assertEqual(len(read_web(value + ";")[1]), many)
            else:
                self.check_web(value + ";", "inner")

    def test_twice(self):
        self.check_web("((0)#1,#1);", "twice")
        self.check_web("(1,(0)#1,#1);", "twice")
        self.check_web("((0,(1)#2),(#2,#2,2));", "twice")

    def test_bare(self):
        # A mixing's child is a mixing, written out or named; a plain kind has two mixings.
        self.check_web("((((0)#1)#2,1),(#1,#2,2));", "bare")
        self.check_web("((((0)#0)#2,1),(#0,#2,2));", "bare")
        self.check_web("((((0)#999)#0,1),(#999,#0,2));", "bare")
        self.check_web("((0,(1)#1,(#1)#2),(2,#2));", "bare")
        self.check_web("(((0)#1,(1)#2),(#1,2),(#2,3));", "bare")

    def test_ahead_of_the_later_ones(self):
        self.check_web("(0,((#1,0))#1);", "ring")
        self.check_web("((#1)#1,(0)#2,#2);", "ring")
        self.check_web("((0)#1,#1,0);", "leaves")
        self.check_web("((0)#1,(0)#2,(#1,#2));", "leaves")
        self.check_web("((0)#1,(#1,#1));", "twice")
        deep = "(0,(1)#0)"
        for _ in range(22):
            deep = f"({deep},#0)"
        self.check_web(deep.replace("1", "0") + ";", "leaves")
        self.check_web(deep[:-1] + ",#0);", "inner")
        self.check_web(f"(({deep},(0)#1),(2,#1));", "leaves")
        self.check_web(f"(({deep},(2)#1),(((#1)#3,#3),3));", "inner")

    def test_read_or_barred(self):
        # A mixing comes once more, as a further child of some plain kind.
        draws, seen = Draws(84), set()
        for web in SAMPLES * 2:
            value = drawn_text(web, draws)
            names = sorted(set(re.findall("#[0-9]+", value)))
            places = [match.start() for match in re.finditer(r"\)(?!#)", value)]
            for at in draws.some(places, min(len(places), 6)) if names else ():
                changed = value[:at] + "," + draws.some(names, 1)[0] + value[at:]
                self.assertIsNone(plain_name(changed))
                try:
                    told = read_web(changed)
                except BadWeb as error:
                    seen.add(error.error)
                else:
                    seen.add(None)
                    self.assertIsNone(web_error(told))
                    self.assertEqual(form(told), told)
                    self.assertEqual(len(told[1]), len(web[1]))
        self.assertEqual(seen, {None, "ring", "twice"})

    def test_thousands_of_brackets(self):
        # Each mixing but the innermost is written out within the next one, and named once more.
        many = 190
        value = "(" * many + "0" + "".join(f")#{at}" for at in range(many))
        named = ",".join(f"#{at}" for at in range(many))
        self.check_web(f"({value},(1,{named}));", "inner")
        self.check_web(f"({value.replace('0', '#189', 1)},(1,{named}));", "ring")
        plain = "(0," * 600 + "0" + ")" * 600
        self.check_web(plain + ";", "leaves")
        plain = "(" * 700 + "0" + ",0)" * 700
        self.check_web(plain + ";", "leaves")


if __name__ == "__main__":
    unittest.main()
