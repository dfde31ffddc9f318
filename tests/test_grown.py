"""All binary webs of small numbers of leaves and mixings."""

import unittest

from samples import all_values
from wayrows.edits import struck
from wayrows.forms import form
from wayrows.grown import all_webs
from wayrows.webs import is_binary, is_tree, links, mixings, web_error

COUNTS = {(1, 0): 1, (2, 0): 1, (2, 1): 2, (3, 0): 3, (3, 1): 21, (3, 2): 42, (4, 0): 15, (4, 1): 228}


def grown_items(leaves, many):
    """All tuples of children, kind by kind, of binary webs with so many leaves and mixings.

    A begun tuple is left as soon as a leaf or plain kind has two parents, or a mixing three."""
    found = [()]
    for _ in range(leaves - 1 + 2 * many):
        longer = []
        for inner in found:
            kinds = range(leaves + len(inner))
            items = [(kind,) for kind in kinds] + [(low, high) for high in kinds for low in range(high)]
            for item in items:
                used = [child for told in inner + (item,) for child in told]
                most = [1 if kind < leaves or len(inner[kind - leaves]) == 2 else 2 for kind in kinds]
                if all(used.count(kind) <= most[kind] for kind in item):
                    longer.append(inner + (item,))
        found = longer
    return found


class TestAllWebs(unittest.TestCase):
    def test_numbers(self):
        for (leaves, many), number in COUNTS.items():
            self.assertEqual(len(all_webs(leaves, many)), number, (leaves, many))

    def test_by_hand(self):
        self.assertEqual(all_webs(1, 0), ((1, ()),))
        self.assertEqual(all_webs(2, 0), ((2, ((0, 1),)),))
        self.assertEqual(all_webs(2, 1), ((2, ((0,), (1, 2), (2, 3))), (2, ((1,), (0, 2), (2, 3)))))
        self.assertEqual(all_webs(3, 0), ((3, ((0, 1), (2, 3))), (3, ((0, 2), (1, 3))), (3, ((1, 2), (0, 3)))))

    def test_none_with_as_many_mixings_as_leaves_or_more(self):
        for leaves in (1, 2, 3):
            for many in (leaves, leaves + 1, leaves + 7, 1000, 10 ** 39):
                self.assertEqual(all_webs(leaves, many), ())

    def test_ascending_each_once(self):
        for leaves, many in COUNTS:
            told = all_webs(leaves, many)
            self.assertIs(type(told), tuple)
            self.assertEqual(told, tuple(sorted(set(told))))

    def test_each_a_binary_web_in_its_form(self):
        for leaves, many in COUNTS:
            for web in all_webs(leaves, many):
                self.assertIsNone(web_error(web))
                self.assertEqual((form(web), web[0], len(mixings(web))), (web, leaves, many))
                self.assertIs(is_binary(web), True)
                self.assertIs(is_tree(web), many == 0)

    def test_all_tuples_of_children(self):
        for leaves, most in ((1, 2), (2, 3), (3, 4)):
            found = {}
            for many in range(most + 1):
                for value in all_values(leaves, many):
                    if web_error(value) is None and is_binary(value):
                        found.setdefault(len(mixings(value)), set()).add(form(value))
            for many in range(2):
                self.assertEqual(all_webs(leaves, many), tuple(sorted(found.get(many, ()))))

    def test_all_tuples_of_children_of_more_kinds(self):
        for leaves, many in ((3, 2), (4, 0), (4, 1)):
            values = [(leaves, inner) for inner in grown_items(leaves, many)]
            found = {form(value) for value in values
                     if web_error(value) is None and len(mixings(value)) == many}
            self.assertEqual(all_webs(leaves, many), tuple(sorted(found)))

    def test_struck_webs_are_among_those_with_one_mixing_less(self):
        for leaves, many in ((2, 1), (3, 1), (3, 2), (4, 1)):
            fewer = all_webs(leaves, many - 1)
            for web in all_webs(leaves, many):
                for parent, child in links(web):
                    if child in mixings(web):
                        self.assertIn(struck(web, parent, child), fewer)

    def test_somewhat_beyond_the_bounds(self):
        told = all_webs(5, 0)
        self.assertEqual(len(told), 105)
        self.assertTrue(all(web_error(web) is None and is_tree(web) for web in told))
        told = all_webs(4, 2)
        self.assertEqual(len(told), len(set(told)))
        self.assertTrue(all(is_binary(web) and len(mixings(web)) == 2 for web in told))

    def test_the_same_call_gets_the_same_answer(self):
        self.assertEqual(all_webs(3, 1), all_webs(many=1, leaves=3))


if __name__ == "__main__":
    unittest.main()
