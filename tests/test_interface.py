"""The names, arguments and classes that the document's interface lists, each in its own file."""

import importlib
import inspect
import unittest

FUNCTIONS = {
    "webs": """cut(web, index) shut(web, index) put(web, place, other_place) renamed(web, letters)
        beside(web, other_web) without_loops(web) is_whole(web)""",
    "lots": """pieces(web, lot) rank(web, lot) spare(web, lot) is_wood(web, lot) is_hold(web, lot) is_ring(web, lot)
        is_bond(web, lot) is_even(web, lot) is_two_sided(web, lot) rings(web) bonds(web) bridges(web) blocks(web)""",
    "likeness": "plain_text(web) are_like(web, other_web) renaming(web, other_web) count_renamings(web)",
    "trees": """count_trees(web) all_trees(web) trees_with(web, inside, outside) nth_tree(web, number)
        index_of_tree(web, tree) exchanges(web, tree, index) least_length(web, lengths) count_least(web, lengths)
        least_tree(web, lengths) bound_of(web, lengths, index)""",
    "table": "lot_counts(web) table(web) value(web, x, y) early(web, tree) late(web, tree) by_trees(web)",
    "leanings": """arrows(web, leaning) turned(web, leaning, lot) is_ringless(web, leaning) is_ringed(web, leaning)
        fronts(web, leaning) ring_or_cut(web, leaning, index) order_of(web, leaning) ringless(web) ringed(web)
        with_front(web, place) are_of_sort(web, leaning, other_leaning, word) sort_of(web, leaning, word)
        count_sorts(web, word)""",
    "scores": """row_of(web, leaning) is_row(web, row) leaning_for(web, row) barring(web, row) all_rows(web)
        count_rows(web) count_leanings(web, row) turning_rings(web, leaning, other_leaning)
        distance_to_row(web, row) nearest_row(web, row)""",
    "dyes": """dye_counts(web) count_dyes(web, number) least_dyes(web) dyes(web, number) is_dye(web, number, dye)
        fitting_dyes(web, number, dye) leaning_of(web, number, dye) rising_pairs(web, number)""",
    "currents": """current_counts(web) count_currents(web, number) some_current(web, number) least_rest(web)
        bounded(web, bounds) barring_herd(web, bounds) parted(web, values) heights_of(web, values) even_cuts(web)""",
    "heaps": """behind(web, heap, gives) are_alike(web, heap, other_heap) gives_between(web, heap, other_heap)
        least_heap(web, heap, bank) is_least(web, heap, bank) burning(web, heap, bank)
        heap_of_tree(web, tree, bank)""",
    "lasting": """settled(web, heap, bank) is_lasting(web, heap, bank) lasting_heaps(web, bank) level(web, heap, bank)
        summed(web, heap, other_heap, bank) neutral(web, bank) order_of_heap(web, heap, bank) cyclic_parts(web)""",
    "hands": """walked(web, tree, place, bank) led(web, tree, heap, bank)
        leading_heap(web, tree, other_tree, bank)""",
    "ranks": "is_free(web, heap) free_heap(web, heap) rank(web, heap) mate(web, heap) taking(web, heap)",
    "pulls": """pull(web, place, other_place) heights_between(web, place, other_place) shares(web)
        steps(web, place, other_place) there_and_back(web, place, other_place)""",
    "ways": """amount(web, rooms, place, other_place) carried(web, rooms, place, other_place)
        narrowest(web, rooms, place, other_place) count_apart(web, place, other_place)
        count_clear(web, place, other_place) apart(web, place, other_place) clear(web, place, other_place)
        parting_places(web, place, other_place) cut_tree(web, rooms) joined_by(web) least_herds(web)""",
    "doubts": """range_of(web, doubts, word) count_fits(web, doubts, looks) surely(web, doubts, looks)
        best_tie(web, doubts, looks) reaching(web, offers, word, number)""",
    "boards": "attempt(board, act)",
    "checker": "accepts(claim, certificate)",
    "certificates": """certify_like(web, other_web) certify_trees(web) certify_table(web)
        certify_least_tree(web, lengths) certify_leaning(web, leaning) certify_row(web, row)
        certify_turned(web, leaning, other_leaning) certify_dyed(web, number) certify_current(web, bounds)
        certify_parted(web, values) certify_alike(web, heap, other_heap) certify_free(web, heap)
        certify_rank(web, heap) certify_lasting(web, heap, bank) certify_pull(web, place, other_place)
        certify_steps(web, place, other_place) certify_amount(web, rooms, place, other_place)
        certify_apart(web, place, other_place)""",
    "samples": "house() wheel(number)",
}
# Of each class what it is made of, and its methods; told without self.
CLASSES = {
    "webs": {"Web": "__init__(places, ties) __len__() __eq__(other) __str__() text() read(text)"},
    "boards": {"Board": "__init__(web, leaning) __len__() do(deed) do_all(deeds, *, watch=None) undo() trial()"},
    "yards": {"Yard": """__init__(web, heap) give(place) take(place) settle(bank) put(place, number) undo() trial()
        tried(act)"""},
    "shelves": {"Shelf": """__init__() __len__() __contains__(x) __getitem__(at) __setitem__(at, worth) drop(name)
        wish(wish) lift(index) cut(name, index) shut(name, index) undo() trial() tried(act)"""},
    "consoles": {"Console": "__init__(web) say(line)"},
}


def told_functions():
    for module, text in FUNCTIONS.items():
        for part in text.split(")")[:-1]:
            name, parameters = part.split("(")
            yield module, name.strip(), [parameter.strip() for parameter in parameters.split(",") if parameter]


class Interface(unittest.TestCase):
    def test_functions(self):
        for module, name, parameters in told_functions():
            call = getattr(importlib.import_module(f"webreckon.{module}"), name)
            self.assertTrue(inspect.isfunction(call), name)
            self.assertEqual(call.__module__, f"webreckon.{module}", name)
            told = inspect.signature(call).parameters
            self.assertEqual(list(told), parameters, name)
            for parameter in told.values():
                self.assertEqual(parameter.kind, inspect.Parameter.POSITIONAL_OR_KEYWORD, name)
                self.assertIs(parameter.default, inspect.Parameter.empty, name)

    def test_classes(self):
        for module, classes in CLASSES.items():
            for name, text in classes.items():
                told = getattr(importlib.import_module(f"webreckon.{module}"), name)
                self.assertTrue(inspect.isclass(told), name)
                self.assertEqual(told.__module__, f"webreckon.{module}", name)
                for part in text.split(")")[:-1]:
                    method, parameters = part.strip().split("(")
                    self.assertIn(method, vars(told), name)
                    self.assertEqual(self.told_signature(vars(told)[method]), f"({parameters})", (name, method))

    def told_signature(self, method):
        """Without the object, or the class, that stands first."""
        signature = inspect.signature(getattr(method, "__func__", method))
        return str(signature.replace(parameters=list(signature.parameters.values())[1:]))

    def test_class_method(self):
        self.assertIsInstance(vars(importlib.import_module("webreckon.webs").Web)["read"], classmethod)


if __name__ == "__main__":
    unittest.main()
