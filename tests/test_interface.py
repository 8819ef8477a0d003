"""The names and arguments of the interface, and where they are defined."""

import importlib
import inspect
import unittest

INTERFACE = {
    "houses": {
        "is_house": "house",
        "kinds_of": "house",
        "zero": "house",
        "one": "house",
        "is_worth": "house worth",
        "plus": "house one_worth other",
        "times": "house one_worth other",
        "sum_of": "house worths",
        "product_of": "house worths",
        "multiple": "house worth n",
        "power": "house worth n",
    },
    "tabled": {"fault_of": "house"},
    "formulas": {
        "is_formula": "formula",
        "tag_formula": "tag",
        "plus_formulas": "formula other",
        "times_formulas": "formula other",
        "tags_of": "formula",
        "read_formula": "house formula worths",
        "without_tags": "formula tags",
        "Formula": "formula",
    },
    "reducing": {"reduced": "kind formula", "parting": "kind formula other"},
    "values": {"is_word": "text", "is_row": "row", "compare_values": "left right", "sorted_rows": "rows"},
    "questions": {
        "check_question": "question",
        "variables_of": "join",
        "renamed": "join names",
        "put_terms": "join terms",
    },
    "writing": {"write_question": "question"},
    "reading": {"read_question": "text"},
    "plainly": {
        "store_worth": "house facts name row",
        "plain_worth": "house facts question row",
        "plain_answers": "house facts question",
    },
    "matching": {
        "matchings": "join other",
        "is_matching": "join other mapping",
        "image": "join mapping",
        "fits": "kind join other mapping",
        "covers": "join images",
    },
    "comparing": {
        "judge": "kind question other paper",
        "judge_within": "kind question other paper",
        "compare": "kind question other",
        "within": "kind question other",
        "parts": "case question other",
        "parts_from": "case question other",
    },
    "leaning": {"least_question": "kind question"},
    "sheets": {
        "atom_sheet": "house facts atom",
        "times_sheets": "house sheet other",
        "summed_out": "house sheet column",
    },
    "engine": {"join_sheet": "house facts join order", "engine_answers": "house facts question"},
    "views": {
        "unified": "terms others",
        "expanded": "question views",
        "with_views": "house facts views",
    },
    "store": {"Store": "house"},
}

# The methods of the classes, with their arguments.
METHODS = {
    ("formulas", "Formula"): {"__add__": "other", "__mul__": "other", "__contains__": "tag",
                              "__call__": "house worths"},
    ("store", "Store"): {
        "do": "deeds",
        "facts": "",
        "ask": "question",
        "keep": "question",
        "drop": "number",
        "kept": "number",
        "formulas": "number",
        "changes": "",
        "sources": "number row",
        "read_in": "house worths number",
        "without": "numbers number",
    },
}
PROPERTIES = {("formulas", "Formula"): "monomials", ("store", "Store"): "store_house"}


class InterfaceTest(unittest.TestCase):
    def test_names_and_arguments(self):
        for module_name, names in INTERFACE.items():
            module = importlib.import_module("anyworth." + module_name)
            for name, arguments in names.items():
                with self.subTest(module=module_name, name=name):
                    listed = getattr(module, name)
                    self.assertEqual(listed.__module__, "anyworth." + module_name)
                    self.assertEqual(listed.__name__, name)
                    self.assertEqual(list(inspect.signature(listed).parameters), arguments.split())

    def test_methods(self):
        for (module_name, class_name), methods in METHODS.items():
            listed = vars(getattr(importlib.import_module("anyworth." + module_name), class_name))
            for name, arguments in methods.items():
                with self.subTest(name=name):
                    parameters = list(inspect.signature(listed[name]).parameters)
                    self.assertEqual(parameters[1:], arguments.split())
            self.assertIsInstance(listed[PROPERTIES[module_name, class_name]], property)
        of_tag = vars(importlib.import_module("anyworth.formulas").Formula)["of_tag"]
        self.assertIsInstance(of_tag, staticmethod)
        self.assertEqual(list(inspect.signature(of_tag.__func__).parameters), ["tag"])


if __name__ == "__main__":
    unittest.main()
