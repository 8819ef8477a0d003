"""The names and arguments of the interface, and where they are defined."""

import importlib
import inspect
import unittest

INTERFACE = {
    "houses": {
        "is_house": "house",
        "kinds_of": "house",
        "zero": "house",
        "one": "house",
        "is_worth": "house worth",
        "plus": "house one_worth other",
        "times": "house one_worth other",
        "sum_of": "house worths",
        "product_of": "house worths",
        "multiple": "house worth n",
        "power": "house worth n",
    },
    "tabled": {"fault_of": "house"},
    "formulas": {
        "is_formula": "formula",
        "tag_formula": "tag",
        "plus_formulas": "formula other",
        "times_formulas": "formula other",
        "tags_of": "formula",
        "read_formula": "house formula worths",
        "without_tags": "formula tags",
        "Formula": "formula",
    },
    "reducing": {"reduced": "kind formula", "parting": "kind formula other"},
    "values": {"is_word": "text", "is_row": "row", "compare_values": "left right", "sorted_rows": "rows"},
    "questions": {
        "check_question": "question",
        "variables_of": "join",
        "renamed": "join names",
        "put_terms": "join terms",
    },
    "writing": {"write_question": "question"},
    "reading": {"read_question": "text"},
    "plainly": {
        "store_worth": "house facts name row",
        "plain_worth": "house facts question row",
        "plain_answers": "house facts question",
    },
    "matching": {
        "matchings": "join other",
        "is_matching": "join other mapping",
        "image": "join mapping",
        "fits": "kind join other mapping",
        "covers": "join images",
    },
    "comparing": {
        "judge": "kind question other paper",
        "judge_within": "kind question other paper",
        "compare": "kind question other",
        "within": "kind question other",
        "parts": "case question other",
        "parts_from": "case question other",
    },
    "leaning": {"least_question": "kind question"},
}


class InterfaceTest(unittest.TestCase):
    def test_names_and_arguments(self):
        for module_name, names in INTERFACE.items():
            module = importlib.import_module("anyworth." + module_name)
            for name, arguments in names.items():
                with self.subTest(module=module_name, name=name):
                    listed = getattr(module, name)
                    self.assertEqual(listed.__module__, "anyworth." + module_name)
                    self.assertEqual(listed.__name__, name)
                    self.assertEqual(list(inspect.signature(listed).parameters), arguments.split())


if __name__ == "__main__":
    unittest.main()
