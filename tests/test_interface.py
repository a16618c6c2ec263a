"""The interface of the document: names, the files that define them, parameters."""

import importlib
import inspect
import unittest

FUNCTIONS = {
    "basics": {"is_integer": "value", "is_count": "value"},
    "ratios": {"is_number": "value"},
    "tables": {"joined": "table other", "turned": "table", "piece": "table low high", "with_row": "table position row",
               "without_row": "table position", "exchanged": "table position"},
    "programs": {"results": "program table", "all_results": "program table", "total": "program table",
                 "mirrored": "program", "put_into": "program columns others"},
    "words": {"is_letter": "columns value", "is_word": "columns value", "multiplied": "columns letter other",
              "letter_worth": "columns letter row", "word_sum": "table word", "sums_ahead": "table word",
              "sums_behind": "table word", "cuts": "columns word", "turned_word": "columns word"},
    "lacings": {"how_many": "many other", "lacings": "columns word other"},
    "tallies": {"tally_worth": "tally table", "tally_plus": "tally other", "tally_product": "tally other",
                "tally_times": "tally number", "tally_turned": "tally"},
    "forms": {"form_worths": "form table", "form_plus": "form other", "form_product": "form other",
              "form_times": "form number", "form_turned": "form", "ahead_of": "form", "behind_of": "form",
              "form_total": "form"},
    "making": {"form_of": "program", "first_alike": "program", "program_of": "form",
               "form_put_into": "form columns others"},
    "telling": {"asked": "columns letters power", "told_back": "columns letters power answers",
                "fits": "form letters power"},
    "alikes": {"parting_rows": "form other", "least_unlike": "form other", "parting": "form other",
               "is_parting": "form other value"},
    "hangs": {"stays": "form side", "moving": "form side", "is_moving": "form side value",
              "hangs_on": "form where column", "change": "form where column", "is_change": "form where column value"},
    "orders": {"is_order_free": "tally", "exchange": "tally", "is_exchange": "tally value", "mean_of_orders": "tally",
               "is_free_at": "form", "exchange_at": "form", "is_exchange_at": "form value"},
    "totals": {"in_totals": "tally", "polynomial_worth": "table polynomial"},
    "lyndons": {"is_lyndon": "columns word", "falling": "columns word", "in_lyndons": "tally",
                "is_told_by": "tally words"},
    "readers": {"read": "reader table", "are_alike": "reader other", "reader_parting": "reader other",
                "is_reader_parting": "reader other value"},
    "fewest": {"reader_of": "form", "fewest_cells": "form", "tells": "reader form", "lessened": "reader",
               "cells_paper": "form", "is_cells_paper": "form value"},
    "sides": {"side_numbers": "form", "meeting": "form", "is_meeting": "form value"},
    "pieces": {"kept_tallies": "tally", "joining": "tally", "whole_numbers": "tally", "kept_numbers": "tally table",
               "joined_numbers": "tally numbers others", "piece_paper": "tally", "is_piece_paper": "tally value"},
    "runs": {"run_worth": "tally runs", "run_result": "form runs position", "laid_out": "runs",
             "first_unlike": "form other row", "put_changes": "form table position row"},
    "texts": {"word_text": "columns word", "table_text": "table", "program_text": "program", "tally_text": "tally",
              "form_text": "form", "runs_text": "runs"},
    "parses": {"read_word": "columns text", "read_table": "text", "read_program": "text", "read_tally": "text",
               "read_form": "text", "read_runs": "text"},
    "claims": {"claim_words": "", "is_claim": "value", "is_true": "claim", "contrary": "claim", "paper_of": "claim",
               "is_paper_of": "claim value"},
    "commands": {"is_name": "value", "is_command": "value", "is_deed": "value"},
    "desk": {"tried": "desk action"},
}

CLASSES = {
    "ratios": {"Ratio": ("top bottom", {"over": "other", "size": "", "is_below": "other", "is_at_most": "other",
                                        "total": "numbers"}, "top bottom sign is_whole",
                         "__add__ __radd__ __sub__ __rsub__ __mul__ __rmul__ __neg__ __eq__ __str__ __repr__")},
    "tables": {"Table": ("columns rows", {"rows": ""}, "columns height", "__eq__")},
    "programs": {"Program": ("columns steps", {"steps": ""}, "columns", "__eq__")},
    "tallies": {"Tally": ("columns parts", {"parts": ""}, "columns length", "__eq__")},
    "forms": {"Form": ("columns parts", {"parts": ""}, "columns length", "__eq__")},
    "readers": {"Reader": ("columns start steps last", {"start": "", "steps": "", "last": ""}, "columns cells",
                           "__eq__")},
    "runs": {"Runs": ("columns lots", {"lots": "", "many": ""}, "columns", "__eq__")},
    "desk": {"Desk": ("", {"claim_of": "label", "do": "command", "do_all": "commands", "attempt": "commands",
                           "attach": "label paper", "fits": "label", "lines": "", "copy": "", "again": "lines"},
                      "names labels", "__len__ __getitem__ __contains__ __call__"),
             "Trial": ("desk", {}, "", "__enter__ __exit__")},
}


def file_of(name):
    """The file of the package with this name."""
    return importlib.import_module(f"aheadsums.{name}")


def parameters(function):
    """The names of the parameters, with blanks between, without an object's own one."""
    return " ".join([name for name in inspect.signature(function).parameters if name != "self"])


class InterfaceTest(unittest.TestCase):
    def test_functions(self):
        for name, functions in FUNCTIONS.items():
            for function, told in functions.items():
                found = getattr(file_of(name), function)
                self.assertTrue(inspect.isfunction(found))
                self.assertEqual(found.__module__, f"aheadsums.{name}")
                self.assertEqual(parameters(found), told)

    def test_classes(self):
        for name, classes in CLASSES.items():
            for made, (told, methods, properties, operators) in classes.items():
                found = getattr(file_of(name), made)
                self.assertTrue(inspect.isclass(found))
                self.assertEqual(found.__module__, f"aheadsums.{name}")
                self.assertEqual(parameters(found), told)
                for method, names in methods.items():
                    self.assertIn(method, vars(found))
                    self.assertEqual(parameters(getattr(found, method)), names)
                for one in (properties + " " + operators).split():
                    self.assertIn(one, vars(found))

    def test_defaults(self):
        made = inspect.signature(file_of("ratios").Ratio).parameters
        self.assertEqual([made["top"].default, made["bottom"].default], [inspect.Parameter.empty, 1])

    def test_class_methods(self):
        self.assertIsInstance(vars(file_of("ratios").Ratio)["total"], classmethod)
        self.assertIsInstance(vars(file_of("desk").Desk)["again"], classmethod)

    def test_properties(self):
        for name, classes in CLASSES.items():
            for made, (told, methods, properties, operators) in classes.items():
                for one in properties.split():
                    self.assertIsInstance(vars(getattr(file_of(name), made))[one], property)


if __name__ == "__main__":
    unittest.main()
