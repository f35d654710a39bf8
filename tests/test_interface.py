"""[2], [20]: the names of the interface, each defined in its file, with its arguments."""

import ast
import importlib
import inspect
import unittest

FILES = {
    "errors": {},
    "lines": {
        "is_line": "thing", "value": "line n", "remainder": "line n", "values": "line stretch", "normal": "line",
        "same_everywhere": "one other", "moved": "line number", "raised": "line number", "leaned": "line number",
        "mirrored": "line", "turned": "line", "strided": "line number", "divided": "line number add=0",
        "rounded_up": "a b d", "nearest": "a b d", "growth": "line",
    },
    "corners": {
        "upper_corners": "line stretch", "lower_corners": "line stretch", "next_upper": "line stretch n",
        "next_lower": "line stretch n", "greatest_of": "line stretch u v", "least_of": "line stretch u v",
        "steepest_from": "line stretch n", "flattest_from": "line stretch n", "on_upper": "line stretch n",
        "on_lower": "line stretch n", "how_many_on_upper": "line stretch", "how_many_on_lower": "line stretch",
        "twice_area": "line stretch",
    },
    "compare": {
        "at_most": "one other stretch", "same_on": "one other stretch", "greatest_lead": "one other stretch",
        "least_lead": "one other stretch", "where_greatest": "one other stretch", "where_least": "one other stretch",
        "first_above": "one other stretch", "last_above": "one other stretch", "first_unlike": "one other stretch",
        "last_unlike": "one other stretch", "leads_everywhere": "one other", "at_most_everywhere": "one other",
    },
    "formulas": {
        "slopes": "line stretch", "bars": "line stretch", "is_bars": "line stretch thing",
        "least_line": "line stretch", "how_many_lines": "line stretch d", "nth_line": "line stretch d number",
        "number_of_line": "line stretch other", "additions": "line stretch a d", "looks": "line stretch",
    },
    "shifts": {
        "multipliers": "line stretch shift", "adds": "line stretch shift m", "least_shift": "line stretch",
        "shift_line": "line stretch", "bare_multipliers": "line stretch shift", "least_bare_shift": "line stretch",
        "word_for": "line stretch shift", "by_rounding_up": "line shift", "by_one_more": "line shift",
        "reach": "line other", "least_rounding_shift": "line stretch",
    },
    "sums": {
        "sum_of": "line stretch", "sum_of_squares": "line stretch", "sum_with_n": "line stretch",
        "how_many_with": "line stretch low high", "nth_with": "line stretch low high number",
        "how_many_same": "line other stretch", "how_many_above": "line other stretch",
        "nth_same": "line other stretch number", "nth_above": "line other stretch number",
        "lead_sum": "line other stretch", "values_met": "line stretch", "least_sum_to": "line stretch goal",
    },
    "pieces": {
        "serves_to": "line other stretch", "serves_from": "line other stretch",
        "serves_around": "line other stretch n", "runs": "line other stretch many",
        "pieces": "line others stretch many", "is_cut": "line others stretch thing",
        "stuck_at": "line others stretch many", "furthest": "line others stretch",
    },
    "told": {
        "is_told": "thing", "is_line_for": "told thing", "line_for": "told", "can_fit": "told",
        "add_span": "told a d", "how_many_having": "told d", "lines_with": "told d", "between": "one other n",
        "three_that_bar": "told", "is_barring": "told thing", "least_left_out": "told",
    },
    "opened": {
        "slope_range": "told", "value_range": "told n", "can_be": "told n number", "line_with": "told n number",
        "sure_value": "told n", "all_sure": "told stretch", "first_open": "told stretch", "last_open": "told stretch",
        "sure_in": "told stretch", "best_look": "told stretch",
    },
    "remain": {
        "least_remainder": "line stretch", "greatest_remainder": "line stretch",
        "first_below": "line stretch number", "last_below": "line stretch number",
        "first_from": "line stretch number", "last_from": "line stretch number", "is_test": "thing",
        "passes": "test n", "how_many_pass": "test stretch", "tells": "test divisor last",
        "first_mistake": "test divisor last", "limits_for": "factor size divisor last",
        "usual_test": "divisor width", "least_width": "divisor last",
    },
    "back": {
        "least_at": "line y", "greatest_at": "line y", "inverse_least": "line", "inverse_greatest": "line",
        "how_many_at": "line y", "is_one_to_one": "line stretch", "is_onto": "line stretch",
        "there_and_back": "one other n", "is_lossless": "one other stretch", "first_lost": "one other stretch",
        "least_slip": "one other stretch", "greatest_slip": "one other stretch", "least_back": "one stretch",
    },
    "rows": {
        "is_row": "thing", "is_straight": "row", "line_of": "row", "is_line_of": "row thing", "slopes_of": "row",
        "clash_in": "row", "is_clash_in": "row thing", "straight_to": "row place", "fewest_parts": "row",
        "longest_parts": "row", "next_values": "row", "how_many_on": "row number",
    },
    "words": {
        "is_formula": "thing", "formula_value": "text n", "slope_of": "text", "period_of": "text",
        "line_words": "line", "formula_line": "text", "bend_of": "text", "is_bend": "text thing",
        "same_formulas": "one other", "first_apart": "one other",
    },
    "board": {},
    "texts": {
        "line_text": "line", "stretch_text": "stretch", "told_text": "told", "row_text": "row",
        "fraction_text": "fraction", "line_read": "text", "stretch_read": "text", "told_read": "text",
        "row_read": "text", "fraction_read": "text",
    },
    "desk": {"is_request": "thing", "replies": "text"},
}
CLASSES = {
    "board": ("Board",),
    "errors": ("NoNumber", "NothingDone", "NoLine", "NotStraight", "TooFew", "BadText", "BadLine"),
}
METHODS = {
    "Board": {
        "told": "self", "line": "self", "guess": "self n", "can_be": "self n", "tell": "self n number",
        "forget": "self n", "undo": "self", "deeds": "self", "twin": "self", "__len__": "self",
        "__contains__": "self n", "__eq__": "self other", "__init__": "self",
    },
}


class Interface(unittest.TestCase):
    def test_functions_and_their_arguments(self):
        for name, functions in FILES.items():
            module = importlib.import_module("floorcorners." + name)
            for function, words in functions.items():
                parameters = inspect.signature(getattr(module, function)).parameters.values()
                self.assertEqual([str(parameter) for parameter in parameters], words.split(), function)

    def test_methods_stand_in_their_class(self):
        module = importlib.import_module("floorcorners.board")
        for name, methods in METHODS.items():
            for method, words in methods.items():
                self.assertIn(method, vars(getattr(module, name)))
                parameters = inspect.signature(vars(getattr(module, name))[method]).parameters.values()
                self.assertEqual([str(parameter) for parameter in parameters], words.split(), method)

    def test_all_are_defined_in_their_files(self):
        for name, functions in FILES.items():
            module = importlib.import_module("floorcorners." + name)
            with open(module.__file__, encoding="utf-8") as file:
                body = ast.parse(file.read()).body
            defined = [part.name for part in body if isinstance(part, (ast.FunctionDef, ast.ClassDef))]
            for wanted in [*functions, *CLASSES.get(name, ())]:
                self.assertEqual(defined.count(wanted), 1, wanted)
