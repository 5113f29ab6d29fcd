import importlib
import inspect
import unittest

import source

FUNCTIONS = {
    "ratio": {"zero": [], "one": [], "total": ["numbers"], "read_ratio": ["text"], "is_integer": ["value"]},
    "linear": {"dot": ["a", "b"], "combine": ["rows", "width", "weights"],
               "shows_independent": ["rows", "width", "duals"], "is_vector": ["value", "length"]},
    "poly": {"constant": ["r"], "variable": [], "monomial": ["r", "k"], "product": ["polys"]},
    "divisor": {"common_divisor": ["p", "q"], "cofactors": ["p", "q"], "combine_to": ["a", "b", "c"],
                "squarefree_parts": ["p"], "squarefree_part": ["p"], "separate": ["p", "q"],
                "multiplicity": ["p", "a"], "balance": ["p", "a"], "balanced": ["polys"]},
    "roots": {"resultant": ["p", "q"], "resultant_in_v": ["p", "rows"], "rational_roots": ["p"],
              "integer_roots": ["p", "least", "most"]},
    "ratfun": {"of_poly": ["p"], "of_ratio": ["q"], "the_variable": [], "added": ["items"],
               "multiplied": ["items"]},
    "operator": {"of_function": ["f"], "derivation": [], "first_order": ["u"], "annihilator": ["y"]},
    "text": {"read_function": ["text", "name"], "read_operator": ["text", "name"], "show_poly": ["p", "name"],
             "show_function": ["f", "name"], "show_operator": ["op", "name"]},
    "common": {"right_divisor": ["a", "b"], "left_multiple": ["a", "b"], "quotient": ["a", "m"], "share": ["a", "b"]},
    "closure": {"of_sum": ["a", "b"], "of_image": ["a", "m"], "of_product": ["a", "b"],
                "of_power": ["a", "k", "most"]},
    "local": {"falling": ["k"], "reach": ["polys", "p"], "least_order": ["polys", "p", "low"],
              "degree_bound": ["polys", "high"]},
    "clear": {"cleared": ["operator", "rights"]},
    "series": {"expand": ["f", "a", "count"], "solution": ["operator", "a", "initial", "count", "right"],
               "frobenius": ["operator", "a", "exponent", "count"], "agrees": ["operator", "a", "series"]},
    "spaces": {"denominator_bound": ["operator", "rights"], "equations": ["a", "g", "degree"],
               "polynomial_space": ["operator", "rights"], "rational_space": ["operator", "rights"]},
    "systems": {"system_space": ["rows", "rights"], "companion": ["operator"], "first_equation": ["rows", "rights"],
                "inverse_matrix": ["rows"]},
    "products": {"candidates": ["operator"], "power_products": ["operator"], "all_members": ["operator"],
                 "solves": ["operator", "product", "f"]},
    "papers": {"make_paper": ["operator", "rights"]},
    "checker": {"takes": ["operator", "rights", "space", "paper"]},
    "packing": {"packed": ["value"], "unpacked": ["data"], "written": ["data"], "read_data": ["text"]},
    "sheet": {"is_name": ["value"], "full_text": ["names", "text"], "read_line": ["names", "line", "name"],
              "space_text": ["space", "name"], "product_text": ["product", "name"]},
    "replies": {"reply_to": ["names", "line", "name"], "is_right": ["names", "entry", "name"]},
    "log": {"write_log": ["entries"], "read_log": ["text"], "first_wrong": ["entries", "name"]},
}

# The arguments that are given by name, with their values if they are not given.
NAMED = {
    "roots": {"integer_roots": {"least": None, "most": None}},
    "text": {"read_function": {"name": "x"}, "read_operator": {"name": "x"}, "show_poly": {"name": "x"},
             "show_function": {"name": "x"}, "show_operator": {"name": "x"}},
    "closure": {"of_power": {"most": 60}},
    "series": {"solution": {"right": None}},
    "sheet": {"read_line": {"name": "x"}, "space_text": {"name": "x"}, "product_text": {"name": "x"}},
    "replies": {"reply_to": {"name": "x"}, "is_right": {"name": "x"}},
    "log": {"first_wrong": {"name": "x"}},
}

# The arguments that may be left out, and those of the classes.
DEFAULTS = {
    "spaces": {"polynomial_space": {"rights": ()}, "rational_space": {"rights": ()},
               "Space": {"size": 1, "sides": 0}},
    "systems": {"system_space": {"rights": ()}, "first_equation": {"rights": ()}},
    "papers": {"make_paper": {"rights": ()}},
    "replies": {"Reply": {"text": "", "data": ()}},
    "console": {"Console": {"name": "x", "most": 1000}},
}

CLASSES = {
    "errors": {"Fault": "", "ZeroDivisor": "", "Malformed": "", "Refused": "__init__", "NoText": "__init__"},
    "ratio": {"Ratio": "__init__ __add__ __sub__ __mul__ __neg__ __eq__ __str__ inverse over power compare sign"
                       " floor whole is_zero"},
    "linear": {"Matrix": "__init__ __len__ __eq__ __iter__ transposed times reduced rank kernel solve shows_none"
                         " duals dependence"},
    "poly": {"Poly": "__init__ __add__ __sub__ __mul__ __neg__ __eq__ __floordiv__ __mod__ __call__ __iter__ degree"
                     " is_zero last coefficient terms scaled power monic derivative shifted turned divides"
                     " primitive"},
    "ratfun": {"RatFun": "__init__ __add__ __sub__ __mul__ __neg__ __floordiv__ __eq__ __call__ is_zero"
                         " is_polynomial as_constant derivative log_derivative inverse power order_at degree"
                         " leading shifted"},
    "operator": {"Operator": "__init__ __add__ __sub__ __neg__ __mul__ __eq__ __len__ __getitem__ __iter__ __call__"
                             " order is_zero leading monic scaled after power divide adjoint moved"},
    "local": {"Exponents": "__init__ lowest __iter__ __len__ value __contains__ eliminant integers rationals",
              "Infinity": "__init__ highest polynomial __contains__ integers rationals"},
    "series": {"Recurrence": "__init__ __eq__ __iter__ offsets rule first final image"},
    "spaces": {"Space": "__init__ __len__ __iter__ __contains__ __eq__ least_denominator top_degree solution"
                        " homogeneous"},
    "products": {"PowerProduct": "__init__ __iter__ __len__ log_derivative __mul__ surplus __eq__ __str__"
                                 " without_factors"},
    "replies": {"Reply": "__init__ __eq__"},
    "console": {"Console": "__init__ __len__ __iter__ enter names log"},
}

# The files in the order of the chapters, with the internal ones where they are used first.
ORDER = ("errors", "integers", "ratio", "linear", "poly", "divisor", "roots", "ratfun", "operator", "text",
         "vectors", "common", "closure", "clear", "zeros", "local", "series", "sparse", "spaces", "systems", "products",
         "papers", "checker", "packing", "sheet", "replies", "log", "console")


class Interface(unittest.TestCase):
    def test_functions_stand_in_their_files(self):
        for name, table in FUNCTIONS.items():
            tree = source.tree_of(f"{name}.py")
            module = importlib.import_module(f"indicial.{name}")
            for function, arguments in table.items():
                self.assertIn(function, source.defined(tree))
                self.assertEqual(list(inspect.signature(getattr(module, function)).parameters), arguments)

    def test_arguments_that_are_given_by_name(self):
        for name, table in NAMED.items():
            module = importlib.import_module(f"indicial.{name}")
            for function, arguments in table.items():
                parts = inspect.signature(getattr(module, function)).parameters.values()
                found = {part.name: part.default for part in parts if part.kind is part.KEYWORD_ONLY}
                self.assertEqual(found, arguments, (name, function))

    def test_arguments_that_may_be_left_out(self):
        for name, table in DEFAULTS.items():
            module = importlib.import_module(f"indicial.{name}")
            for function, arguments in table.items():
                parts = inspect.signature(getattr(module, function)).parameters.values()
                found = {part.name: part.default for part in parts if part.default is not part.empty}
                self.assertEqual(found, arguments, (name, function))

    def test_all_members_is_a_generator(self):
        self.assertTrue(inspect.isgeneratorfunction(importlib.import_module("indicial.products").all_members))

    def test_classes_and_their_methods_stand_in_their_files(self):
        for name, table in CLASSES.items():
            tree = source.tree_of(f"{name}.py")
            for class_name, methods in table.items():
                self.assertIn(class_name, source.defined(tree))
                for method in methods.split():
                    self.assertIn(method, source.methods(tree, class_name))

    def test_the_package_itself_defines_nothing(self):
        self.assertEqual(source.tree_of("__init__.py").body, [])

    def test_each_chapter_uses_only_those_before_it(self):
        for name, _, tree in source.modules():
            if name == "__init__":
                continue
            self.assertIn(name, ORDER)
            for module, _ in source.imports(tree):
                if module != "math":
                    self.assertTrue(module.startswith("indicial."))
                    self.assertTrue(ORDER.index(module[9:]) < ORDER.index(name), (name, module))


if __name__ == "__main__":
    unittest.main()
