"""The names of the interface stand where the interface lists them."""

import ast
import importlib
import pathlib
import unittest

PACKAGE = pathlib.Path(__file__).resolve().parent.parent / "translatory"

FUNCTIONS = {
    "running": {"after": ["machine", "configuration", "count"],
                "history": ["machine", "configuration", "count"],
                "length": ["machine", "configuration", "limit"],
                "last": ["machine", "configuration", "limit"]},
    "turing": {"start": ["word"], "content": ["configuration"],
               "number_of": ["symbols", "base"], "symbols_of": ["number", "base"]},
    "registers": {"adding": []},
    "fractions": {"primes": ["count"], "exponent": ["prime", "number"]},
    "combinators": {"size": ["term"], "show_term": ["term"], "parse_term": ["text"],
                    "abstraction": ["variable", "term"],
                    "put": ["variable", "argument", "term"], "variables": ["term"]},
    "following": {"total_cost": ["translation", "configuration", "count"],
                  "stands_at": ["translation", "configuration", "count"],
                  "answer_through": ["translation", "configuration", "limit"],
                  "is_same_run": ["translation", "configuration", "count"]},
    "fractionrun": {"own_primes": ["machine"]},
    "unary": {"unary": ["number"], "unary_value": ["term", "limit"], "sum_term": [], "product_term": []},
    "universal": {"universal": []},
    "recursive": {"is_function": ["thing"], "arity": ["function"], "value": ["function", "arguments"],
                  "applications": ["function", "arguments"], "named": ["word"]},
    "papers": {"is_paper": ["machine", "configuration", "paper"],
               "find_paper": ["machine", "configuration", "limit"],
               "judge": ["machine", "configuration", "limit"],
               "carried": ["translation", "configuration", "paper"]},
    "machinetext": {"format_machine": ["machine"], "parse_machine": ["text"]},
    "configtext": {"format_configuration": ["machine", "configuration"],
                   "parse_configuration": ["machine", "text"]},
    "sessions": {"hold": ["text"]},
    "census": {"machine_count": ["states"], "machine_at": ["states", "index"], "index_of": ["machine"],
               "census": ["states", "first", "last", "limit"]},
}

CLASSES = {
    "errors": {"TranslatoryError": {}, "InvalidMachine": {}, "NotFitting": {},
               "InvalidFunction": {}, "BadArgument": {},
               "InvalidText": {"__init__": ["line"]},
               "TooLong": {"__init__": ["limit"]}, "TooLarge": {"__init__": ["limit"]}},
    "turing": {"Turing": {"__init__": ["states", "symbols", "rules"], "step": ["configuration"],
                          "rule": ["state", "symbol"], "is_configuration": ["configuration"]}},
    "registers": {"Registers": {"__init__": ["count", "instructions"], "step": ["configuration"],
                                "is_configuration": ["configuration"]}},
    "fractions": {"Fractions": {"__init__": ["pairs"], "step": ["configuration"]}},
    "tags": {"Tags": {"__init__": ["productions"], "step": ["configuration"]}},
    "strings": {"Strings": {"__init__": ["rules"], "step": ["configuration"]}},
    "combinators": {"Combinators": {"__init__": ["letters"], "step": ["term"]}},
    "chains": {"Chain": {"__init__": ["translations"], "picture": ["configuration"],
                         "read_back": ["configuration"], "cost": ["configuration"],
                         "last_steps": ["configuration"]}},
    "compiling": {"Compiled": {"__init__": ["function"], "begin": ["arguments"],
                               "answer": ["configuration"]}},
}

TRANSLATIONS = {
    "tapenumbers": ["TuringToRegisters"],
    "twocounters": ["RegistersToCounters"],
    "countertapes": ["CountersToTuring"],
    "fractionrun": ["RegistersToFractions", "FractionsToRegisters"],
    "binarytapes": ["TuringToBinary"],
    "tagtapes": ["TuringToTags", "TagsToTuring"],
    "stringtapes": ["TuringToStrings"],
    "withouti": ["WithoutI"],
    "universal": ["ToUniversal"],
}


def definitions(nodes, kind):
    """The definitions among some nodes, by their names."""
    return {node.name: node for node in nodes if isinstance(node, kind)}


def parameters(function):
    """The names of the plain parameters of a function."""
    return [argument.arg for argument in function.args.args]


class InterfaceTest(unittest.TestCase):
    def body(self, module):
        return ast.parse((PACKAGE / f"{module}.py").read_text()).body

    def test_functions(self):
        for module, functions in FUNCTIONS.items():
            found = definitions(self.body(module), ast.FunctionDef)
            for name, names in functions.items():
                self.assertEqual(parameters(found[name]), names, name)

    def test_classes_and_their_own_methods(self):
        for module, classes in CLASSES.items():
            found = definitions(self.body(module), ast.ClassDef)
            for name, methods in classes.items():
                own = definitions(found[name].body, ast.FunctionDef)
                for method, names in methods.items():
                    self.assertEqual(parameters(own[method]), ["self", *names], (name, method))

    def test_translations(self):
        for module, names in TRANSLATIONS.items():
            found = definitions(self.body(module), ast.ClassDef)
            for name in names:
                own = definitions(found[name].body, ast.FunctionDef)
                self.assertEqual(parameters(own["__init__"]), ["self", "machine"], name)
                for method in ("picture", "read_back", "cost", "last_steps"):
                    self.assertEqual(parameters(own[method]), ["self", "configuration"], (name, method))

    def test_all_names_can_be_imported(self):
        for table in (FUNCTIONS, CLASSES, TRANSLATIONS):
            for module, names in table.items():
                imported = importlib.import_module(f"translatory.{module}")
                for name in names:
                    self.assertEqual(getattr(imported, name).__module__, imported.__name__, name)

    def test_limits_that_are_told_by_name(self):
        chain = definitions(self.body("chains"), ast.ClassDef)["Chain"]
        recursive = definitions(self.body("recursive"), ast.FunctionDef)
        for function in (definitions(chain.body, ast.FunctionDef)["__init__"], recursive["value"],
                         recursive["applications"]):
            arguments = function.args
            self.assertEqual([argument.arg for argument in arguments.kwonlyargs], ["limit"])
            self.assertEqual(arguments.kw_defaults[0].value, 100000)
