"""The interface: names, arguments, and the places where they stand."""

import importlib
import inspect
import unittest

FUNCTIONS = {
    "config": {"other_side": "side"},
    "sets": {"is_set": "value", "total": "guards", "threshold": "guards", "minority": "guards"},
    "letters": {"is_transfer": "value", "is_letter": "value", "key": "letter"},
}

CLASSES = {
    "errors": {"BridgeError": {"word": "self"}},
    "config": {"Config": {
        "__init__": "self * tokens balances guards depth=2 window=4 delay=2 bundle=4",
        "token_names": "self", "home": "self token", "scale": "self token", "limit": "self token",
        "large": "self token", "opening": "self side", "guards": "self", "depth": "self", "window": "self",
        "delay": "self", "bundle": "self",
    }},
    "notary": {"Notary": {
        "__init__": "self", "seal": "self guard letter", "count": "self", "shown": "self number",
        "weight": "self guards letter seals",
    }},
}


def described(function):
    """The parameters of a function as one text: names, `*` before the first that is passed by name, defaults."""
    words = []
    for parameter in inspect.signature(function).parameters.values():
        if parameter.kind == parameter.KEYWORD_ONLY and "*" not in words:
            words.append("*")
        default = "" if parameter.default is parameter.empty else f"={parameter.default!r}"
        words.append(parameter.name + default)
    return " ".join(words)


class InterfaceTest(unittest.TestCase):

    def test_functions(self):
        for module, wanted in FUNCTIONS.items():
            found = importlib.import_module("vaultbridge." + module)
            for name, parameters in wanted.items():
                function = getattr(found, name)
                self.assertEqual(described(function), parameters, name)
                self.assertEqual(function.__module__, "vaultbridge." + module, name)

    def test_methods_stand_in_the_class_itself(self):
        for module, classes in CLASSES.items():
            found = importlib.import_module("vaultbridge." + module)
            for name, methods in classes.items():
                made = getattr(found, name)
                self.assertEqual(made.__module__, "vaultbridge." + module, name)
                for method, parameters in methods.items():
                    self.assertIn(method, vars(made), name)
                    self.assertEqual(described(vars(made)[method]), parameters, f"{name}.{method}")


if __name__ == "__main__":
    unittest.main()
