"""The interface: names, arguments, and the places where they stand."""

import importlib
import inspect
import unittest

FUNCTIONS = {
    "config": {"other_side": "side"},
    "sets": {"is_set": "value", "total": "guards", "threshold": "guards", "minority": "guards"},
    "letters": {"is_transfer": "value", "is_letter": "value", "key": "letter"},
    "state": {"opening_state": "config side"},
    "gateway": {"outcome": "config notary state order", "next_height": "state"},
    "guard": {
        "duties": "west east", "work": "west east journal", "approve": "journal number guards",
        "bundle_work": "config west east journal", "cancel": "west east side number",
    },
    "relay": {"ready_orders": "config notary state relayer seals"},
    "audit": {"shortfalls": "config west east", "open_transfers": "west east"},
    "history": {"history": "chain number account", "supplies": "chain number token"},
    "notation": {"write": "value", "read": "text", "read_letter": "text"},
    "tree": {
        "root": "digests leaves", "leaf_paper": "digests leaves index",
        "check_leaf": "digests root size index leaf paper", "growth_paper": "digests leaves size",
        "check_growth": "digests old_root old_size new_root new_size paper",
    },
    "evidence": {"event_leaves": "digests chain number", "evidence": "digests chain number index"},
    "shares": {"shares": "bonds seats", "next_set": "state token seats"},
    "statement": {
        "statement": "config west east", "write_statement": "rows", "read_statement": "config text",
    },
    "headers": {"header": "digests chain number"},
    "market": {"choose": "tips room", "next_price": "price used room"},
    "judge": {"judge": "config notary side claims"},
    "plan": {"plan": "limit window units"},
}

CLASSES = {
    "errors": {"BridgeError": {"word": "self"}},
    "config": {"Config": {
        "__init__": "self * tokens balances guards depth=2 window=4 delay=2 bundle=4",
        "token_names": "self", "home": "self token", "scale": "self token", "limit": "self token",
        "large": "self token", "opening": "self side", "guards": "self", "depth": "self", "window": "self",
        "delay": "self", "bundle": "self",
    }},
    "notary": {"Notary": {
        "__init__": "self", "seal": "self guard letter", "count": "self", "shown": "self number",
        "weight": "self guards letter seals",
    }},
    "chain": {"Chain": {
        "__init__": "self side config notary", "add": "self number parent orders", "numbers": "self",
        "parent": "self number", "height": "self number", "orders": "self number", "line": "self number",
        "final": "self", "tips": "self", "best": "self", "state": "self number", "receipts": "self number",
        "events": "self number",
    }},
    "view": {"View": {
        "__init__": "self chain", "show": "self number", "seen": "self", "final": "self", "final_events": "self",
    }},
    "sheet": {"Sheet": {
        "__init__": "self config side", "copy": "self", "balance": "self account token", "vault": "self token",
        "move": "self sender receiver token amount", "lock": "self account token units",
        "release": "self account token units", "mint": "self account token units", "burn": "self account token units",
        "bonded": "self guard token", "bond": "self guard token amount", "unbond": "self guard token amount",
        "circulating": "self token",
    }},
    "state": {"State": {
        "side": "self", "height": "self", "epoch": "self", "is_stopped": "self", "stops": "self",
        "balance": "self account token", "bonded": "self guard token", "vault": "self token",
        "circulating": "self token", "guards": "self epoch", "transfers": "self", "taken": "self number",
        "bonded_guards": "self token", "waiting": "self", "is_returned": "self number",
    }},
    "machine": {"Machine": {
        "__init__": "self name notary", "journal": "self", "carry_out": "self steps count", "crash": "self lost",
    }},
    "world": {"World": {
        "__init__": "self config liars", "chain": "self side", "notary": "self", "guards": "self",
        "machine": "self guard", "view": "self guard side", "wait": "self side order", "waiting": "self side",
        "mine": "self side parent chosen", "approve": "self guard number guards", "lie": "self guard letter",
        "restart": "self guard lost", "calm_round": "self",
    }},
    "bag": {"Bag": {
        "__init__": "self", "post": "self item", "items_under_way": "self", "hand_over": "self index",
        "lose": "self index", "double": "self index",
    }},
    "relayer": {"Relayer": {
        "__init__": "self name config notary", "receive": "self seal", "seals": "self", "flush": "self",
        "crash": "self lost", "orders": "self state",
    }},
    "node": {"Node": {
        "__init__": "self side config notary", "chain": "self", "log": "self", "take_in": "self number parent orders",
        "flush": "self", "crash": "self lost", "copy_from": "self other",
    }},
    "digests": {"Digests": {"__init__": "self", "number": "self value", "value": "self number", "count": "self"}},
    "storm": {"Storm": {
        "__init__": "self config world names", "spread": "self", "blow": "self n", "bag": "self index",
        "relayer": "self index", "submit": "self index side",
    }},
    "headers": {"Headers": {
        "__init__": "self config digests first", "take": "self header", "final": "self", "marks": "self",
        "accepts": "self mark index event paper",
    }},
    "pool": {"Pool": {
        "__init__": "self", "assets": "self", "shares": "self", "shares_of": "self account",
        "deposit": "self account amount", "redeem": "self account count", "earn": "self amount",
    }},
    "escrow": {
        "Locks": {"__init__": "self", "lock": "self secret", "opens": "self number secret"},
        "Escrow": {
            "__init__": "self locks", "keep": "self owner receiver amount lock height",
            "show": "self number secret height", "give_back": "self number height", "kept": "self",
        },
    },
}


def described(function):
    """The parameters of a function as one text: names, `*` before the first that is passed by name, defaults."""
    words = []
    for parameter in inspect.signature(function).parameters.values():
        if parameter.kind == parameter.KEYWORD_ONLY and "*" not in words:
            words.append("*")
        default = "" if parameter.default is parameter.empty else f"={parameter.default!r}"
        words.append(parameter.name + default)
    return " ".join(words)


class InterfaceTest(unittest.TestCase):

    def test_functions(self):
        for module, wanted in FUNCTIONS.items():
            found = importlib.import_module("vaultbridge." + module)
            for name, parameters in wanted.items():
                function = getattr(found, name)
                self.assertEqual(described(function), parameters, name)
                self.assertEqual(function.__module__, "vaultbridge." + module, name)

    def test_methods_stand_in_the_class_itself(self):
        for module, classes in CLASSES.items():
            found = importlib.import_module("vaultbridge." + module)
            for name, methods in classes.items():
                made = getattr(found, name)
                self.assertEqual(made.__module__, "vaultbridge." + module, name)
                for method, parameters in methods.items():
                    self.assertIn(method, vars(made), name)
                    self.assertEqual(described(vars(made)[method]), parameters, f"{name}.{method}")


if __name__ == "__main__":
    unittest.main()
