"""The interface: its names and arguments, each defined in the file under which it is listed (L5, L16)."""

import ast
import importlib
import inspect
import unittest
from pathlib import Path

PACKAGE = Path(__file__).resolve().parent.parent / "notetrail"

FUNCTIONS = {
    "evidence": "is_evidence(thing) last_number(evidence) with_find(evidence, party, kind, amount) "
                "cut(evidence, number) without(evidence, number) all_numbers(evidence)",
    "files": "standing(file, kind, number) standing_in_the_end(file, kind) is_copy(entry) other_copy(party, entry) "
             "has_entry(file, entry) entry_at(file, number) lacking(evidence, party)",
    "conflicts": "conflicts(evidence) answers(coalition, rows) unanswered(coalition, rows)",
    "histories": "stocks(kinds, parties, coalition, history) honest_files(parties, history) "
                 "accepts(evidence, coalition, history)",
    "pools": "open_events(evidence, coalition) pool_rows(evidence, coalition) pool_in_the_end(evidence, coalition) "
             "lack(evidence, coalition)",
    "telling": "explains(evidence, coalition) history_by(evidence, coalition)",
    "coalitions": "in_question(evidence, limit) coalitions(evidence, limit) verdicts(evidence, limit)",
    "papers": "barred(evidence, coalition) is_barred(evidence, coalition, paper)",
    "verdictproofs": "proof(evidence, limit, party) is_proof(evidence, limit, party, told) proof_size(told)",
    "prices": "cheapest(evidence, prices) price_rows(evidence, prices)",
    "gone": "gone(evidence, coalition)",
    "expected": "expected(evidence, limit, party, kind) is_expected(told, amount)",
    "inspections": "findings(evidence, limit, party, kind) best_inspection(evidence, limit)",
    "inquiry": "barring_finds(evidence, limit, coalition, party, kind) tests(evidence, limit, coalition) "
               "inquire(evidence, limit, stocks)",
    "turns": "turns(evidence, limit) decisive(evidence, limit, party)",
    "lies": "lies(evidence, coalition, history) liars(evidence, coalition, history) "
            "lie_count(evidence, coalition, history) secret_deeds(history)",
    "texts": "read_evidence(text) write_evidence(evidence)",
    "historytexts": "read_history(text) write_history(history)",
    "flows": "flows(evidence, kind, deed) differences(evidence, kind) balance(evidence, kind) "
             "partners(evidence, party) reachable(evidence, party, kind)",
    "merging": "merged(one, other) moved(evidence, step) only_in_one(one, other)",
    "desk": "desk_of(kinds, parties, deeds)",
    "report": "report(evidence, limit)",
}

METHODS = {
    ("errors", "Refused"): "__init__(what)",
    ("errors", "BadText"): "__init__(line, what)",
    ("trail", "Trail"): "__init__(kinds, parties) make(party, kind, amount) treat(party, kind, amount) "
                        "hand(giver, taker, kind, amount, sealed) inspect(party, kind) "
                        "pass_on(giver, taker, kind, amount) dump(party, kind, amount) conjure(party, kind, amount) "
                        "omit(party, number) sign(giver, taker, kind, amount, sealed) "
                        "write(party, deed, kind, amount, other) numbers() stock(party, kind) dishonest() evidence() "
                        "history()",
    ("desk", "Desk"): "__init__(kinds, parties) enter(party, entry) found(find) strike(party, number) "
                      "set_limit(limit) undo() deeds() limit() evidence() conflicts() coalitions() verdicts() "
                      "changes()",
}


def listed(text):
    """The pairs of a name and its arguments."""
    for part in text.replace(") ", ")\n").split("\n"):
        name, arguments = part.rstrip(")").split("(")
        yield name, [argument for argument in arguments.split(", ") if argument]


def definitions(module):
    """The functions and classes that a file defines at its top."""
    tree = ast.parse((PACKAGE / f"{module}.py").read_text(encoding="utf-8"))
    return {node.name: node for node in tree.body if isinstance(node, (ast.FunctionDef, ast.ClassDef))}


class Interface(unittest.TestCase):
    def test_functions(self):
        for module, text in FUNCTIONS.items():
            defined = definitions(module)
            for name, arguments in listed(text):
                with self.subTest(module=module, name=name):
                    self.assertIsInstance(defined.get(name), ast.FunctionDef)
                    function = getattr(importlib.import_module(f"notetrail.{module}"), name)
                    self.assertEqual(list(inspect.signature(function).parameters), arguments)

    def test_methods(self):
        for (module, name), text in METHODS.items():
            node = definitions(module)[name]
            self.assertIsInstance(node, ast.ClassDef)
            methods = {method.name: method for method in node.body if isinstance(method, ast.FunctionDef)}
            for method, arguments in listed(text):
                with self.subTest(name=name, method=method):
                    self.assertIn(method, methods)
                    self.assertEqual([argument.arg for argument in methods[method].args.args], ["self", *arguments])

    def test_errors(self):
        defined = definitions("errors")
        for name in ("TrailError", "Refused", "BadText"):
            self.assertIsInstance(defined.get(name), ast.ClassDef)


if __name__ == "__main__":
    unittest.main()
