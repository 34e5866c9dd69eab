"""The names of the interface: where they are defined, and what arguments they take."""

import importlib
import inspect
import unittest

FUNCTIONS = {
    "processes": ("is_event(word)", "is_name(word)", "height(process)", "references(process)"),
    "texts": ("show_process(process)", "parse_process(text)", "format_script(script)", "parse_script(text)"),
    "steps": ("steps(script, process)", "can_do(script, process)"),
    "systems": ("is_action(word)", "reached(system)"),
    "exploring": ("explore(script, process, *, limit=2000)",),
    "combining": (
        "side_by_side(first, second, events, *, limit=20000)",
        "hidden(system, events)",
        "renamed(system, pairs)",
    ),
    "systemtext": ("format_system(system)", "parse_system(text)"),
    "behaviours": (
        "closure(system, states)",
        "after(system, states, action)",
        "states_after(system, trace)",
        "is_trace(system, trace)",
        "stable_offers(system, trace)",
        "diverges(system, state)",
        "diverging(system)",
        "is_divergence(system, trace)",
        "traces_up_to(system, length, *, limit=10000)",
        "is_behaviour(system, behaviour)",
    ),
    "refining": (
        "allows(system, behaviour, model)",
        "refines(first, second, model, *, limit=20000)",
        "order_key(behaviour)",
    ),
    "certifying": (
        "is_certificate(first, second, model, certificate)",
        "is_difference(first, second, model, behaviour)",
    ),
    "normalising": (
        "normal_form(system, model, *, limit=2000)",
        "picture(form, model)",
        "are_equal(first, second, model, *, limit=2000)",
    ),
    "formulas": ("depth(formula)", "formula_height(formula)", "show_formula(formula)", "parse_formula(text)"),
    "holding": (
        "soft_targets(system, state, action)",
        "states_with(system, formula)",
        "holds(system, state, formula)",
        "satisfies(system, formula)",
    ),
    "sheets": (
        "is_sheet(rows)",
        "sheet_of(formula)",
        "unfolded(sheet, *, limit=10000)",
        "sheet_depth(sheet)",
        "rows_with(system, sheet)",
        "sheet_satisfies(system, sheet)",
    ),
    "classes": (
        "classes_after(system, step)",
        "classes(system)",
        "last_round(system)",
        "are_equivalent(system, first, second)",
        "small(system)",
    ),
    "equivalence": (
        "joined(first, second)",
        "compare_strongly(first, second, *, limit=200000)",
        "is_strong_relation(first, second, relation)",
    ),
    "softness": ("soft_classes_after(system, step)", "soft_classes(system)", "slim(system)"),
    "weakness": (
        "compare_weakly(first, second, *, limit=200000)",
        "is_weak_relation(first, second, relation)",
    ),
    "networks": (
        "tree_height(tree)",
        "assemble(network, *, slimming=False, limit=20000)",
        "sizes(network, *, slimming=False, limit=20000)",
        "split(script, process, *, limit=2000)",
    ),
    "claims": (
        "show_claim(claim)",
        "format_claims(claims)",
        "parse_claims(text)",
        "stuck_trace(system)",
        "looping_trace(system)",
        "is_stuck_after(system, trace)",
        "indeterminacy(system)",
    ),
    "checking": (
        "answer(script, claim, *, limit=2000)",
        "answers(script, claims, *, limit=2000)",
        "is_shown(script, claim, reply, *, limit=2000)",
        "report(script, claims, *, limit=2000)",
    ),
    "trials": (
        "trial(system, test)",
        "may_pass(system, test)",
        "must_pass(system, test)",
        "failing(system, test)",
        "is_failing(system, test, shown)",
        "test_of(first, behaviour)",
    ),
    "scripting": ("script_of(system)",),
    "tidying": ("is_calm(process)", "tidy(process)"),
    "simulating": (
        "simulates(first, second, *, limit=200000)",
        "is_simulation(first, second, pairs)",
        "struck_in(first, second, *, limit=200000)",
    ),
}
CLASSES = {
    ("scripts", "Script"): ("__init__(self, definitions)", "body(self, name)"),
    ("walks", "Walk"): (
        "__init__(self, script, process)",
        "choices(self)",
        "take(self, index)",
        "follow(self, action)",
        "back(self)",
    ),
    ("systems", "System"): (
        "__init__(self, count, edges)",
        "leaving(self, state)",
        "targets(self, state, action)",
        "offers(self, state)",
        "is_stable(self, state)",
        "events(self)",
        "__eq__(self, other)",
    ),
    ("networks", "Network"): ("__init__(self, parts, tree)",),
}


class InterfaceTest(unittest.TestCase):
    def test_functions(self):
        for stem, lines in FUNCTIONS.items():
            module = importlib.import_module("parley." + stem)
            for line in lines:
                function = getattr(module, line.partition("(")[0])
                self.assertEqual(function.__module__, "parley." + stem)
                self.assertEqual(function.__name__ + str(inspect.signature(function)), line)

    def test_classes(self):
        for (stem, name), lines in CLASSES.items():
            owner = getattr(importlib.import_module("parley." + stem), name)
            self.assertEqual(owner.__module__, "parley." + stem)
            for line in lines:
                method = vars(owner)[line.partition("(")[0]]
                self.assertEqual(method.__name__ + str(inspect.signature(method)), line)


if __name__ == "__main__":
    unittest.main()
