"""What the document promises over the whole program (points 1 and 2)."""

import copy
import importlib
import inspect
import sys
import unittest

import naive_systems as naive
from parley import (
    behaviours,
    certifying,
    checking,
    claims,
    classes,
    combining,
    equivalence,
    exploring,
    formulas,
    holding,
    networks,
    normalising,
    processes,
    refining,
    scripting,
    sheets,
    simulating,
    softness,
    steps,
    systemtext,
    texts,
    tidying,
    trials,
    weakness,
)
from parley import errors
from parley.networks import Network
from parley.scripts import Script
from parley.systems import System, reached
from parley.walks import Walk

SCRIPT = texts.parse_script("P = a -> P + b -> stop\nQ = a -> Q | b -> stop\nR = (P <a> Q) / {b}")
ONE = System(3, [(0, "a", 1), (1, "b", 0), (0, "tau", 2)])
TWO = System(4, [(0, "tau", 1), (0, "tau", 2), (1, "a", 3), (2, "b", 3)])


def values():
    """The names of calls with lists among their arguments, and what they return, made anew."""
    certificate = refining.refines(ONE, ONE, "traces")[1]
    relation = [(0, 0), (1, 1), (2, 2)]
    parsed = claims.parse_claims("P == Q\nP never stuck\nQ determinate\nP <= Q in traces")
    return [
        (System, 3, [(1, "a", 0), (0, "b", 2), (1, "a", 0)]),
        (Script, [("P", ("prefix", "a", ("name", "Q"))), ("Q", ("stop",))]),
        (Network, [ONE, TWO], ("parallel", (), ("part", 1), ("part", 0))),
        (behaviours.closure, ONE, [2, 0]),
        (certifying.is_certificate, ONE, ONE, "traces", certificate),
        (certifying.is_certificate, ONE, ONE, "failures", certificate[::-1]),
        (equivalence.is_strong_relation, ONE, ONE, relation),
        (equivalence.is_strong_relation, ONE, ONE, relation[::-1]),
        (weakness.is_weak_relation, ONE, ONE, relation),
        (weakness.is_weak_relation, ONE, TWO, relation[::-1]),
        (simulating.is_simulation, ONE, ONE, relation),
        (simulating.is_simulation, TWO, ONE, relation[::-1]),
        (claims.format_claims, parsed),
        (checking.answers, SCRIPT, parsed),
        (checking.report, SCRIPT, parsed),
        (checking.is_shown, SCRIPT, ("strong", "P", "P"), ("same", [(0, 0), (1, 1)])),
        (checking.is_shown, SCRIPT, ("refines", "traces", "P", "P"), ("yes", [(1, (1,)), (0, (0,))])),
    ]


def returned():
    """Calls that return lists or dicts."""
    chain = Walk(SCRIPT, ("name", "R"))
    network = networks.split(SCRIPT, ("name", "R"))
    return [
        lambda: processes.references(SCRIPT.body("R")),
        lambda: steps.steps(SCRIPT, ("name", "R")),
        lambda: steps.can_do(SCRIPT, ("name", "R")),
        lambda: chain.choices(),
        lambda: ONE.leaving(0),
        lambda: ONE.targets(0, "a"),
        lambda: exploring.explore(SCRIPT, ("name", "R"))[1],
        lambda: behaviours.stable_offers(TWO, ()),
        lambda: behaviours.traces_up_to(ONE, 2),
        lambda: refining.refines(ONE, ONE, "failures")[1],
        lambda: sheets.rows_with(ONE, (("true",), ("can", "a", 0))),
        lambda: classes.classes(TWO),
        lambda: classes.classes_after(TWO, 1),
        lambda: equivalence.compare_strongly(ONE, ONE)[1],
        lambda: softness.soft_classes(TWO),
        lambda: softness.soft_classes_after(TWO, 1),
        lambda: weakness.compare_weakly(ONE, ONE)[1],
        lambda: networks.sizes(network),
        lambda: claims.parse_claims("P == Q"),
        lambda: checking.answers(SCRIPT, [("unstuck", "P")]),
        lambda: checking.answer(SCRIPT, ("strong", "P", "P"))[1],
        lambda: simulating.simulates(ONE, ONE)[1],
        lambda: simulating.struck_in(TWO, ONE),
    ]


class ListsTest(unittest.TestCase):
    def test_arguments_are_not_changed(self):
        for function, *arguments in values():
            kept = [copy.deepcopy(argument) if isinstance(argument, (list, tuple)) else argument for argument in arguments]
            edges = ONE.edges, TWO.edges
            function(*arguments)
            for argument, before in zip(arguments, kept):
                self.assertEqual(argument, before, function.__name__)
                self.assertEqual(type(argument), type(before))
            self.assertEqual((ONE.edges, TWO.edges), edges)

    def test_objects_keep_no_list(self):
        edges, parts, definitions = [(0, "a", 0)], [ONE], [("P", ("stop",))]
        system, network, script = System(1, edges), Network(parts, ("part", 0)), Script(definitions)
        for row in (edges, parts, definitions):
            row.clear()
        self.assertEqual(system.edges, ((0, "a", 0),))
        self.assertEqual(system.leaving(0), [("a", 0)])
        self.assertEqual((network.parts, networks.sizes(network)), ((ONE,), [3]))
        self.assertEqual((script.definitions, script.body("P")), ((("P", ("stop",)),), ("stop",)))

    def test_returned_lists_and_dicts_are_new(self):
        for at, call in enumerate(returned()):
            found = call()
            self.assertIsInstance(found, (list, dict), at)
            kept = copy.deepcopy(found)
            self.assertGreater(len(kept), 0, at)
            found.clear()
            self.assertEqual(call(), kept, at)


def long_calls():
    """Calls with long texts and lists, and with high tuples."""
    chain, ring = naive.line(*["a"] * 4000), naive.ring(*["tau"] * 4000)
    text = systemtext.format_system(chain)
    process, formula = ("stop",), ("true",)
    for _ in range(4000):
        process = ("prefix", "a", process)
        formula = ("not", formula)
    tree = ("part", 0)
    for _ in range(4000):
        tree = ("hide", (), tree)
    sheet = sheets.sheet_of(formula)
    identity = [(state, state) for state in range(4001)]
    many = claims.format_claims([("strong", "P", "Q")] * 4000)
    failing = trials.failing(ring, System(1, []))
    certificate = refining.refines(chain, chain, "traces")[1]
    return [
        lambda: processes.height(process),
        lambda: processes.references(process),
        lambda: texts.show_process(process),
        lambda: tidying.tidy(process),
        lambda: tidying.is_calm(process),
        lambda: raised(lambda: texts.parse_process("a -> " * 4000 + "stop")),
        lambda: raised(lambda: texts.parse_process("stop" + " + stop" * 4000)),
        lambda: raised(lambda: texts.parse_process("(" * 4000)),
        lambda: raised(lambda: Script([("P", process)])),
        lambda: texts.parse_script("\n" * 4000),
        lambda: systemtext.parse_system(text),
        lambda: raised(lambda: formulas.parse_formula("!" * 4000 + "true")),
        lambda: raised(lambda: formulas.parse_formula("(" * 4000 + "true")),
        lambda: [formulas.depth(formula), formulas.formula_height(formula)],
        lambda: [holding.satisfies(chain, formula), holding.states_with(chain, formula)],
        lambda: [sheets.sheet_depth(sheet), sheets.sheet_satisfies(chain, sheet), sheets.rows_with(ONE, sheet)],
        lambda: sheets.unfolded(sheet, limit=10000),
        lambda: [reached(chain), reached(ring)],
        lambda: combining.side_by_side(chain, chain, ("a",)),
        lambda: [behaviours.diverging(chain), behaviours.diverging(ring), behaviours.diverges(ring, 7)],
        lambda: [behaviours.is_trace(chain, ("a",) * 4000), behaviours.closure(ring, [0])],
        lambda: refining.refines(chain, chain, "divergences"),
        lambda: certifying.is_certificate(chain, chain, "traces", certificate),
        lambda: normalising.normal_form(chain, "failures", limit=5000),
        lambda: [classes.classes(chain), classes.small(chain)],
        lambda: equivalence.compare_strongly(chain, naive.line(*["a"] * 3999), limit=10**8),
        lambda: equivalence.is_strong_relation(chain, chain, identity),
        lambda: weakness.is_weak_relation(chain, chain, identity),
        lambda: weakness.compare_weakly(naive.line(*["a"] * 900), naive.line(*["a"] * 901), limit=10**7),
        lambda: softness.slim(naive.line(*["tau", "a"] * 900)),
        lambda: networks.tree_height(tree),
        lambda: raised(lambda: Network([ONE], tree)),
        lambda: claims.parse_claims(many),
        lambda: [claims.stuck_trace(chain), claims.looping_trace(ring), claims.indeterminacy(chain)],
        lambda: [trials.must_pass(chain, chain), trials.failing(ring, System(1, []))],
        lambda: trials.is_failing(ring, System(1, []), failing),
        lambda: trials.test_of(chain, ("trace", ("a",) * 4000)),
        lambda: [simulating.simulates(System(1, [(0, "a", 0)]), chain), simulating.simulates(chain, System(1, [(0, "a", 0)]))],
        lambda: simulating.is_simulation(chain, chain, identity),
    ]


def raised(call):
    try:
        call()
    except errors.ParleyError as error:
        return error
    raise AssertionError("no error")


class DepthTest(unittest.TestCase):
    def test_no_deep_calls(self):
        calls = long_calls()
        limit = sys.getrecursionlimit()
        sys.setrecursionlimit(len(inspect.stack(0)) + 150)
        try:
            for call in calls:
                call()
        finally:
            sys.setrecursionlimit(limit)


class ErrorsTest(unittest.TestCase):
    def test_all_errors_have_one_base(self):
        found = [value for value in vars(errors).values() if inspect.isclass(value)]
        self.assertEqual(len(found), 14)
        for value in found:
            self.assertTrue(issubclass(value, errors.ParleyError))
            above = [other for other in found if other is not value and issubclass(value, other)]
            self.assertEqual(above, [] if value is errors.ParleyError else [errors.ParleyError])

    def test_nothing_is_printed_or_read(self):
        for stem in ("sys", "os", "time", "random", "io", "pathlib"):
            for name in list(sys.modules):
                if name.startswith("parley."):
                    self.assertNotIn(stem, vars(importlib.import_module(name)))


class TogetherTest(unittest.TestCase):
    def test_a_script_from_its_text_to_its_report(self):
        """Point 1: evidence of every kind, and the checkers that take it."""
        text = "P = a -> b -> P\nQ = b -> c -> Q\nNET = (P <b> Q) / {b}\nSPEC = a -> MORE\nMORE = a -> c -> MORE + c -> SPEC"
        script = texts.parse_script(text)
        self.assertEqual(texts.format_script(script), text)
        rows = ["SPEC <= NET in traces", "SPEC <= NET in divergences", "SPEC == NET", "SPEC ~~ NET", "NET never stuck", "NET never loops", "NET determinate"]
        parsed = claims.parse_claims("\n".join(rows))
        for claim, reply in zip(parsed, checking.answers(script, parsed)):
            self.assertIs(checking.is_shown(script, claim, reply), True)
        found = checking.report(script, parsed).split("\n")
        self.assertEqual([line.partition(":")[0] for line in found[:-1]], rows)
        network = networks.split(script, ("name", "NET"))
        for slimming in (False, True):
            whole = networks.assemble(network, slimming=slimming)
            other = exploring.explore(script, ("name", "NET"))[0]
            self.assertEqual(weakness.compare_weakly(whole, other)[0], "same")
        made, name = scripting.script_of(networks.assemble(network))
        explored = exploring.explore(made, ("name", name))[0]
        self.assertEqual(equivalence.compare_strongly(explored, networks.assemble(network))[0], "same")


if __name__ == "__main__":
    unittest.main()
