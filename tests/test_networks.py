"""Networks (points 42 to 45)."""

import random
import unittest

import naive
import naive_systems
from naive_systems import line, ring
from parley import errors
from parley.combining import hidden, renamed, side_by_side
from parley.equivalence import compare_strongly
from parley.exploring import explore
from parley.networks import Network, assemble, sizes, split, tree_height
from parley.refining import refines
from parley.scripts import Script
from parley.softness import slim
from parley.systems import System, reached
from parley.texts import parse_process, parse_script
from parley.weakness import compare_weakly
from test_steps import STOP as STOP_PROCESS
from test_steps import choice, crossed

EMPTY = parse_script("")
PART = ("part", 0)
STOP = System(1, [])
ONE = System(4, [(0, "a", 1), (1, "tau", 2), (2, "b", 0), (3, "c", 3)])
TWO = System(2, [(0, "b", 1), (1, "c", 0)])


def tower(many, tree=PART):
    """A tree that is higher by so much."""
    for _ in range(many):
        tree = ("hide", (), tree)
    return tree


def row(many):
    """A tree that names a part so often."""
    trees = [PART] * many
    while len(trees) > 1:
        pairs = [("parallel", (), trees[at], trees[at + 1]) for at in range(0, len(trees) - 1, 2)]
        trees = pairs + trees[len(pairs) * 2:]
    return trees[0]


class NetworkTest(unittest.TestCase):
    def test_fields(self):
        tree = ("parallel", ("b",), ("hide", ("a",), ("part", 1)), ("rename", (("a", "c"),), ("part", 0)))
        network = Network([ONE, TWO], tree)
        self.assertEqual(network.parts, (ONE, TWO))
        self.assertIsInstance(network.parts, tuple)
        self.assertEqual(network.tree, tree)

    def test_the_list_is_copied(self):
        parts = [ONE, TWO]
        network = Network(parts, PART)
        parts.clear()
        self.assertEqual(network.parts, (ONE, TWO))

    def bad(self, parts, tree):
        with self.assertRaises(errors.BadNetwork):
            Network(parts, tree)

    def test_parts_that_there_are_not(self):
        for index in (-1, -2, 2, 3, 10**30, -(10**30)):
            self.bad([ONE, TWO], ("part", index))
            self.bad([ONE, TWO], ("hide", ("a",), ("part", index)))
            self.bad([ONE, TWO], ("parallel", (), PART, ("part", index)))
            self.bad([ONE, TWO], ("parallel", (), ("part", index), PART))
        self.bad([], PART)

    def test_parts_named_often_or_not_at_all(self):
        self.assertEqual(Network([ONE, TWO], ("part", 1)).parts, (ONE, TWO))
        self.assertEqual(len(Network([ONE], ("parallel", (), PART, PART)).parts), 1)

    def test_height(self):
        self.assertEqual(tree_height(Network([ONE], tower(199)).tree), 200)
        self.bad([ONE], tower(200))
        self.bad([ONE], ("parallel", (), PART, tower(199)))
        self.bad([ONE], ("parallel", (), tower(199), PART))
        self.bad([ONE], tower(5000))

    def test_names_of_parts(self):
        self.assertEqual(Network([ONE], row(400)).tree, row(400))
        self.bad([ONE], row(401))
        self.bad([ONE], row(1000))
        self.bad([ONE], ("parallel", (), row(200), row(201)))
        # The names are counted, not the parts.
        self.assertEqual(len(Network([ONE] * 500, PART).parts), 500)

    def test_trees_of_exponential_size(self):
        tree = PART
        for _ in range(190):
            tree = ("parallel", (), tree, tree)
        self.bad([ONE], tree)

    def test_tree_height(self):
        self.assertEqual(tree_height(PART), 1)
        self.assertEqual(tree_height(("hide", (), PART)), 2)
        self.assertEqual(tree_height(("rename", (("a", "b"),), PART)), 2)
        self.assertEqual(tree_height(("parallel", (), PART, tower(3))), 5)
        self.assertEqual(tree_height(("parallel", ("a",), tower(3), PART)), 5)
        self.assertEqual(tree_height(tower(7000)), 7001)
        tree = PART
        for _ in range(3000):
            tree = ("parallel", ("a",), tree, PART)
        self.assertEqual(tree_height(tree), 3001)


class AssembleTest(unittest.TestCase):
    def test_each_kind(self):
        self.assertEqual(assemble(Network([ONE], PART)), reached(ONE))
        both = ("parallel", ("b",), ("part", 0), ("part", 1))
        expected = side_by_side(reached(ONE), TWO, ("b",))
        self.assertEqual(assemble(Network([ONE, TWO], both)), expected)
        self.assertEqual(assemble(Network([ONE, TWO], ("hide", ("b",), both))), hidden(expected, ("b",)))
        pairs = (("a", "x"), ("b", "y"))
        self.assertEqual(assemble(Network([ONE, TWO], ("rename", pairs, both))), renamed(expected, pairs))

    def test_order_of_the_two_sides(self):
        network = Network([ONE, TWO], ("parallel", (), ("part", 1), ("part", 0)))
        self.assertEqual(assemble(network), side_by_side(TWO, reached(ONE), ()))
        self.assertEqual(assemble(Network([ONE, TWO], ("parallel", (), ("part", 1), ("part", 1)))), side_by_side(TWO, TWO, ()))

    def test_nothing_is_left_out_behind_renaming_and_hiding(self):
        system = System(3, [(0, "a", 1), (1, "tau", 2), (2, "tau", 1)])
        self.assertEqual(assemble(Network([system], ("hide", ("a",), PART))), hidden(system, ("a",)))

    def test_slimming(self):
        network = Network([ONE, TWO], ("hide", ("b",), ("parallel", ("b",), ("part", 0), ("part", 1))))
        expected = slim(hidden(slim(side_by_side(slim(ONE), slim(TWO), ("b",))), ("b",)))
        self.assertEqual(assemble(network, slimming=True), expected)
        self.assertEqual(assemble(Network([ONE], PART), slimming=True), slim(ONE))
        self.assertEqual(assemble(network, slimming=False), assemble(network))

    def test_sizes(self):
        tree = ("parallel", (), ("hide", ("a", "b"), ("part", 0)), ("rename", (("b", "a"),), ("part", 1)))
        network = Network([ONE, TWO], tree)
        self.assertEqual(sizes(network), [3, 3, 2, 2, 6])
        self.assertEqual(sizes(network, slimming=True), [2, 1, 2, 2, 2])
        self.assertEqual(sizes(Network([ONE, TWO], ("part", 1))), [2])
        self.assertIsInstance(sizes(network), list)
        sizes(network).clear()
        self.assertEqual(len(sizes(network)), 5)

    def too_large(self, due, network, **options):
        for call in (assemble, sizes):
            with self.assertRaises(errors.TooLarge) as caught:
                call(network, **options)
            self.assertEqual(caught.exception.limit, due)

    def test_limits(self):
        network = Network([ring("a", "a", "a"), ring("b", "b")], ("parallel", (), ("part", 0), ("part", 1)))
        self.assertEqual(assemble(network, limit=6).count, 6)
        self.too_large(5, network, limit=5)
        self.too_large(1, network, limit=1)
        # Only what is put side by side counts.
        self.assertEqual(assemble(Network([ring("a", "a", "a")], ("hide", (), PART)), limit=1).count, 3)
        big = Network([ring(*["a"] * 200), ring(*["b"] * 101)], ("parallel", (), ("part", 0), ("part", 1)))
        self.too_large(20000, big)

    def test_limits_with_slimming(self):
        # The two parts have 9 pairs, but the slim one of the first has one state only.
        first = System(3, [(0, "a", 1), (1, "tau", 2), (2, "tau", 0)])
        tree = ("parallel", (), ("part", 0), ("part", 1))
        network = Network([naive_systems.ring("a", "tau", "tau"), ring("b", "c", "d")], tree)
        self.assertEqual(assemble(network, slimming=True, limit=3).count, 3)
        self.too_large(3, network, limit=3)
        self.too_large(2, network, slimming=True, limit=2)
        self.assertEqual(sizes(Network([first], PART), slimming=True), [1])

    def test_which_limit_comes_first(self):
        large = line(*["a"] * 2000)
        both = ("parallel", (), ("part", 1), ("part", 1))
        parts = [large, ring("a", "b")]
        # Without slimming a large part is no fault.
        self.assertEqual(assemble(Network(parts, PART)).count, 2001)
        self.too_large(2000, Network(parts, PART), slimming=True)
        self.too_large(2000, Network(parts, ("parallel", (), PART, both)), slimming=True, limit=3)
        self.too_large(3, Network(parts, ("parallel", (), both, PART)), slimming=True, limit=3)
        # 2025 states side by side are too many for slimming, but not for the limit.
        rings = Network([line(*["a"] * 44), line(*["b"] * 44)], ("parallel", (), ("part", 0), ("part", 1)))
        self.assertEqual(sizes(rings, limit=2025), [45, 45, 2025])
        self.too_large(2000, rings, slimming=True)
        self.too_large(2000, rings, slimming=True, limit=2025)
        self.too_large(2024, rings, slimming=True, limit=2024)
        exact = Network([line(*["a"] * 39), line(*["b"] * 49)], ("parallel", (), ("part", 0), ("part", 1)))
        self.assertEqual(assemble(exact, slimming=True).count, 2000)

    def test_many_names_of_one_part(self):
        part = System(1999, [(state, "tau", state + 1) for state in range(1998)])
        self.assertEqual(assemble(Network([part], row(400)), slimming=True), STOP)
        self.assertEqual(len(sizes(Network([STOP], row(400)))), 799)
        self.assertEqual(assemble(Network([ONE], tower(199))), reached(ONE))

    def test_arguments_are_not_changed(self):
        edges = ONE.edges
        network = Network([ONE, TWO], ("parallel", ("b",), PART, ("part", 1)))
        assemble(network, slimming=True)
        sizes(network)
        self.assertEqual((network.parts, network.tree), ((ONE, TWO), ("parallel", ("b",), PART, ("part", 1))))
        self.assertEqual(ONE.edges, edges)

    def test_slimming_changes_no_refinement(self):
        """Point 45."""
        source = random.Random(80)
        words = {"yes": 0, "no": 0}
        for _ in range(80):
            parts = [naive_systems.random_system(source, 3, 5) for _ in range(2)]
            network = Network(parts, random_tree(source, 4))
            whole, thin = assemble(network), assemble(network, slimming=True)
            self.assertEqual(compare_weakly(whole, thin, limit=10**6)[0], "same")
            self.assertEqual(thin.count, slim(whole).count)
            other = naive_systems.random_system(source, 3, 5)
            for model in naive_systems.MODELS:
                for pairs in (((whole, other), (thin, other)), ((other, whole), (other, thin))):
                    found = [refines(*pair, model) for pair in pairs]
                    words[found[0][0]] += 1
                    self.assertEqual(found[0][0], found[1][0])
                    if found[0][0] == "no":
                        self.assertEqual(found[0], found[1])
        self.assertGreater(min(words.values()), 60, words)


def random_tree(source, tallest):
    kind = source.choice(("part", "parallel", "parallel", "hide", "rename") if tallest > 1 else ("part",))
    if kind == "part":
        return (kind, source.randrange(2))
    events = tuple(event for event in ("a", "b") if source.random() < 0.5)
    if kind == "parallel":
        return (kind, events, random_tree(source, tallest - 2), random_tree(source, tallest - 2))
    label = events if kind == "hide" else (("a", source.choice("bc")),)
    return (kind, label, random_tree(source, tallest - 1))


class SplitTest(unittest.TestCase):
    def check(self, script, text, tree, parts):
        network = split(script, parse_process(text))
        self.assertIsInstance(network, Network)
        self.assertEqual(network.tree, tree)
        self.assertEqual(network.parts, tuple(explore(script, parse_process(part))[0] for part in parts))

    def test_example(self):
        script = parse_script("P = a -> b -> P\nR = b -> c -> R\nS = (P <b> R) / {b}")
        network = split(script, ("name", "S"))
        self.assertEqual(network.tree, ("hide", ("b",), ("parallel", ("b",), ("part", 0), ("part", 1))))
        self.assertEqual([sizes(network), sizes(network, slimming=True)], [[2, 2, 4, 4], [2, 2, 4, 3]])

    def test_processes_that_are_parts(self):
        script = parse_script("P = a -> P\nQ = P\nR = P + b -> stop")
        for text in ("stop", "skip", "a -> stop", "P + P", "P | P", "P ; P", "P", "Q", "R", "a -> (P <> P)", "(P <> P) ; P"):
            self.check(script, text, PART, [text])

    def test_trees_of_each_kind(self):
        script = parse_script("P = a -> P")
        self.check(script, "P <a> b -> P", ("parallel", ("a",), PART, ("part", 1)), ["P", "b -> P"])
        self.check(script, "P / {a, b}", ("hide", ("a", "b"), PART), ["P"])
        self.check(script, "P [a=b]", ("rename", (("a", "b"),), PART), ["P"])
        self.check(
            script, "(P <> P | stop) / {a} <a> (skip [a=b] <> (P + stop) / {})",
            (
                "parallel", ("a",), ("hide", ("a",), ("parallel", (), PART, ("part", 1))),
                ("parallel", (), ("rename", (("a", "b"),), ("part", 2)), ("hide", (), ("part", 3))),
            ),
            ["P", "P | stop", "skip", "P + stop"],
        )

    def test_each_part_has_an_index_of_its_own(self):
        script = parse_script("P = a -> P")
        tree = ("parallel", (), ("parallel", (), PART, ("part", 1)), ("part", 2))
        self.check(script, "P <> P <> P", tree, ["P", "P", "P"])

    def test_names(self):
        script = parse_script("A = B\nB = C\nC = E <a> D\nD = E\nE = b -> D\nF = C / {a}\nG = A <> E")
        inner = ("parallel", ("a",), PART, ("part", 1))
        # A name of a name whose process is a tree becomes this tree; D is explored as it stands there.
        for text in ("A", "B", "C"):
            self.check(script, text, inner, ["E", "D"])
        self.check(script, "F", ("hide", ("a",), inner), ["E", "D"])
        self.check(script, "G", ("parallel", (), inner, ("part", 2)), ["E", "D", "E"])
        self.check(script, "D", PART, ["D"])
        self.assertEqual([split(script, ("name", name)).parts[0].count for name in ("D", "E")], [1, 2])
        self.check(script, "a -> C", PART, ["a -> C"])
        self.check(script, "C + stop", PART, ["C + stop"])

    def test_unknown_names(self):
        for text in ("Z <> Y", "a -> Z <> Y", "(P <> Z) ; Y", "P <> (Z <> Y)", "Y"):
            with self.assertRaises(errors.UnknownName) as caught:
                split(parse_script("P = stop"), parse_process(text), limit=1)
            self.assertEqual(caught.exception.name, "Y")

    def test_limits(self):
        script = parse_script("P = a -> b -> P\nQ = a -> b -> c -> Q\nR = P <a> Q\nS = Q <> P")
        self.assertEqual(sizes(split(script, ("name", "R"), limit=3)), [2, 3, 6])
        for limit, text in ((2, "R"), (1, "R"), (2, "S"), (1, "S"), (2, "P <> (P <> Q) / {a}")):
            with self.assertRaises(errors.TooLarge) as caught:
                split(script, parse_process(text), limit=limit)
            self.assertEqual(caught.exception.limit, limit)
        # The whole may be much larger.
        wide = parse_process(" <> ".join(["P"] * 16))
        self.assertEqual(len(split(script, wide, limit=2).parts), 16)

    def test_the_first_part_that_is_too_large(self):
        # The one part has many states, the other one has a state with too many steps.
        many = ("prefix", "c", choice("a", 60, STOP_PROCESS))
        wide = ("prefix", "c", crossed(69, 29))
        for left, right, due in ((many, wide, 50), (wide, many, 2000)):
            with self.assertRaises(errors.TooLarge) as caught:
                split(EMPTY, ("parallel", (), left, right), limit=50)
            self.assertEqual(caught.exception.limit, due)

    def test_assembled_networks(self):
        """Points 44 and 45."""
        source = random.Random(81)
        many = [0, 0]
        while min(many) < 60:
            pairs = [(name, naive.random_process(source, ("P", "Q", "R"), 4)) for name in ("P", "Q", "R")]
            if naive.first_fault(pairs) is not None or naive.explored(dict(pairs), ("name", "P"), 60) is None:
                continue
            script = Script(pairs)
            network = split(script, ("name", "P"))
            many[len(network.parts) > 1] += 1
            system, _ = explore(script, ("name", "P"))
            self.assertEqual(compare_strongly(system, assemble(network))[0], "same")
            self.assertEqual(compare_weakly(system, assemble(network, slimming=True))[0], "same")

    def test_tall_processes(self):
        lines = ["P0 = " + "(" * 18 + "a -> P0" + " / {b})" * 18]
        with self.assertRaises(errors.Growing):
            parse_script(lines[0])
        lines = ["P0 = a -> P0"]
        for at in range(1, 6):
            lines.append(f"P{at} = P{at - 1}" + " / {b}" * 19)
        network = split(parse_script("\n".join(lines)), parse_process("P5" + " / {b}" * 19))
        self.assertEqual(tree_height(network.tree), 6 * 19 + 1)
        self.assertEqual(assemble(network), System(1, [(0, "a", 0)]))


if __name__ == "__main__":
    unittest.main()
