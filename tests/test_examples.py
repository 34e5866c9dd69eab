"""The examples of the document, word for word."""

import unittest

EXAMPLES = (
    '''
>>> from parley.texts import parse_process
>>> parse_process("a -> stop + b -> P <c> skip")
('parallel', ('c',), ('external', ('prefix', 'a', ('stop',)), ('prefix', 'b', ('name', 'P'))), ('skip',))
''',
    '''
>>> from parley.texts import show_process
>>> show_process(("prefix", "a", ("hide", ("b",), ("external", ("stop",), ("name", "P")))))
'a -> (stop + P) / {b}'
''',
    '''
>>> from parley.texts import parse_script
>>> parse_script("P = a -> P <> b -> stop").definitions
raises Growing
''',
    '''
>>> from parley.texts import parse_script, format_script
>>> format_script(parse_script("P = a->P\\n  \\nQ = (P<b,a>P)/{a}"))
'P = a -> P\\nQ = (P <a, b> P) / {a}'
''',
    '''
>>> from parley.texts import parse_script
>>> from parley.steps import steps
>>> script = parse_script("P = a -> P\\nQ = (P <a> a -> stop) / {a}")
>>> steps(script, ("name", "Q"))
[('tau', ('hide', ('a',), ('parallel', ('a',), ('name', 'P'), ('stop',))))]
''',
    '''
>>> from parley.texts import parse_process, parse_script
>>> from parley.steps import steps
>>> steps(parse_script(""), parse_process("skip ; b -> stop"))
[('tau', ('prefix', 'b', ('stop',)))]
''',
    '''
>>> from parley.texts import parse_process, parse_script
>>> from parley.walks import Walk
>>> walk = Walk(parse_script(""), parse_process("(a -> skip | b -> stop) ; c -> stop"))
>>> [walk.follow("tau"), walk.follow("a"), walk.follow("tau"), walk.follow("c"), walk.follow("c")]
[True, True, True, True, False]
''',
    '''
>>> from parley.systems import System
>>> from parley.combining import side_by_side
>>> one = System(2, [(0, "a", 1), (1, "b", 0)])
>>> side_by_side(one, one, ("a",)).edges
((0, 'a', 1), (1, 'b', 2), (1, 'b', 3), (2, 'b', 0), (3, 'b', 0))
''',
    '''
>>> from parley.texts import parse_script
>>> from parley.exploring import explore
>>> from parley.systemtext import format_system
>>> system, places = explore(parse_script("P = a -> P + b -> skip"), ("name", "P"))
>>> format_system(system)
'states 3\\n0 a 0\\n0 b 1\\n1 tick 2'
''',
    '''
>>> from parley.systems import System
>>> from parley.behaviours import states_after, stable_offers
>>> system = System(4, [(0, "tau", 1), (0, "tau", 2), (1, "a", 3), (2, "b", 0)])
>>> [states_after(system, ("b",)), stable_offers(system, ()), stable_offers(system, ("a",))]
[(0, 1, 2), [('a',), ('b',)], [()]]
''',
    '''
>>> from parley.systems import System
>>> from parley.behaviours import diverging
>>> diverging(System(4, [(0, "a", 1), (1, "tau", 2), (2, "tau", 2), (3, "tau", 1)]))
(1, 2, 3)
''',
    '''
>>> from parley.texts import parse_script
>>> from parley.exploring import explore
>>> from parley.refining import refines
>>> script = parse_script("P = a -> P + b -> stop\\nQ = a -> Q | b -> stop")
>>> systems = [explore(script, ("name", name))[0] for name in ("P", "Q")]
>>> [refines(systems[0], systems[1], "traces")[0], refines(systems[0], systems[1], "failures")]
['yes', ('no', ('failure', (), ('a',)))]
''',
    '''
>>> from parley.systems import System
>>> from parley.refining import refines
>>> refines(System(1, [(0, "a", 0)]), System(2, [(0, "a", 1), (1, "b", 0)]), "traces")
('no', ('trace', ('a', 'b')))
''',
    '''
>>> from parley.systems import System
>>> from parley.refining import refines
>>> second = System(3, [(0, "tau", 1), (0, "b", 2), (1, "a", 2), (2, "c", 2)])
>>> refines(System(2, [(0, "a", 1), (0, "b", 1)]), second, "traces")
('no', ('trace', ('a', 'c')))
''',
    '''
>>> from parley.systems import System
>>> from parley.normalising import normal_form
>>> system = System(4, [(0, "tau", 1), (0, "tau", 2), (1, "a", 3), (2, "a", 3), (2, "b", 3)])
>>> normal_form(system, "failures")
(((('a', 1), ('b', 1)), (('a',),), False), ((), ((),), False))
''',
    '''
>>> from parley.systems import System
>>> from parley.normalising import normal_form
>>> normal_form(System(2, [(0, "a", 1), (1, "tau", 1), (1, "b", 0)]), "divergences")
(((('a', 1),), (('a',),), False), ((), (), True))
''',
    '''
>>> from parley.formulas import parse_formula
>>> parse_formula("<a> true & ![b] true | loops")
('or', ('and', ('can', 'a', ('true',)), ('not', ('must', 'b', ('true',)))), ('loops',))
''',
    '''
>>> from parley.sheets import sheet_of
>>> from parley.formulas import parse_formula
>>> sheet_of(parse_formula("<a> true & <a> true"))
(('true',), ('can', 'a', 0), ('and', 1, 1))
''',
    '''
>>> from parley.systems import System
>>> from parley.holding import states_with
>>> from parley.formulas import parse_formula
>>> system = System(4, [(0, "a", 1), (1, "tau", 2), (2, "b", 3)])
>>> [states_with(system, parse_formula(text)) for text in ("<b> true", "<<b>> true", "[a] <b> true", "<<a>> <b> true")]
[(2,), (1, 2), (1, 2, 3), (0,)]
''',
    '''
>>> from parley.systems import System
>>> from parley.classes import classes_after, small
>>> system = System(4, [(0, "a", 1), (1, "b", 0), (0, "a", 2), (2, "b", 3), (3, "a", 1)])
>>> [classes_after(system, 1), small(system).edges]
[[(0, 3), (1, 2)], ((0, 'a', 1), (1, 'b', 0))]
''',
    '''
>>> from parley.systems import System
>>> from parley.equivalence import compare_strongly
>>> from parley.sheets import sheet_depth, sheet_satisfies
>>> one = System(4, [(0, "a", 1), (1, "b", 2), (1, "c", 3)])
>>> two = System(5, [(0, "a", 1), (0, "a", 2), (1, "b", 3), (2, "c", 4)])
>>> word, sheet = compare_strongly(one, two)
>>> [word, sheet_satisfies(one, sheet), sheet_satisfies(two, sheet), sheet_depth(sheet)]
['different', True, False, 2]
''',
    '''
>>> from parley.systems import System
>>> from parley.softness import slim
>>> slim(System(4, [(0, "tau", 1), (1, "a", 2), (2, "tau", 3), (3, "tau", 2), (3, "b", 0)])).edges
((0, 'a', 1), (1, 'b', 0), (1, 'tau', 1))
''',
    '''
>>> from parley.systems import System
>>> from parley.weakness import compare_weakly
>>> one = System(3, [(0, "a", 1), (0, "tau", 2)])
>>> two = System(2, [(0, "a", 1)])
>>> [compare_weakly(one, two)[0], compare_weakly(two, System(3, [(0, "tau", 1), (1, "a", 2)]))]
['different', ('same', [(0, 0), (0, 1), (1, 2)])]
''',
    '''
>>> from parley.texts import parse_script
>>> from parley.networks import split, sizes
>>> script = parse_script("P = a -> b -> P\\nR = b -> c -> R\\nS = (P <b> R) / {b}")
>>> network = split(script, ("name", "S"))
>>> [network.tree, sizes(network), sizes(network, slimming=True)]
[('hide', ('b',), ('parallel', ('b',), ('part', 0), ('part', 1))), [2, 2, 4, 4], [2, 2, 4, 3]]
''',
    '''
>>> from parley.texts import parse_script
>>> from parley.claims import parse_claims
>>> from parley.checking import report
>>> script = parse_script("P = a -> P + b -> stop\\nQ = a -> Q | b -> stop")
>>> report(script, parse_claims("P <= Q in traces\\nP <= Q in failures\\nQ determinate"))
'P <= Q in traces: holds\\nP <= Q in failures: fails after <> offers only <a>\\nQ determinate: fails after <> both does and refuses a\\n1 of 3 hold'
''',
    '''
>>> from parley.systems import System
>>> from parley.trials import test_of, must_pass, failing
>>> one = System(2, [(0, "a", 1), (0, "b", 1)])
>>> two = System(4, [(0, "tau", 1), (0, "tau", 2), (1, "a", 3), (2, "b", 3)])
>>> test = test_of(one, ("failure", (), ("a",)))
>>> [test.edges, must_pass(one, test), must_pass(two, test), failing(two, test)]
[((0, 'b', 1), (0, 'tick', 1), (1, 'pass', 1)), True, False, (((0, 0), (1, 0)), None)]
''',
    '''
>>> from parley.texts import parse_process, show_process
>>> from parley.tidying import tidy
>>> show_process(tidy(parse_process("(b -> stop + (stop + a -> P)) + a -> P | (skip ; P) [a=b] / {}")))
'(skip ; P) [a=b] | a -> P + b -> stop'
''',
    '''
>>> from parley.systems import System
>>> from parley.scripting import script_of
>>> from parley.exploring import explore
>>> from parley.equivalence import compare_strongly
>>> system = System(3, [(0, "a", 1), (0, "tau", 2), (1, "tick", 2)])
>>> script, name = script_of(system)
>>> compare_strongly(system, explore(script, ("name", name))[0])[0]
'same'
''',
    '''
>>> from parley.systems import System
>>> from parley.simulating import simulates
>>> one = System(4, [(0, "a", 1), (1, "b", 2), (1, "c", 3)])
>>> two = System(5, [(0, "a", 1), (0, "a", 2), (1, "b", 3), (2, "c", 4)])
>>> [simulates(one, two)[0], simulates(two, one)[0]]
['yes', 'no']
''',
)


def shown(code, names):
    """What an interpreter prints for one line, or the name of the error that it raises."""
    try:
        if code.startswith("from ") or " = " in code.partition("(")[0]:
            exec(code, names)
            return ""
        return repr(eval(code, names))
    except ValueError as error:
        return "raises " + type(error).__name__


class ExamplesTest(unittest.TestCase):
    def test_examples(self):
        for example in EXAMPLES:
            names = {}
            last = ""
            for line in example.strip().split("\n"):
                if line.startswith(">>> "):
                    self.assertEqual(last, "", example)
                    last = shown(line[4:], names)
                else:
                    self.assertEqual(last, line, example)
                    last = ""
            self.assertEqual(last, "", example)

    def test_explored_part_of_the_example_of_the_text_of_systems(self):
        from parley.exploring import explore
        from parley.texts import parse_script

        system, places = explore(parse_script("P = a -> P + b -> skip"), ("name", "P"))
        self.assertEqual(system.count, 3)
        self.assertEqual(system.edges, ((0, "a", 0), (0, "b", 1), (1, "tick", 2)))
        self.assertEqual(places, [("name", "P"), ("skip",), ("stop",)])

    def test_first_tau_of_the_example_of_walks(self):
        from parley.texts import parse_process, parse_script, show_process
        from parley.walks import Walk

        walk = Walk(parse_script(""), parse_process("(a -> skip | b -> stop) ; c -> stop"))
        self.assertEqual(show_process(walk.choices()[0][1]), "a -> skip ; c -> stop")


if __name__ == "__main__":
    unittest.main()
