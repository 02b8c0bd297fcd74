"""The examples of the interface, word by word."""

import doctest
import unittest

EXAMPLES = r'''
tidyback/programs.py

>>> from tidyback.programs import read_program, evaluate, task_of
>>> p = read_program("mod 97\ninputs 2\ns0 = x0 + x1\ns1 = s0 * s0\ns2 = s1 - 3\ns3 = s2 * x0\nreturn s3\n")
>>> p
(97, 2, (('+', 'x0', 'x1'), ('*', 's0', 's0'), ('-', 's1', '3'), ('*', 's2', 'x0')), (3,))
>>> evaluate(p, [5, 7]), task_of(p)
([12, 47, 44, 26], (((), (0,), (1,), (2,)), (3,)))

tidyback/planning.py

>>> from tidyback.planning import shortest_plan, fewest_registers, tradeoff
>>> t = task_of(p)
>>> fewest_registers(t), tradeoff(t), shortest_plan(t, 3)
(3, [(3, 9), (4, 7)], [0, 1, 0, 2, 3, 2, 0, 1, 0])

tidyback/certificates.py

>>> from tidyback.certificates import certificate, flaw
>>> certificate(t, 2)
(2, None, (((),), ((0,),), ((0, 1),), ((1,),), ((1, 2),)))
>>> flaw(t, (2, None, (((),), ((0,),), ((0, 1),), ((1,),))))
('step', 3, (1,), 2)

tidyback/rounds.py

>>> from tidyback.tasks import task
>>> from tidyback.rounds import shortest_schedule
>>> shortest_schedule(task([[], [], [0, 1]], [2]), 3)
[(0, 1), (2,), (0, 1)]

tidyback/code.py

>>> from tidyback.code import compiled, run, flaw_of_code, cancelled
>>> k = compiled(p, [0, 1, 0, 2, 3, 2, 0, 1, 0])
>>> k[:4]
[(0, '+', '+', 'x0', 'x1'), (1, '+', '*', 'r0', 'r0'), (0, '-', '+', 'x0', 'x1'), (0, '+', '-', 'r1', '3')]
>>> run(p, k, [5, 7], [0] * 8), flaw_of_code(p, k[:8])
([0, 0, 26, 0, 0, 0, 0, 0], (8, 'other outputs'))
>>> cancelled([k[0], k[1], (1, "-", "*", "r0", "r0"), k[2]])
[]

tidyback/joining.py

>>> from tidyback.joining import joined, joined_plan
>>> a = (7, 1, (("*", "x0", "x0"),), (0,))
>>> b = (7, 2, (("+", "x0", "x1"), ("*", "s0", "3")), (1,))
>>> joined(a, b, (0, None))
(7, 2, (('*', 'x0', 'x0'), ('+', 's0', 'x1'), ('*', 's1', '3')), (2,))
>>> joined_plan(a, b, (0, None), [0], [0, 1, 0])
[0, 1, 2, 1, 0]

tidyback/benches.py

>>> from tidyback.benches import Bench
>>> bench = Bench(t, 3)
>>> bench.remaining(), bench.hint(), bench.toggle(0), bench.way()
(9, 0, (0,), [1, 0, 2, 3, 2, 0, 1, 0])
>>> bench.replay([("toggle", 1), ("toggle", 3), ("toggle", 0)]), bench.log, 1 in bench
(1, [('toggle', 0), ('toggle', 1)], True)

tidyback/judges.py

>>> from tidyback.judges import answer, flaw_of_plan
>>> answer(p, ("moves", 2))
('no moves', 2, (2, None, (((),), ((0,),), ((0, 1),), ((1,),), ((1, 2),))))
>>> flaw_of_plan(t, 2, [0, 1, 0, 2, 0]), answer(p, ("code", k[:1]))
((4, 'too many registers'), ('no code', [(0, '+', '+', 'x0', 'x1')], 1, 'other outputs'))
'''


class ExamplesTest(unittest.TestCase):
    def test_all(self):
        test = doctest.DocTestParser().get_doctest(EXAMPLES, {}, "the interface", None, 0)
        failed, tried = doctest.DocTestRunner().run(test)
        self.assertEqual(failed, 0)
        self.assertEqual(tried, EXAMPLES.count(">>> "))


if __name__ == "__main__":
    unittest.main()
