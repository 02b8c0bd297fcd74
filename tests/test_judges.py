"""[36] to [38]: questions, claims, answers and judges."""

import copy
import unittest

from samples import ALL_RETURNED, EXAMPLE, LONGEST, SHORTEST
from tidyback.certificates import certificate
from tidyback.code import compiled, inverted
from tidyback.effects import first_difference
from tidyback.errors import CodeError
from tidyback.judges import answer, judge, judge_all
from tidyback.planning import shortest_plan
from tidyback.prices import cheapest_plan, price_certificate, price_of
from tidyback.programs import task_of
from tidyback.rounds import round_certificate, shortest_schedule

PLAN = [0, 1, 0, 2, 3, 2, 0, 1, 0]
SMALL = (7, *EXAMPLE[1:])
TASK = task_of(SMALL)
CODE = compiled(SMALL, PLAN)
PRICES = [5, 1, 2, 9]
# A step that uses two others, with as many detours as one likes.
FORKED = (7, 1, (("+", "x0", "1"), ("+", "x0", "2"), ("*", "s0", "s1")), (2,))
FORK = task_of(FORKED)
MANY = (97, *EXAMPLE[1:])


def fault(function, *passed):
    """Return the pair (what, place) of the CodeError that a call raises, or None."""
    try:
        function(*passed)
    except CodeError as error:
        return error.what, error.place
    return None


class AnswerTest(unittest.TestCase):
    def check(self, program, question, wanted):
        """Check an answer, that it holds, and that it is new."""
        passed = copy.deepcopy(question)
        found = answer(program, passed)
        self.assertEqual(found, wanted)
        self.assertIs(type(found), tuple)
        self.assertEqual(passed, question)
        self.assertIs(judge(program, found), True)
        self.assertEqual(found, wanted)
        for each in found:
            if isinstance(each, list):
                each.clear()
        self.assertEqual(passed, question)
        self.assertEqual(answer(program, passed), wanted)

    def test_moves(self):
        self.check(SMALL, ("moves", 3), ("moves", 3, PLAN, certificate(TASK, 3)))
        self.check(SMALL, ("moves", 4), ("moves", 4, [0, 1, 2, 3, 2, 1, 0], certificate(TASK, 4)))
        self.check(SHORTEST, ("moves", 1), ("moves", 1, [0], (1, 1, (((),),))))

    def test_no_moves(self):
        levels = (((),), ((0,),), ((0, 1),), ((1,),), ((1, 2),))
        self.check(SMALL, ("moves", 2), ("no moves", 2, (2, None, levels)))
        self.check(SMALL, ("moves", 1), ("no moves", 1, (1, None, levels[:2])))

    def test_price(self):
        plan = cheapest_plan(TASK, 3, PRICES)
        self.check(SMALL, ("price", 3, PRICES), ("price", 3, PRICES, plan, price_certificate(TASK, 3, PRICES)))
        self.check(SHORTEST, ("price", 1, [1000]), ("price", 1, [1000], [0], (1, 1000, (((), 0), ((0,), 1000)))))

    def test_no_price(self):
        self.check(
            SMALL, ("price", 1, PRICES), ("no price", 1, PRICES, (1, None, (((), 0), ((0,), 5)))))
        self.check(SMALL, ("price", 2, PRICES), ("no price", 2, PRICES, price_certificate(TASK, 2, PRICES)))

    def test_rounds(self):
        self.check(
            FORKED, ("rounds", 3),
            ("rounds", 3, [(0, 1), (2,), (0, 1)], (3, 3, (((),), ((0,), (0, 1), (1,)), ((0, 1, 2),)))))
        self.check(
            SMALL, ("rounds", 4), ("rounds", 4, shortest_schedule(TASK, 4), round_certificate(TASK, 4)))

    def test_no_rounds(self):
        self.check(FORKED, ("rounds", 2), ("no rounds", 2, (2, None, (((),), ((0,), (0, 1), (1,))))))
        self.check(SMALL, ("rounds", 1), ("no rounds", 1, (1, None, (((),), ((0,),)))))

    def test_code(self):
        self.check(SMALL, ("code", CODE), ("code", CODE, PLAN))
        self.check(SHORTEST, ("code", [(5, "+", "-", "0", "1")]), ("code", [(5, "+", "-", "0", "1")], [0]))

    def test_no_code(self):
        self.check(SMALL, ("code", []), ("no code", [], 0, "other outputs"))
        self.check(SMALL, ("code", CODE[:1]), ("no code", CODE[:1], 1, "other outputs"))
        self.check(SMALL, ("code", CODE[1:]), ("no code", CODE[1:], 0, "source holds no step"))
        self.check(SMALL, ("code", CODE[:2] * 2), ("no code", CODE[:2] * 2, 2, "register holds a step"))

    def test_same(self):
        self.check(SMALL, ("same", [], []), ("same", [], []))
        self.check(SMALL, ("same", CODE, list(CODE)), ("same", CODE, CODE))
        self.check(SMALL, ("same", CODE + inverted(CODE), []), ("same", CODE + inverted(CODE), []))

    def test_differ(self):
        self.check(SMALL, ("same", CODE, []), ("differ", CODE, [], [1, 0]))
        self.check(SMALL, ("same", CODE[:-1], CODE), ("differ", CODE[:-1], CODE, [0, 1]))
        self.check(SHORTEST, ("same", [], [(0, "+", "+", "x0", "0")]), ("differ", [], [(0, "+", "+", "x0", "0")], [1]))

    def test_too_many_inputs(self):
        self.assertEqual(fault(answer, MANY, ("same", [], [])), ("too many inputs", -1))
        self.assertEqual(fault(answer, MANY, ("same", CODE, [])), ("too many inputs", -1))
        for question in (("moves", 3), ("price", 3, PRICES), ("rounds", 3), ("code", CODE)):
            self.assertIs(judge(MANY, answer(MANY, question)), True)
        self.assertEqual(answer((64, *EXAMPLE[1:]), ("same", [], [])), ("same", [], []))

    def test_answers_are_the_best_ones_and_hold(self):
        for program in (SMALL, FORKED, SHORTEST, ALL_RETURNED, LONGEST):
            task = task_of(program)
            prices = [3 * k % 7 + 1 for k in range(len(task[0]))]
            for registers in range(1, 9):
                moves, price, rounds = [
                    answer(program, question)
                    for question in (("moves", registers), ("price", registers, prices), ("rounds", registers))]
                plan = shortest_plan(task, registers)
                if plan is None:
                    wanted = ("no moves", "no price", "no rounds")
                    self.assertEqual((moves[0], price[0], rounds[0]), wanted)
                else:
                    self.assertEqual(moves, ("moves", registers, plan, certificate(task, registers)))
                    cheapest = cheapest_plan(task, registers, prices)
                    self.assertEqual(price[:4], ("price", registers, prices, cheapest))
                    self.assertEqual(rounds[:3], ("rounds", registers, shortest_schedule(task, registers)))
                self.assertEqual(judge_all(program, [moves, price, rounds]), [])


class JudgeTest(unittest.TestCase):
    def check(self, claim, wanted, program=SMALL):
        passed = copy.deepcopy(claim)
        self.assertIs(judge(program, passed), wanted, claim)
        self.assertEqual(passed, claim)

    def check_changed(self, claim, changes, program=SMALL):
        """Check that a claim holds, and that none does in which one thing is changed."""
        self.check(claim, True, program)
        for at, other in changes:
            self.check((*claim[:at], other, *claim[at + 1:]), False, program)

    def test_moves(self):
        shown = certificate(TASK, 3)
        self.check_changed(("moves", 3, PLAN, shown), [
            (1, 2), (1, 4), (1, 8), (2, []), (2, PLAN[:-1]), (2, PLAN[1:]), (2, [0, 1, 2, 3, 2, 1, 0]),
            (2, PLAN + [0, 0]), (2, [0, 0] + PLAN), (2, [9] + PLAN), (2, [-1] + PLAN), (2, PLAN[:-1] + [-4]),
            (3, (4, *shown[1:])), (3, (2, *shown[1:])), (3, certificate(TASK, 4)), (3, certificate(TASK, 2)),
            (3, (3, 8, shown[2][:8])), (3, (3, 9, shown[2][:8])), (3, (3, None, shown[2])),
            (3, (3, 9, (((0,),), *shown[2][1:]))), (3, (3, 9, (*shown[2][:4], (), *shown[2][5:])))])

    def test_a_longer_plan_does_not_hold_with_a_certificate_that_is_right(self):
        longer = [0, 0] + PLAN
        levels = certificate(TASK, 3)[2]
        self.check(("moves", 3, longer, (3, 11, (*levels, (), ()))), False)
        self.check(("moves", 3, longer, (3, 11, levels)), False)
        self.check(("moves", 3, longer, (3, 9, levels)), False)

    def test_another_best_plan_and_another_right_certificate_hold(self):
        self.check(("moves", 3, [1, 0, 2, 1, 0], certificate(FORK, 3)), True, FORKED)
        registers, moves, levels = certificate(FORK, 3)
        turned = tuple(level[::-1] for level in levels)
        self.check(("moves", 3, [0, 1, 2, 1, 0], (registers, moves, turned)), True, FORKED)

    def test_no_moves(self):
        shown = certificate(TASK, 2)
        self.check_changed(("no moves", 2, shown), [
            (1, 1), (1, 3), (2, (3, *shown[1:])), (2, (1, *shown[1:])), (2, (2, 5, shown[2])), (2, certificate(TASK, 3)),
            (2, certificate(TASK, 1)), (2, (2, None, shown[2][:-1])), (2, (2, None, (*shown[2], ((3,),))))])
        self.check(("no moves", 1, (1, None, shown[2])), True)
        self.check(("no moves", 3, certificate(TASK, 3)), False)

    def test_price(self):
        plan, shown = cheapest_plan(TASK, 3, PRICES), price_certificate(TASK, 3, PRICES)
        price = price_of(PRICES, plan)
        self.assertEqual(shown[1], price)
        self.check_changed(("price", 3, PRICES, plan, shown), [
            (1, 2), (1, 4), (2, [4, 1, 2, 9]), (2, [5, 1, 2, 8]), (2, [6, 1, 2, 9]), (3, []), (3, plan[:-1]),
            (3, plan + [0, 0]), (3, [7] + plan), (3, [-1] + plan), (3, [0, 1, 2, 3, 2, 1, 0]), (4, (4, *shown[1:])),
            (4, (2, *shown[1:])), (4, (3, price - 1, shown[2])), (4, (3, price + 1, shown[2])), (4, (3, None, shown[2])),
            (4, (3, price, shown[2][1:])), (4, (3, price, shown[2][:-1])), (4, price_certificate(TASK, 4, PRICES)),
            (4, price_certificate(TASK, 3, [5, 1, 3, 9])), (4, price_certificate(TASK, 2, PRICES))])

    def test_another_cheapest_plan_holds(self):
        shown = price_certificate(FORK, 3, [2, 3, 4])
        for plan, wanted in (([0, 1, 2, 0, 1], True), ([1, 0, 2, 0, 1], True), ([0, 1, 2, 0, 1, 1, 1], False)):
            self.check(("price", 3, [2, 3, 4], plan, shown), wanted, FORKED)

    def test_no_price(self):
        shown = price_certificate(TASK, 2, PRICES)
        self.check_changed(("no price", 2, PRICES, shown), [
            (1, 1), (1, 3), (2, [4, 1, 2, 9]), (3, (3, *shown[1:])), (3, (1, *shown[1:])), (3, (2, 1, shown[2])),
            (3, (2, 1000, shown[2])), (3, price_certificate(TASK, 3, PRICES)), (3, (2, None, shown[2][:-1])),
            (3, (2, None, shown[2][1:])), (3, (2, None, (*shown[2], ((3,), 5))))])
        self.check(("no price", 3, PRICES, price_certificate(TASK, 3, PRICES)), False)

    def test_rounds(self):
        schedule, shown = [(0, 1), (2,), (0, 1)], round_certificate(FORK, 3)
        self.check_changed(("rounds", 3, schedule, shown), [
            (1, 2), (1, 4), (2, []), (2, schedule[:-1]), (2, [(0,), (1,), (2,), (0, 1)]), (2, [(1, 0), (2,), (0, 1)]),
            (2, [(0, 1), (2,), (0, 1), ()]), (2, [(0, 1), (2, 3), (0, 1)]), (2, [(-1, 0, 1), (2,), (0, 1)]),
            (2, [(0, 1), (0, 1, 2), (1,)]), (3, (4, *shown[1:])), (3, (2, *shown[1:])), (3, (3, 2, shown[2][:2])),
            (3, (3, None, shown[2])), (3, (3, 3, shown[2][:2])), (3, certificate(FORK, 3)),
            (3, (3, 3, (shown[2][0], ((0,), (1,)), shown[2][2]))), (3, round_certificate(FORK, 2))], FORKED)
        self.check(("rounds", 3, [(0,), (1,), (2,), (0, 1)], (3, 4, (*shown[2], ()))), False, FORKED)

    def test_no_rounds(self):
        shown = round_certificate(FORK, 2)
        self.check_changed(("no rounds", 2, shown), [
            (1, 1), (1, 3), (2, (3, *shown[1:])), (2, (1, *shown[1:])), (2, (2, 2, shown[2])),
            (2, round_certificate(FORK, 3)), (2, (2, None, shown[2][:1])), (2, (2, None, (*shown[2], ((2,),)))),
            (2, certificate(FORK, 2))], FORKED)
        self.check(("no rounds", 3, round_certificate(FORK, 3)), False, FORKED)

    def test_code(self):
        self.check_changed(("code", CODE, PLAN), [
            (1, []), (1, CODE[:-1]), (1, CODE + CODE[:1]), (1, CODE[1:]), (1, CODE + [CODE[0], CODE[2]]), (2, []),
            (2, PLAN[:-1]), (2, PLAN + [0]), (2, [0, 1, 2, 3, 2, 1, 0]), (2, [-1, *PLAN[1:]])])
        self.check(("code", CODE[:1], [0]), False)
        self.check(("code", [], []), False)
        self.check(("code", compiled(SMALL, [0, 1, 2, 3, 2, 1, 0]), [0, 1, 2, 3, 2, 1, 0]), True)

    def test_no_code(self):
        self.check_changed(("no code", CODE[:1], 1, "other outputs"), [
            (1, CODE), (1, []), (1, CODE[:2]), (2, 0), (2, 2), (2, -1), (3, "register holds a step"),
            (3, "no such step"), (3, "")])
        self.check_changed(("no code", CODE[1:], 0, "source holds no step"), [
            (1, CODE), (2, 1), (2, 8), (3, "other outputs"), (3, "no such step")])
        for what in ("other outputs", "no such step"):
            self.check(("no code", CODE, 9, what), False)
            self.check(("no code", CODE, 0, what), False)

    def test_same(self):
        self.check(("same", [], []), True)
        self.check(("same", CODE, CODE), True)
        self.check(("same", CODE + inverted(CODE), []), True)
        self.check(("same", [(0, "+", "+", "x0", "x1")], [(0, "+", "+", "x1", "x0")]), True)
        self.check(("same", CODE, []), False)
        self.check(("same", [], CODE), False)
        self.check(("same", CODE, CODE[:-1]), False)
        self.check(("same", [(0, "+", "+", "x0", "0")], [(1, "+", "+", "x0", "0")]), False)

    def test_differ(self):
        claim = ("differ", CODE[:-1], CODE, [0, 1])
        self.check_changed(claim, [
            (1, CODE), (2, CODE[:-1]), (3, []), (3, [0]), (3, [0, 1, 0]), (3, [0, 1, 1]), (3, [0, 7]), (3, [-1, 1]),
            (3, [0, -1]), (3, [7, 1]), (3, [0, 8]), (3, [0, 0]), (3, [1, 6]), (3, [1])])
        # Any inputs that show a difference will do, not the first ones alone.
        for inputs in ([0, 2], [1, 0], [6, 6], [0, 6], [6, 0]):
            self.check(("differ", CODE[:-1], CODE, inputs), True)
        self.assertEqual(first_difference(SMALL, CODE[:-1], CODE), [0, 1])

    def test_too_many_inputs(self):
        self.assertEqual(fault(judge, MANY, ("same", [], [])), ("too many inputs", -1))
        self.assertEqual(fault(judge, MANY, ("same", CODE, [])), ("too many inputs", -1))
        self.check(("same", CODE, CODE), True, (64, *EXAMPLE[1:]))
        self.assertEqual(fault(judge, (65, *EXAMPLE[1:]), ("same", CODE, CODE)), ("too many inputs", -1))

    def test_differ_does_not_need_all_inputs(self):
        self.check(("differ", CODE, [], [5, 7]), True, MANY)
        self.check(("differ", CODE, [], [96, 96]), True, MANY)
        self.check(("differ", CODE, [], [0, 7]), False, MANY)
        self.check(("differ", CODE, [], [97, 7]), False, MANY)
        self.check(("differ", CODE, CODE, [5, 7]), False, MANY)
        self.check(("differ", [], [(3, "+", "*", "x5", "1")], [0, 0, 0, 0, 0, 1]), True, LONGEST)

    def test_claims_about_another_program(self):
        for question in (("moves", 4), ("price", 4, PRICES), ("rounds", 4), ("code", CODE)):
            claim = answer(SMALL, question)
            self.check(claim, True)
            self.check(claim, False, (7, 2, SMALL[2], (2,)))

    def test_only_the_task_matters_for_plans(self):
        other = (9, 1, (("-", "x0", "x0"), ("-", "s0", "5"), ("-", "6", "s1"), ("-", "s2", "s2")), (3,))
        for question in (("moves", 3), ("price", 3, PRICES), ("rounds", 3), ("moves", 2)):
            self.check(answer(SMALL, question), True, other)


class JudgeAllTest(unittest.TestCase):
    def test_no_claims(self):
        self.assertEqual(judge_all(SMALL, []), [])

    def test_right_and_wrong_claims(self):
        right = [answer(SMALL, question) for question in (
            ("moves", 3), ("moves", 2), ("price", 3, PRICES), ("price", 1, PRICES), ("rounds", 4), ("rounds", 2),
            ("code", CODE), ("code", CODE[:3]), ("same", CODE, CODE), ("same", CODE, []))]
        self.assertEqual(judge_all(SMALL, right), [])
        wrong = [
            ("moves", 4, PLAN, certificate(TASK, 4)), ("no moves", 3, certificate(TASK, 3)),
            ("code", CODE[:3], [0, 1, 0]), ("same", CODE, []), ("differ", CODE, CODE, [0, 0])]
        self.assertEqual(judge_all(SMALL, wrong), [0, 1, 2, 3, 4])
        mixed = right[:1] + wrong[:2] + right[1:6] + wrong[2:3] + right[6:] + wrong[3:]
        self.assertEqual(judge_all(SMALL, mixed), [1, 2, 8, 13, 14])

    def test_a_claim_that_stands_several_times(self):
        wrong = ("no code", CODE, 0, "other outputs")
        self.assertEqual(judge_all(SMALL, [wrong, wrong, answer(SMALL, ("moves", 3)), wrong]), [0, 1, 3])

    def test_too_many_inputs(self):
        self.assertEqual(fault(judge_all, MANY, [("same", [], [])]), ("too many inputs", -1))
        self.assertEqual(
            fault(judge_all, MANY, [("code", CODE, PLAN), ("same", [], [])]), ("too many inputs", -1))
        self.assertEqual(judge_all(MANY, [("code", CODE, PLAN), ("differ", CODE, [], [0, 0])]), [1])

    def test_the_claims_stay_as_they_are_and_the_list_is_new(self):
        claims = [("code", list(CODE), list(PLAN)), ("differ", [], [], [0, 0])]
        passed = copy.deepcopy(claims)
        first = judge_all(SMALL, claims)
        self.assertEqual((first, type(first)), ([1], list))
        first.clear()
        self.assertEqual(judge_all(SMALL, claims), [1])
        self.assertEqual(claims, passed)


if __name__ == "__main__":
    unittest.main()
