"""[16] to [18]: prices, cheapest plans and price certificates."""

import unittest

import oracle
from oracle import all_tasks, best_plan, configuration_of, distances, edges, number_of, subsets
from samples import CHAIN, FORK, FREE, LONG_CHAIN, TASKS, WIDE
from tidyback.planning import shortest_plan
from tidyback.prices import cheapest_plan, is_right_price, price_certificate, price_of
from tidyback.tasks import look

ONE = (((),), (0,))
# Within 4 registers it is solved by 9 moves, three of them of step 2, and by 11, one of them of step 2.
DETOUR = (((), (0,), (), (2,), (1, 3)), (2, 3, 4))
FORK_PAIRS = (
    ((), 0), ((0,), 2), ((0, 1), 5), ((0, 1, 2), 9), ((0, 2), 12), ((1,), 3), ((1, 2), 11), ((2,), 14))


def uneven(steps):
    return [(7 * step * step + 5) % 11 + 1 for step in range(steps)]


def several_prices(task):
    """Return a few lists of prices of a task."""
    steps = len(task[0])
    rising = [3 * step + 1 for step in range(steps)]
    falling = [1000 - 131 * step for step in range(steps)]
    return [rising, falling, uneven(steps)]


class PriceOfTest(unittest.TestCase):
    def test_the_price_is_the_sum_of_the_prices_of_the_moves(self):
        self.assertEqual(price_of([5], []), 0)
        self.assertEqual(price_of([5], [0]), 5)
        self.assertEqual(price_of([5, 7, 1000], [2, 0, 1, 0]), 1017)
        self.assertEqual(price_of([1] * 8, [7, 6, 5]), 3)

    def test_moves_that_remove_a_step_cost_as_much(self):
        self.assertEqual(price_of([5, 7], [0, 1, 0]), 17)
        self.assertEqual(price_of([5, 7], [0, 0, 0, 0]), 20)

    def test_plans_that_are_not_valid_have_prices(self):
        self.assertEqual(price_of([2, 3, 4], [2, 2, 1]), 11)

    def test_the_lists_stay_as_they_are(self):
        prices, plan = [5, 7], [0, 1, 0]
        price_of(prices, plan)
        self.assertEqual((prices, plan), ([5, 7], [0, 1, 0]))


class CheapestPlanTest(unittest.TestCase):
    def test_prices_that_are_all_alike(self):
        for task in (*TASKS, LONG_CHAIN, WIDE):
            for registers in range(1, 9):
                for price in (1, 1000):
                    found = cheapest_plan(task, registers, [price] * len(task[0]))
                    self.assertEqual(found, shortest_plan(task, registers))

    def test_a_cheapest_plan_with_more_moves_than_the_shortest_one(self):
        self.assertEqual(shortest_plan(DETOUR, 4), [0, 1, 2, 3, 2, 4, 1, 0, 2])
        for price in (3, 4, 1000):
            found = cheapest_plan(DETOUR, 4, [1, 1, price, 1, 1])
            self.assertEqual(found, [0, 1, 0, 2, 3, 4, 3, 0, 1, 0, 3])
            self.assertEqual(price_of([1, 1, price, 1, 1], found), price + 10)

    def test_of_plans_with_the_same_price_the_one_with_fewer_moves_counts(self):
        """Though the other one, of 11 moves, comes first in lexicographic order."""
        prices = [1, 1, 2, 1, 1]
        self.assertEqual(price_of(prices, [0, 1, 0, 2, 3, 4, 3, 0, 1, 0, 3]), 12)
        self.assertEqual(price_of(prices, [0, 1, 2, 3, 2, 4, 1, 0, 2]), 12)
        self.assertEqual(cheapest_plan(DETOUR, 4, prices), [0, 1, 2, 3, 2, 4, 1, 0, 2])

    def test_tasks_of_five_steps_with_uneven_prices(self):
        found = 0
        for task in all_tasks(5)[::41]:
            for registers in (3, 4):
                for prices in ([1, 100, 1, 100, 1], [100, 1, 1, 50, 1], [1, 1, 100, 1, 1]):
                    plan = cheapest_plan(task, registers, prices)
                    self.assertEqual(plan, best_plan(task, registers, prices))
                    if plan is not None:
                        shortest = shortest_plan(task, registers)
                        self.assertLessEqual(price_of(prices, plan), price_of(prices, shortest))
                        found += len(plan) > len(shortest)
        self.assertGreater(found, 0)

    def test_no_plan(self):
        self.assertIsNone(cheapest_plan(CHAIN, 2, [1, 2, 3, 4]))
        self.assertIsNone(cheapest_plan(FORK, 2, [1, 1, 1]))
        self.assertIsNone(cheapest_plan(FREE, 1, [5, 5, 5]))

    def test_of_several_cheapest_plans_the_first_one_counts(self):
        self.assertEqual(cheapest_plan(FORK, 3, [2, 3, 4]), [0, 1, 2, 0, 1])
        self.assertEqual(cheapest_plan(FORK, 3, [3, 2, 4]), [0, 1, 2, 0, 1])
        self.assertEqual(cheapest_plan(FREE, 3, [9, 5, 1]), [0, 1, 2])

    def test_one_step(self):
        self.assertEqual(cheapest_plan(ONE, 1, [1000]), [0])
        self.assertEqual(cheapest_plan(ONE, 8, [1]), [0])

    def test_all_tasks_of_three_steps(self):
        for task in all_tasks(3):
            for registers in (1, 2, 3):
                for prices in ([1, 2, 3], [3, 2, 1], [1000, 1, 1], [1, 999, 2]):
                    found = cheapest_plan(task, registers, prices)
                    self.assertEqual(found, best_plan(task, registers, prices))

    def test_all_tasks_of_the_samples(self):
        for task in (*TASKS, LONG_CHAIN, WIDE, DETOUR):
            for registers in range(1, 9):
                for prices in several_prices(task):
                    found = cheapest_plan(task, registers, prices)
                    self.assertEqual(found, best_plan(task, registers, prices))
                    if found is not None:
                        last, peak, solves = look(task, found)
                        self.assertTrue(solves and last == task[1] and peak <= registers)

    def test_the_lists_stay_as_they_are_and_the_plan_is_new(self):
        prices = [4, 3, 2, 1]
        first = cheapest_plan(CHAIN, 3, prices)
        wanted = list(first)
        self.assertIs(type(first), list)
        first.clear()
        self.assertEqual(cheapest_plan(CHAIN, 3, prices), wanted)
        self.assertEqual(prices, [4, 3, 2, 1])

    def test_numbers_beyond_the_limits(self):
        self.assertEqual(cheapest_plan(CHAIN, 9, [2000] * 4), [0, 1, 2, 3, 2, 1, 0])
        self.assertIsNone(cheapest_plan(CHAIN, 0, [1] * 4))
        self.assertEqual(cheapest_plan((((),) * 10, (3, 9)), 10, [5] * 10), [3, 9])
        self.assertEqual(cheapest_plan(FORK, 3, [0, 0, 0]), [0, 1, 2, 0, 1])


class PriceCertificateTest(unittest.TestCase):
    def test_a_task_with_a_plan(self):
        self.assertEqual(price_certificate(FORK, 3, [2, 3, 4]), (3, 14, FORK_PAIRS))
        self.assertEqual(price_certificate(ONE, 1, [7]), (1, 7, (((), 0), ((0,), 7))))

    def test_a_task_without_a_plan(self):
        self.assertEqual(
            price_certificate(FORK, 2, [2, 3, 4]),
            (2, None, (((), 0), ((0,), 2), ((0, 1), 5), ((1,), 3))))
        self.assertEqual(
            price_certificate(CHAIN, 2, [1, 10, 100, 1000]),
            (2, None, (((), 0), ((0,), 1), ((0, 1), 11), ((1,), 12), ((1, 2), 112))))
        self.assertEqual(price_certificate(CHAIN, 1, [5, 1, 1, 1]), (1, None, (((), 0), ((0,), 5))))

    def test_no_bound_is_greater_than_the_price(self):
        self.assertEqual(
            price_certificate((((), (), ()), (1,)), 8, [9, 4, 3]),
            (8, 4, (((), 0), ((0,), 4), ((0, 2), 4), ((1,), 4), ((1, 2), 4), ((2,), 3))))

    def test_configurations_as_cheap_as_the_targets_lead_nowhere(self):
        self.assertEqual(
            price_certificate((((), (), ()), (1,)), 8, [4, 4, 4]),
            (8, 4, (((), 0), ((0,), 4), ((1,), 4), ((2,), 4))))

    def test_certificates_by_their_words(self):
        for task in (*all_tasks(3), *all_tasks(4)[::31], *TASKS):
            for registers in range(1, 6):
                for prices in several_prices(task):
                    found = price_certificate(task, registers, prices)
                    self.assertEqual(found, self.by_the_words(task, registers, prices))

    def by_the_words(self, task, registers, prices):
        # Run back, a row of transitions from a configuration leads to it from the empty one.
        least = distances(task, registers, prices, 0)
        least = {n: least[n][0] for n in least if n.bit_count() <= registers}
        price = least.get(number_of(task[1]))
        graph = edges(task, registers)
        led = {0}
        for number, own in least.items():
            if price is None or own < price:
                led |= set(graph[number].values())
        pairs = [(configuration_of(n), least[n] if price is None else min(least[n], price)) for n in led]
        return registers, price, tuple(sorted(pairs))

    def test_the_price_is_that_of_the_cheapest_plan(self):
        for task in TASKS:
            for registers in range(1, 9):
                prices = uneven(len(task[0]))
                plan = cheapest_plan(task, registers, prices)
                _, price, _ = price_certificate(task, registers, prices)
                self.assertEqual(price, None if plan is None else price_of(prices, plan))

    def test_the_certificate_is_right(self):
        for task in (*all_tasks(3), *TASKS, LONG_CHAIN, WIDE):
            for registers in range(1, 9):
                for prices in several_prices(task):
                    found = price_certificate(task, registers, prices)
                    self.assertIs(is_right_price(task, prices, found), True)

    def test_the_kinds_and_the_prices_that_are_passed(self):
        prices = [2, 3, 4]
        found = price_certificate(FORK, 3, prices)
        self.assertEqual(prices, [2, 3, 4])
        self.assertEqual([type(each) for each in found], [int, int, tuple])
        for pair in found[2]:
            self.assertEqual([type(pair), type(pair[0]), type(pair[1])], [tuple, tuple, int])

    def test_numbers_beyond_the_limits(self):
        self.assertEqual(price_certificate(ONE, 9, [2000]), (9, 2000, (((), 0), ((0,), 2000))))
        self.assertEqual(price_certificate(ONE, 0, [5]), (0, None, (((), 0),)))


class IsRightPriceTest(unittest.TestCase):
    def check(self, task, prices, given, wanted):
        """Check whether a price certificate is right, and that the oracle says the same."""
        self.assertIs(oracle.is_right_price(task, prices, given), wanted)
        self.assertIs(is_right_price(task, prices, given), wanted)

    def check_fork(self, wanted, without=(), more=(), price=14, registers=3):
        """Check pairs for FORK with the prices 2, 3 and 4."""
        pairs = tuple(pair for pair in FORK_PAIRS if pair[0] not in without) + tuple(more)
        self.check(FORK, [2, 3, 4], (registers, price, pairs), wanted)

    def test_the_empty_configuration(self):
        self.check_fork(True)
        self.check_fork(False, without=[()])
        self.check_fork(False, without=[()], more=[((), 1)])
        self.check_fork(True, without=[()], more=[((), 0)])
        self.check(FORK, [2, 3, 4], (3, 14, ()), False)
        self.check(FORK, [2, 3, 4], (3, 1, (((), 1), ((0,), 1), ((1,), 1))), False)

    def test_the_targets(self):
        self.check_fork(True)
        for bound in (0, 1, 13):
            self.check_fork(False, without=[(2,)], more=[((2,), bound)])
        self.check_fork(False, without=[(2,)], more=[((2,), 15)])
        for bound in (12, 13, 14):
            self.check_fork(True, price=12, without=[(2,)], more=[((2,), bound)])
        self.check_fork(False, price=12, without=[(2,)], more=[((2,), 11)])
        self.check_fork(False, price=12, without=[(2,)], more=[((2,), 15)])

    def test_the_targets_without_a_price(self):
        pairs = (((), 0), ((0,), 2), ((0, 1), 5), ((1,), 3))
        self.check(FORK, [2, 3, 4], (2, None, pairs), True)
        for bound in (0, 14, 10000):
            self.check(FORK, [2, 3, 4], (2, None, (*pairs, ((2,), bound))), False)

    def test_a_transition_that_leads_out_of_the_pairs(self):
        for configuration, _ in FORK_PAIRS[1:]:
            self.check_fork(False, without=[configuration])

    def test_a_transition_to_a_bound_that_is_too_great(self):
        for configuration, bound in FORK_PAIRS[1:]:
            self.check_fork(False, without=[configuration], more=[(configuration, bound + 1)])
            self.check_fork(False, without=[configuration], more=[(configuration, 10000)])

    def test_a_lesser_bound_may_be_right(self):
        self.check_fork(False, without=[(0, 2)], more=[((0, 2), 10)])
        self.check_fork(True, without=[(0,)], more=[((0,), 2)])
        self.check(FREE, [2, 3, 4], (3, 3, (((), 0), ((0,), 1), ((0, 1), 3), ((0, 2), 3), ((1,), 3),
                                            ((2,), 3))), True)

    def test_pairs_whose_bound_is_not_less_than_the_price_lead_anywhere(self):
        self.check_fork(True, price=12, without=[(0, 1, 2), (0, 2), (1, 2)],
                        more=[((0, 1, 2), 9), ((0, 2), 12), ((1, 2), 11), ((2,), 13)])
        self.check_fork(True, price=5, without=[(0, 1, 2), (0, 2), (1, 2)])
        self.check_fork(False, price=6, without=[(0, 1, 2), (0, 2), (1, 2)])
        self.check_fork(True, price=9, without=[(0, 2), (1, 2)])
        self.check_fork(False, price=10, without=[(0, 2), (1, 2)])

    def test_a_less_price_is_right_and_a_greater_one_is_not(self):
        for price in range(1, 15):
            self.check_fork(True, price=price)
        self.check_fork(False, price=15)
        self.check_fork(False, price=None)

    def test_all_pairs_lead_into_the_pairs_without_a_price(self):
        pairs = (((), 0), ((0,), 2), ((0, 1), 5), ((1,), 3))
        self.check(FORK, [2, 3, 4], (2, None, (*pairs, ((0, 2), 10000))), False)
        more = (((0, 2), 10000), ((1, 2), 10000))
        self.check(FORK, [2, 3, 4], (2, None, (*pairs, *more)), False)
        self.check(CHAIN, [1, 1, 1, 1], (1, None, (((), 0), ((0,), 1), ((2, 3), 7))), False)
        self.check(CHAIN, [1, 1, 1, 1], (1, None, (((), 0), ((0,), 1), ((2,), 7))), True)

    def test_the_order_of_the_pairs_is_free(self):
        self.check(FORK, [2, 3, 4], (3, 14, FORK_PAIRS[::-1]), True)
        self.check(FORK, [2, 3, 4], (3, 14, FORK_PAIRS[3:] + FORK_PAIRS[:3]), True)

    def test_configurations_with_more_steps_than_registers(self):
        pairs = (((), 0), ((0,), 2), ((1,), 3))
        self.check(FORK, [2, 3, 4], (1, None, pairs), True)
        self.check(FORK, [2, 3, 4], (1, None, (*pairs, ((0, 1), 0))), False)
        self.check(FORK, [2, 3, 4], (1, None, (*pairs, ((0, 1), 1))), True)
        self.check(FORK, [2, 3, 4], (1, None, (*pairs, ((0, 1, 2), 0))), True)
        self.check(FORK, [2, 3, 4], (1, 10, (*pairs, ((0, 1), 0))), False)
        self.check(FORK, [2, 3, 4], (1, 10, (*pairs, ((0, 1), 1))), True)

    def test_other_prices_than_those_of_the_certificate(self):
        given = (3, 14, FORK_PAIRS)
        self.check(FORK, [2, 3, 4], given, True)
        self.check(FORK, [3, 3, 4], given, True)
        self.check(FORK, [1, 3, 4], given, False)
        self.check(FORK, [2, 3, 3], given, False)
        self.check(FORK, [1000, 1000, 1000], given, True)

    def test_other_numbers_of_registers(self):
        for registers, wanted in ((1, True), (2, True), (3, True), (4, True), (8, True)):
            self.check_fork(wanted, registers=registers)
        pairs = price_certificate(FREE, 2, [1, 1, 1])[2]
        self.check(FREE, [1, 1, 1], (2, None, pairs), True)
        self.check(FREE, [1, 1, 1], (3, None, pairs), False)

    def test_certificates_that_are_changed_a_little(self):
        right = 0
        for task, registers in ((FORK, 3), (FORK, 2), (CHAIN, 3), (FREE, 3)):
            prices = uneven(len(task[0]))
            for given in changed(price_certificate(task, registers, prices), len(task[0])):
                wanted = oracle.is_right_price(task, prices, given)
                self.check(task, prices, given, wanted)
                if wanted:
                    within, price, _ = given
                    plan = best_plan(task, within, prices)
                    self.assertTrue(plan is None or price is not None and price <= price_of(prices, plan))
                    right += 1
        self.assertGreater(right, 50)

    def test_the_list_of_the_prices_stays_as_it_is(self):
        prices = [2, 3, 4]
        is_right_price(FORK, prices, (3, 14, FORK_PAIRS))
        self.assertEqual(prices, [2, 3, 4])


def changed(given, steps):
    """Return price certificates that are like the given one, but for one pair or number."""
    registers, price, pairs = given
    found = [(registers + 1, price, pairs), (registers - 1, price, pairs), (registers, None, pairs)]
    if price is not None:
        found += [(registers, other, pairs) for other in range(1, price + 3)]
    for at, (configuration, bound) in enumerate(pairs):
        found.append((registers, price, pairs[:at] + pairs[at + 1:]))
        for other in (0, bound - 1, bound + 1, bound + 5, 10000):
            if other >= 0:
                found.append((registers, price, (*pairs[:at], (configuration, other), *pairs[at + 1:])))
    present = [configuration for configuration, _ in pairs]
    for configuration in subsets(steps):
        if configuration not in present:
            for bound in (0, 5, 10000):
                found.append((registers, price, (*pairs, (configuration, bound))))
    return found


if __name__ == "__main__":
    unittest.main()
