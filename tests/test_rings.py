"""Point 21: the price of amounts, amounts of least price with the same balances, and heights."""

import itertools
import random
import unittest

from vatyard.rings import cheapest, flow_price

MOST = 10 ** 15
DEAREST = 10 ** 6


def balances(count, arcs, amounts):
    told = [0] * count
    for (start, goal, most), amount in zip(arcs, amounts):
        told[start] -= amount
        told[goal] += amount
    return told


def least_price(count, arcs, prices, wanted):
    """By a search through all amounts."""
    found = []
    for amounts in itertools.product(*[range(most + 1) for start, goal, most in arcs]):
        if balances(count, arcs, amounts) == wanted:
            found.append(sum(price * amount for price, amount in zip(prices, amounts)))
    return min(found)


def some_arcs(chance, count, size, most):
    return [(*chance.sample(range(count), 2), chance.randint(0, most)) for number in range(size)]


class FlowPrice(unittest.TestCase):
    def test_prices(self):
        self.assertEqual(flow_price([], []), 0)
        self.assertEqual(flow_price([7], [0]), 0)
        self.assertEqual(flow_price([7], [3]), 21)
        self.assertEqual(flow_price([7, -2, 0], [3, 5, 9]), 11)
        self.assertEqual(flow_price([-7, -2], [3, 5]), -31)
        self.assertEqual(flow_price([1, 10, 100], [3, 2, 1]), 123)
        self.assertEqual(flow_price([DEAREST] * 3000, [MOST] * 3000), DEAREST * MOST * 3000)

    def test_what_is_handed_in_stays(self):
        prices = [7, -2, 0]
        amounts = [3, 5, 9]
        flow_price(prices, amounts)
        self.assertEqual((prices, amounts), ([7, -2, 0], [3, 5, 9]))


class OfNets(unittest.TestCase):
    def check_heights(self, arcs, prices, amounts, heights):
        self.assertTrue(all(type(height) is int for height in heights))
        for (start, goal, most), price, amount in zip(arcs, prices, amounts):
            if amount < most:
                self.assertLessEqual(heights[goal], heights[start] + price)
            if amount > 0:
                self.assertGreaterEqual(heights[goal], heights[start] + price)

    def check(self, count, arcs, prices, amounts):
        handed = (list(arcs), list(prices), list(amounts))
        told = cheapest(count, *handed)
        self.assertEqual(handed, (arcs, prices, amounts))
        self.assertIs(type(told), tuple)
        self.assertEqual([type(part) for part in told], [list, list])
        found, heights = told
        self.assertEqual((len(found), len(heights)), (len(arcs), count))
        for arc, amount in zip(arcs, found):
            self.assertIs(type(amount), int)
            self.assertTrue(0 <= amount <= arc[2])
        self.assertEqual(balances(count, arcs, found), balances(count, arcs, amounts))
        self.check_heights(arcs, prices, found, heights)
        self.assertLessEqual(flow_price(prices, found), flow_price(prices, amounts))
        return found


class Cheapest(OfNets):
    def test_without_arcs(self):
        for count in (2, 3, 800):
            self.assertEqual(self.check(count, [], [], []), [])

    def test_one_arc_stays(self):
        for price in (-DEAREST, -1, 0, 1, DEAREST):
            for amount in range(4):
                self.assertEqual(self.check(2, [(0, 1, 3)], [price], [amount]), [amount])
            self.assertEqual(self.check(2, [(1, 0, 0)], [price], [0]), [0])

    def test_a_dear_way_and_a_cheap_one(self):
        arcs = [(0, 1, 5), (0, 2, 3), (2, 1, 4)]
        self.assertEqual(self.check(3, arcs, [10, 3, 3], [5, 0, 0]), [2, 3, 3])
        self.assertEqual(self.check(3, arcs, [10, 3, 3], [2, 0, 0]), [0, 2, 2])
        self.assertEqual(self.check(3, arcs, [5, 3, 3], [2, 3, 3]), [5, 0, 0])
        self.assertEqual(self.check(3, arcs, [5, 3, 3], [3, 3, 3]), [5, 1, 1])
        self.assertEqual(self.check(3, arcs, [5, -2, 3], [3, 0, 0]), [0, 3, 3])

    def test_arcs_alike(self):
        arcs = [(0, 1, 2), (0, 1, 2), (0, 1, 2)]
        self.assertEqual(self.check(2, arcs, [3, 1, 2], [2, 0, 1]), [0, 2, 1])
        self.assertEqual(self.check(2, arcs, [3, 1, 2], [2, 1, 2]), [1, 2, 2])
        self.assertEqual(self.check(2, arcs, [-1, -3, 0], [0, 1, 2]), [1, 2, 0])
        self.assertEqual(sum(self.check(2, arcs, [7, 7, 7], [0, 1, 2])), 3)

    def test_arcs_turned_round(self):
        arcs = [(0, 1, 4), (1, 0, 6)]
        self.assertEqual(self.check(2, arcs, [3, -1], [4, 5]), [0, 1])
        self.assertEqual(self.check(2, arcs, [3, -4], [0, 1]), [4, 5])
        self.assertEqual(self.check(2, arcs, [-5, 4], [0, 4]), [2, 6])
        self.assertEqual(self.check(2, arcs, [-5, 4], [1, 0]), [4, 3])
        self.assertEqual(self.check(2, arcs, [-5, -5], [0, 0]), [4, 4])
        told = self.check(2, arcs, [3, -3], [1, 2])
        self.assertEqual(told[1] - told[0], 1)

    def test_arcs_of_most_0(self):
        # what could only go by an arc of most 0 stays where it is
        arcs = [(0, 1, 3), (0, 2, 0), (2, 1, 3)]
        self.assertEqual(self.check(3, arcs, [9, -9, -9], [2, 0, 0]), [2, 0, 0])
        self.assertEqual(self.check(3, arcs, [9, -9, -9], [2, 0, 3]), [2, 0, 3])
        arcs = [(0, 1, 0), (1, 0, 0)]
        self.assertEqual(self.check(2, arcs, [-DEAREST, -DEAREST], [0, 0]), [0, 0])

    def test_rings_below_0(self):
        arcs = [(0, 1, 4), (1, 2, 7), (2, 0, 5)]
        self.assertEqual(self.check(3, arcs, [-3, 1, 1], [0, 0, 0]), [4, 4, 4])
        self.assertEqual(self.check(3, arcs, [-3, 1, 1], [1, 5, 0]), [3, 7, 2])
        self.assertEqual(self.check(3, arcs, [-3, 1, 3], [2, 2, 2]), [0, 0, 0])
        self.assertEqual(self.check(3, arcs, [-DEAREST] * 3, [0, 3, 1]), [4, 7, 5])
        apart = arcs + [(3, 4, 2), (4, 3, 1)]
        self.assertEqual(self.check(5, apart, [1, 1, 1, -9, 8], [4, 4, 4, 0, 0]), [0, 0, 0, 1, 1])

    def test_rings_that_share_an_arc(self):
        # both go through the arc 0, the second one is the better ring
        arcs = [(0, 1, 3), (1, 0, 9), (1, 2, 2), (2, 0, 9)]
        self.assertEqual(self.check(3, arcs, [-5, 2, 1, 0], [0, 0, 0, 0]), [3, 1, 2, 2])
        self.assertEqual(self.check(3, arcs, [-5, 2, 1, 2], [0, 0, 0, 0]), [3, 3, 0, 0])
        self.assertEqual(self.check(3, arcs, [-5, 6, 1, 2], [0, 0, 0, 0]), [2, 0, 2, 2])

    def test_nodes_without_arcs(self):
        self.assertEqual(self.check(9, [(7, 3, 4), (7, 3, 4)], [2, 1], [3, 2]), [1, 4])

    def test_amounts_that_are_no_flow(self):
        # much comes to 1 and 2, and nothing goes from there
        arcs = [(0, 1, 5), (0, 2, 5), (3, 1, 5), (3, 2, 5)]
        self.assertEqual(self.check(4, arcs, [1, 9, 9, 1], [2, 3, 4, 1]), [5, 0, 1, 4])
        self.assertEqual(self.check(4, arcs, [9, 1, 1, 9], [2, 3, 4, 1]), [1, 4, 5, 0])
        self.assertEqual(self.check(4, arcs, [4, 4, 4, 4], [5, 5, 5, 5]), [5, 5, 5, 5])

    def test_the_greatest_numbers(self):
        arcs = [(0, 1, MOST), (1, 2, MOST), (2, 0, MOST)]
        prices = [DEAREST, DEAREST, -DEAREST]
        self.assertEqual(self.check(3, arcs, prices, [MOST] * 3), [0, 0, 0])
        prices = [-DEAREST, DEAREST, -1]
        self.assertEqual(self.check(3, arcs, prices, [0] * 3), [MOST] * 3)
        # one bucket at a time would never end
        arcs = [(0, 1, MOST), (0, 2, MOST), (1, 2, 1), (1, 3, MOST), (2, 3, MOST), (0, 3, 2 * MOST)]
        prices = [0, 0, -1, 1, 1, DEAREST]
        told = self.check(4, arcs, prices, [0, 0, 0, 0, 0, 2 * MOST])
        self.assertEqual(flow_price(prices, told), 2 * MOST)
        self.assertEqual(told[5], 0)

    def test_prices_next_to_one_another(self):
        # where prices are taken roughly first, such as these must still be told apart
        for price in (0, 1, 14, 15, 16, 17, 255, 256, 4095, 65535, 65536, DEAREST - 1):
            for sign in (1, -1):
                arcs = [(0, 1, 3), (0, 1, 3)]
                dear = max(sign * price, sign * (price + 1))
                self.assertEqual(self.check(2, arcs, [dear - 1, dear], [1, 3]), [3, 1])
                self.assertEqual(self.check(2, arcs, [dear, dear - 1], [3, 1]), [1, 3])
                self.assertEqual(self.check(2, [(0, 1, 3), (1, 0, 3)], [dear, -dear + 1], [2, 1]), [1, 0])
                self.assertEqual(self.check(2, [(0, 1, 3), (1, 0, 3)], [dear, -dear - 1], [2, 1]), [3, 2])

    def test_a_long_row(self):
        # 799 steps for nothing are cheaper than one for 1
        arcs = [(node, node + 1, 3) for node in range(799)] + [(0, 799, 5)]
        told = self.check(800, arcs, [0] * 799 + [1], [0] * 799 + [5])
        self.assertEqual(told, [3] * 799 + [2])
        told = self.check(800, arcs, [-DEAREST] * 799 + [-DEAREST], [1] * 799 + [4])
        self.assertEqual(told, [3] * 799 + [2])

    def test_lists_told_are_new_ones(self):
        for arcs, prices, amounts in (
            ([(0, 1, 4), (1, 0, 6)], [3, -1], [4, 5]),
            ([(0, 1, 4), (1, 0, 6)], [0, 0], [4, 5]),
            ([(0, 1, 4), (1, 0, 6)], [1, 0], [0, 0]),
            ([], [], []),
        ):
            first = cheapest(2, arcs, prices, amounts)
            second = cheapest(2, arcs, prices, amounts)
            self.assertEqual(first, second)
            lists = [arcs, prices, amounts, first[0], first[1], second[0], second[1]]
            self.assertEqual(len({id(part) for part in lists}), 7)
            first[0].append(77)
            first[1].append(77)
            self.assertEqual(cheapest(2, arcs, prices, amounts), second)


class AllAmounts(OfNets):
    def test_small_nets(self):
        better = 0
        for seed in range(1500):
            chance = random.Random(seed)
            count = chance.randint(2, 5)
            arcs = some_arcs(chance, count, chance.randint(1, 6), chance.choice((1, 2, 3)))
            dear = chance.choice((1, 3, 20, 300, DEAREST))
            prices = [chance.randint(-dear, dear) for arc in arcs]
            amounts = [chance.randint(0, arc[2]) for arc in arcs]
            told = self.check(count, arcs, prices, amounts)
            least = least_price(count, arcs, prices, balances(count, arcs, amounts))
            self.assertEqual(flow_price(prices, told), least, (count, arcs, prices, amounts))
            better += least < flow_price(prices, amounts)
        self.assertGreater(better, 300)


class GreatNets(OfNets):
    def test_800_nodes_and_3000_arcs(self):
        for seed in range(4):
            chance = random.Random(seed)
            arcs = some_arcs(chance, 800, 3000, (1, MOST, 9, 10 ** 6)[seed])
            dear = (DEAREST, DEAREST, 1, 10)[seed]
            prices = [chance.randint(-dear, dear) for arc in arcs]
            amounts = [chance.randint(0, arc[2]) for arc in arcs]
            told = self.check(800, arcs, prices, amounts)
            self.assertLess(flow_price(prices, told), flow_price(prices, amounts))
            # begun with the cheapest there is nothing to gain
            again = self.check(800, arcs, prices, told)
            self.assertEqual(flow_price(prices, again), flow_price(prices, told))

    def test_nets_of_other_sizes(self):
        for seed in range(60):
            chance = random.Random(seed)
            count = chance.choice((2, 3, 10, 40))
            arcs = some_arcs(chance, count, chance.choice((5, 40, 200)), chance.choice((1, 30, MOST)))
            dear = chance.choice((2, 100, DEAREST))
            prices = [chance.randint(chance.choice((-dear, 0)), dear) for arc in arcs]
            self.check(count, arcs, prices, [chance.choice((0, arc[2], arc[2] // 2)) for arc in arcs])


if __name__ == "__main__":
    unittest.main()
