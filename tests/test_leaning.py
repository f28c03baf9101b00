import inspect
import random
import unittest

from makeyard.leaning import leaned_on, leaning_on


def recipes_of(makings_of):
    return [(thing, ("sum", list(makings))) for thing, makings in makings_of.items()]


def closure(makings_of):
    """Every pair (thing, what it leans on), by adding pairs as point 4 says until none is new."""
    pairs = {(thing, making) for thing, makings in makings_of.items() for making in makings}
    while True:
        more = {(a, d) for a, b in pairs for c, d in pairs if b == c} - pairs
        if not more:
            return pairs
        pairs |= more


class Leaning(unittest.TestCase):
    def check(self, makings_of, rows):
        recipes = recipes_of(makings_of)
        for thing, below, above in rows:
            with self.subTest(thing=thing):
                self.assertEqual(leaned_on(recipes, thing), below)
                self.assertEqual(leaning_on(recipes, thing), above)

    def test_makings_and_all_that_these_lean_on(self):
        self.check({5: [4, 2], 4: [3], 3: [9]}, [
            (5, [2, 3, 4, 9], []),
            (4, [3, 9], [5]),
            (3, [9], [4, 5]),
            (9, [], [3, 4, 5]),
            (2, [], [5]),
        ])

    def test_by_two_ways_each_thing_is_told_once(self):
        self.check({1: [3, 2], 2: [4], 3: [4], 4: [5]}, [
            (1, [2, 3, 4, 5], []),
            (4, [5], [1, 2, 3]),
            (5, [], [1, 2, 3, 4]),
        ])

    def test_a_thing_that_stands_several_times_is_told_once(self):
        self.check({1: [2, 2, 3, 2]}, [(1, [2, 3], []), (2, [], [1]), (3, [], [1])])

    def test_no_recipes_and_no_makings(self):
        self.check({}, [(0, [], []), (7, [], [])])
        self.check({1: []}, [(1, [], []), (2, [], [])])

    def test_a_thing_that_none_speaks_of(self):
        self.check({1: [2]}, [(3, [], [])])

    def test_a_thing_leans_on_itself_only_where_it_does(self):
        self.check({1: [1]}, [(1, [1], [1])])
        self.check({1: [2], 2: [1]}, [(1, [1, 2], [1, 2]), (2, [1, 2], [1, 2])])
        self.check({1: [2], 2: [3], 3: [1, 8]}, [(1, [1, 2, 3, 8], [1, 2, 3]), (8, [], [1, 2, 3])])

    def test_what_leans_on_a_ring_is_not_of_the_ring(self):
        self.check({1: [2], 2: [3], 3: [2]}, [
            (1, [2, 3], []),
            (2, [2, 3], [1, 2, 3]),
            (3, [2, 3], [1, 2, 3]),
        ])

    def test_nought_is_a_thing_as_any_other(self):
        self.check({0: [0, 1], 2: [0]}, [(0, [0, 1], [0, 2]), (1, [], [0, 2]), (2, [0, 1], [])])

    def test_from_the_least_to_the_greatest(self):
        great = 10 ** 99
        self.check({50: [100, 9, great, 10, 0]}, [(50, [0, 9, 10, 100, great], [])])
        self.check({100: [7], great: [7], 9: [7], 0: [7], 10: [7]}, [(7, [], [0, 9, 10, 100, great])])

    def test_the_sort_and_the_order_of_the_recipes_do_not_matter(self):
        for sort in ("sum", "most", "take"):
            recipes = [(3, (sort, [4])), (1, (sort, [2])), (2, (sort, [3]))]
            for told in (recipes, recipes[::-1]):
                with self.subTest(sort=sort, told=told):
                    self.assertEqual(leaned_on(told, 1), [2, 3, 4])
                    self.assertEqual(leaning_on(told, 4), [1, 2, 3])

    def test_a_chain_of_a_hundred_things_and_beyond(self):
        for length in (100, 130, 3000):
            with self.subTest(length=length):
                recipes = [(thing, ("sum", [thing + 1])) for thing in range(length - 1)]
                self.assertEqual(leaned_on(recipes, 0), list(range(1, length)))
                self.assertEqual(leaning_on(recipes, length - 1), list(range(length - 1)))

    def test_a_hundred_recipes_of_a_thousand_makings(self):
        makings = list(range(100)) * 10
        recipes = [(thing, ("most", makings)) for thing in range(100)]
        self.assertEqual(leaned_on(recipes, 37), list(range(100)))
        self.assertEqual(leaning_on(recipes, 37), list(range(100)))

    def test_as_the_closure_tells_it(self):
        chance = random.Random(4)
        for round_number in range(150):
            size = chance.randint(1, 8)
            makings_of = {
                thing: [chance.randrange(size) for _ in range(chance.randint(0, 3))]
                for thing in range(size) if chance.random() < 0.7
            }
            pairs = closure(makings_of)
            self.check(makings_of, [
                (thing, sorted(b for a, b in pairs if a == thing), sorted(a for a, b in pairs if b == thing))
                for thing in range(size)
            ])

    def test_nothing_that_is_handed_in_is_changed(self):
        for told in (leaned_on, leaning_on):
            with self.subTest(told=told.__name__):
                recipes = [(2, ("sum", [1, 3, 1])), (1, ("take", [2])), (3, ("most", []))]
                told(recipes, 1)
                self.assertEqual(recipes, [(2, ("sum", [1, 3, 1])), (1, ("take", [2])), (3, ("most", []))])

    def test_nothing_is_kept_and_an_answer_stays_as_it_was(self):
        makings = [2]
        recipes = [(1, ("sum", makings))]
        below, above = leaned_on(recipes, 1), leaning_on(recipes, 2)
        makings.append(3)
        recipes.append((4, ("sum", [2])))
        self.assertEqual((below, above), ([2], [1]))
        self.assertEqual((leaned_on(recipes, 1), leaning_on(recipes, 2)), ([2, 3], [1, 4]))
        below.append(77)
        above.append(77)
        self.assertEqual((leaned_on(recipes, 1), leaning_on(recipes, 2)), ([2, 3], [1, 4]))
        self.assertEqual(makings, [2, 3])
        leaned_on(recipes, 9).append(5)
        self.assertEqual(leaned_on(recipes, 9), [])

    def test_an_answer_is_no_list_that_was_handed_in(self):
        makings = [1]
        recipes = [(1, ("sum", makings))]
        leaned_on(recipes, 1).append(2)
        leaning_on(recipes, 1).append(2)
        self.assertEqual(makings, [1])

    def test_the_arguments_bear_their_names(self):
        for told in (leaned_on, leaning_on):
            self.assertEqual(list(inspect.signature(told).parameters), ["recipes", "thing"])


if __name__ == "__main__":
    unittest.main()
