import inspect
import unittest

from makeyard import errors
from makeyard.errors import Fails, HasRecipe, IsSource, NoRecipe, NoSort, NoSource, NotThere
from makeyard.yard import Yard

GREATEST = int("9" * 100)


class YardTest(unittest.TestCase):
    def refuses(self, refusal, method, *arguments):
        for above in (refusal, errors.YardError, ValueError):
            with self.assertRaises(above) as caught:
                method(*arguments)
            self.assertIs(type(caught.exception), refusal)

    def lies(self, yard, thing):
        """Whether something lies on the shelf of it; what lay there is lost by asking so."""
        try:
            yard.lose(thing)
        except NotThere:
            return False
        return True


class Beginning(YardTest):
    def test_there_is_no_source_no_recipe_and_nothing_on_the_shelf(self):
        yard = Yard()
        for thing in (0, 1, GREATEST):
            self.refuses(NoSource, yard.drop_source, thing)
            self.refuses(NoRecipe, yard.drop_recipe, thing)
            self.refuses(NotThere, yard.lose, thing)
            self.refuses(Fails, yard.make, thing)

    def test_two_yards_have_nothing_in_common(self):
        one, other = Yard(), Yard()
        one.set_source(1, 5)
        one.set_recipe(2, "sum", [1, 1])
        one.make(2)
        self.refuses(NoSource, other.drop_source, 1)
        self.refuses(NoRecipe, other.drop_recipe, 2)
        self.refuses(NotThere, other.lose, 2)
        self.refuses(Fails, other.make, 2)
        other.set_source(1, 7)
        other.set_recipe(2, "most", [1])
        self.assertEqual((one.make(2), other.make(2)), (10, 7))
        other.lose(2)
        other.drop_recipe(2)
        other.drop_source(1)
        self.assertEqual(one.make(2), 10)
        one.lose(2)
        self.refuses(NotThere, other.lose, 2)
        later = Yard()
        self.refuses(Fails, later.make, 2)


class Methods(YardTest):
    def test_the_arguments_bear_their_names(self):
        for name, arguments in {
            "set_source": ["thing", "number"],
            "drop_source": ["thing"],
            "set_recipe": ["thing", "sort", "makings"],
            "drop_recipe": ["thing"],
            "lose": ["thing"],
            "make": ["thing"],
        }.items():
            with self.subTest(name=name):
                self.assertEqual(list(inspect.signature(getattr(Yard(), name)).parameters), arguments)
        self.assertEqual(list(inspect.signature(Yard).parameters), [])

    def test_what_makes_nothing_gives_back_nothing(self):
        yard = Yard()
        self.assertIsNone(yard.set_source(1, 4))
        self.assertIsNone(yard.set_recipe(2, "sum", [1]))
        yard.make(2)
        self.assertIsNone(yard.lose(2))
        self.assertIsNone(yard.drop_recipe(2))
        self.assertIsNone(yard.drop_source(1))

    def test_make_gives_back_a_whole_number(self):
        yard = Yard()
        yard.set_source(1, 4)
        yard.set_recipe(2, "sum", [1, 1])
        for thing, number in ((1, 4), (2, 8), (2, 8)):
            self.assertEqual(yard.make(thing), number)
            self.assertIs(type(yard.make(thing)), int)


class Sources(YardTest):
    def test_a_source_is_its_number_of_any_sign(self):
        yard = Yard()
        for number in (0, 1, -1, 12, GREATEST, -GREATEST):
            yard.set_source(3, number)
            self.assertEqual(yard.make(3), number)
            self.assertFalse(self.lies(yard, 3))

    def test_a_source_that_was_dropped_is_neither(self):
        yard = Yard()
        yard.set_source(3, 1)
        yard.drop_source(3)
        self.refuses(Fails, yard.make, 3)
        self.refuses(NoSource, yard.drop_source, 3)
        yard.set_recipe(3, "sum", [])
        self.assertEqual(yard.make(3), 0)

    def test_set_is_refused_where_the_thing_has_a_recipe(self):
        yard = Yard()
        yard.set_recipe(1, "sum", [])
        self.refuses(HasRecipe, yard.set_source, 1, 5)
        self.assertEqual(yard.make(1), 0)
        self.refuses(NoSource, yard.drop_source, 1)
        yard.drop_recipe(1)
        yard.set_source(1, 5)
        self.assertEqual(yard.make(1), 5)

    def test_drop_is_refused_where_the_thing_has_a_recipe_and_is_no_source(self):
        yard = Yard()
        yard.set_recipe(1, "sum", [])
        self.refuses(NoSource, yard.drop_source, 1)
        self.assertEqual(yard.make(1), 0)


class Recipes(YardTest):
    def test_each_sort_in_the_order_of_the_makings(self):
        yard = Yard()
        yard.set_source(1, 9)
        yard.set_source(2, 4)
        for sort, makings, number in (
            ("sum", [1, 2], 13), ("sum", [2, 2, 2], 12), ("sum", [], 0),
            ("most", [2, 1], 9), ("most", [2, 2], 4), ("most", [2], 4),
            ("take", [1, 2], 5), ("take", [1, 2, 2], 1), ("take", [1], 9), ("take", [2, 2], 0),
        ):
            with self.subTest(sort=sort, makings=makings):
                yard.set_recipe(3, sort, makings)
                self.assertEqual(yard.make(3), number)

    def test_each_recipe_that_fails(self):
        yard = Yard()
        yard.set_source(1, 9)
        yard.set_source(2, 4)
        yard.set_source(0, -1)
        for sort, makings in (("most", []), ("take", []), ("take", [2, 1]), ("take", [1, 2, 2, 2]), ("take", [0])):
            with self.subTest(sort=sort, makings=makings):
                yard.set_recipe(3, sort, makings)
                self.refuses(Fails, yard.make, 3)
                self.assertFalse(self.lies(yard, 3))

    def test_no_sort(self):
        yard = Yard()
        for sort in ("", "Sum", "sum ", "min", "mo", "taken"):
            self.refuses(NoSort, yard.set_recipe, 1, sort, [])
            self.refuses(NoRecipe, yard.drop_recipe, 1)

    def test_no_sort_leaves_the_recipe_that_was_there(self):
        yard = Yard()
        yard.set_source(2, 6)
        yard.set_recipe(1, "sum", [2, 2])
        self.refuses(NoSort, yard.set_recipe, 1, "least", [2])
        self.assertEqual(yard.make(1), 12)

    def test_is_source(self):
        yard = Yard()
        yard.set_source(1, 3)
        for sort in ("sum", "most", "take"):
            self.refuses(IsSource, yard.set_recipe, 1, sort, [1])
        self.assertEqual(yard.make(1), 3)
        self.refuses(NoRecipe, yard.drop_recipe, 1)

    def test_no_sort_stands_ahead_of_is_source(self):
        yard = Yard()
        yard.set_source(1, 3)
        self.refuses(NoSort, yard.set_recipe, 1, "least", [1])
        self.assertEqual(yard.make(1), 3)

    def test_strike_is_refused_for_a_source_and_for_what_is_neither(self):
        yard = Yard()
        yard.set_source(1, 3)
        self.refuses(NoRecipe, yard.drop_recipe, 1)
        self.refuses(NoRecipe, yard.drop_recipe, 2)
        self.assertEqual(yard.make(1), 3)

    def test_a_second_strike_is_refused(self):
        yard = Yard()
        yard.set_recipe(1, "sum", [])
        yard.drop_recipe(1)
        self.refuses(NoRecipe, yard.drop_recipe, 1)
        self.refuses(Fails, yard.make, 1)

    def test_the_makings_are_not_changed_and_not_kept(self):
        yard = Yard()
        yard.set_source(1, 10)
        yard.set_source(2, 3)
        makings = [1, 2, 2]
        yard.set_recipe(5, "take", makings)
        makings.append(2)
        self.assertEqual(yard.make(5), 4)
        makings.clear()
        self.assertEqual(yard.make(5), 4)
        yard.lose(5)
        makings.extend([9, 9])
        self.assertEqual(yard.make(5), 4)
        self.assertEqual(makings, [9, 9])

    def test_a_list_that_was_changed_does_not_pass_for_the_one_of_which_it_was_made(self):
        yard = Yard()
        yard.set_source(1, 10)
        yard.set_source(2, 3)
        makings = [1]
        yard.set_recipe(5, "sum", makings)
        self.assertEqual(yard.make(5), 10)
        makings.append(2)
        self.assertEqual(yard.make(5), 10)
        yard.set_recipe(5, "sum", makings)
        self.assertEqual(yard.make(5), 13)
        self.assertEqual(makings, [1, 2])


class Shelf(YardTest):
    def test_a_loss_and_a_second_loss(self):
        yard = Yard()
        yard.set_recipe(1, "sum", [])
        self.refuses(NotThere, yard.lose, 1)
        yard.make(1)
        yard.lose(1)
        self.refuses(NotThere, yard.lose, 1)
        yard.make(1)
        yard.lose(1)
        self.refuses(NotThere, yard.lose, 1)

    def test_a_loss_of_what_became_a_source_or_was_struck(self):
        yard = Yard()
        yard.set_recipe(1, "sum", [])
        yard.make(1)
        yard.drop_recipe(1)
        yard.set_source(1, 7)
        yard.lose(1)
        self.refuses(NotThere, yard.lose, 1)
        self.assertEqual(yard.make(1), 7)

    def test_what_was_made_ahead_of_a_failing_lies_on_the_shelf(self):
        yard = Yard()
        yard.set_source(1, 5)
        yard.set_recipe(2, "sum", [1])
        yard.set_recipe(3, "sum", [1])
        yard.set_recipe(4, "sum", [2, 9, 3])
        self.refuses(Fails, yard.make, 4)
        self.assertTrue(self.lies(yard, 2))
        self.assertFalse(self.lies(yard, 3))
        self.assertFalse(self.lies(yard, 4))


class Making(YardTest):
    def test_a_thing_that_leans_on_itself_fails(self):
        yard = Yard()
        yard.set_recipe(1, "sum", [1])
        self.refuses(Fails, yard.make, 1)
        yard.set_recipe(1, "sum", [2])
        yard.set_recipe(2, "sum", [3])
        yard.set_recipe(3, "sum", [1])
        for thing in (1, 2, 3):
            self.refuses(Fails, yard.make, thing)
        yard.drop_recipe(3)
        yard.set_source(3, 8)
        self.assertEqual(yard.make(1), 8)

    def test_a_yard_goes_on_behind_a_failing(self):
        yard = Yard()
        yard.set_recipe(2, "sum", [1])
        self.refuses(Fails, yard.make, 2)
        self.refuses(Fails, yard.make, 2)
        yard.set_source(1, 5)
        self.assertEqual(yard.make(2), 5)


if __name__ == "__main__":
    unittest.main()
