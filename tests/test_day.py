import inspect
import unittest

from makeyard.day import answers, shelf_behind

GREATEST = int("9" * 100)
LEAST = -GREATEST


class DayTest(unittest.TestCase):
    def check(self, rows, shelf=None):
        """Each row is a deed and its answer."""
        deeds = [deed for deed, _ in rows]
        told = answers(deeds)
        self.assertIs(type(told), list)
        for place, (deed, expected) in enumerate(rows):
            self.assertEqual((place, deed, told[place]), (place, deed, expected))
            self.assertIs(type(told[place]), type(expected))
        self.assertEqual(len(told), len(rows))
        if shelf is not None:
            self.assertEqual(shelf_behind(deeds), shelf)


def set_to(thing, number):
    return (("set", thing, number), "done")


def recipe(thing, sort, makings):
    return (("recipe", thing, sort, makings), "done")


def strike(thing):
    return (("strike", thing), "done")


def drop(thing):
    return (("drop", thing), "done")


def lose(thing):
    return (("lose", thing), "done")


def made(thing, number, told):
    return (("make", thing), ("made", number, told))


def fails(thing, word, trail, told):
    return (("make", thing), ("fails", word, trail, told))


class Answers(DayTest):
    def test_no_deeds(self):
        self.check([], [])

    def test_one_answer_for_each_deed(self):
        self.check([
            set_to(1, 5),
            recipe(2, "sum", [1, 1]),
            made(2, 10, [2]),
            lose(2),
            strike(2),
            drop(1),
        ], [])

    def test_each_refusal_has_its_words(self):
        self.check([
            (("drop", 1), "no source"),
            (("strike", 1), "no recipe"),
            (("lose", 1), "not there"),
            recipe(1, "sum", []),
            (("set", 1, 4), "has recipe"),
            set_to(2, 4),
            (("recipe", 2, "sum", []), "is source"),
            (("recipe", 3, "least", []), "no sort"),
            (("recipe", 2, "least", []), "no sort"),
            (("recipe", 1, "", []), "no sort"),
        ], [])

    def test_the_kinds_of_an_answer(self):
        told = answers([("recipe", 1, "sum", []), ("make", 1), ("make", 2)])
        self.assertIs(type(told[0]), str)
        self.assertEqual([type(part) for part in told[1]], [str, int, list])
        self.assertEqual([type(part) for part in told[2]], [str, str, list, list])

    def test_the_arguments_bear_their_names(self):
        for told in (answers, shelf_behind):
            self.assertEqual(list(inspect.signature(told).parameters), ["deeds"])

    def test_each_day_begins_anew(self):
        deeds = [("set", 1, 5), ("recipe", 2, "sum", [1]), ("make", 2)]
        first = answers(deeds)
        self.assertEqual(answers(deeds), first)
        self.assertEqual(answers([("make", 2), ("lose", 2), ("drop", 1), ("strike", 2)]), [
            ("fails", "missing", [2], []), "not there", "no source", "no recipe",
        ])
        self.assertEqual(shelf_behind([]), [])
        self.assertEqual(shelf_behind(deeds), [(2, 5)])


class Refused(DayTest):
    """What is refused changes nothing."""

    def check_nothing_changed(self, deeds, refused, words):
        probes = [("make", thing) for thing in range(6)]
        probes += [("lose", thing) for thing in range(6)] + [("make", thing) for thing in range(6)]
        probes += [("strike", thing) for thing in range(6)] + [("drop", thing) for thing in range(6)]
        with_it = answers(deeds + [refused] + probes)
        self.assertEqual(with_it[len(deeds)], words)
        self.assertEqual(with_it[:len(deeds)] + with_it[len(deeds) + 1:], answers(deeds + probes))
        self.assertEqual(shelf_behind(deeds + [refused]), shelf_behind(deeds))

    def test_each_refusal(self):
        deeds = [
            ("set", 1, 5), ("set", 2, 3), ("recipe", 3, "take", [1, 2]), ("recipe", 4, "sum", [3, 3]),
            ("make", 4), ("lose", 3), ("set", 2, 4),
        ]
        for refused, words in (
            (("set", 3, 9), "has recipe"),
            (("set", 4, 16), "has recipe"),
            (("drop", 3), "no source"),
            (("drop", 5), "no source"),
            (("recipe", 3, "tak", [1]), "no sort"),
            (("recipe", 5, "sums", []), "no sort"),
            (("recipe", 1, "sums", []), "no sort"),
            (("recipe", 1, "sum", []), "is source"),
            (("recipe", 2, "take", [1]), "is source"),
            (("strike", 1), "no recipe"),
            (("strike", 5), "no recipe"),
            (("lose", 1), "not there"),
            (("lose", 3), "not there"),
            (("lose", 5), "not there"),
        ):
            with self.subTest(refused=refused):
                self.check_nothing_changed(deeds, refused, words)

    def test_no_sort_stands_ahead_of_is_source(self):
        self.check([
            set_to(1, 5),
            (("recipe", 1, "min", [1]), "no sort"),
            (("recipe", 1, "most", [1]), "is source"),
            made(1, 5, []),
            drop(1),
            (("recipe", 1, "min", [1]), "no sort"),
            fails(1, "missing", [1], []),
        ], [])


class Makings(DayTest):
    def test_an_empty_list_of_makings_for_each_sort(self):
        self.check([
            recipe(1, "sum", []),
            made(1, 0, [1]),
            made(1, 0, []),
            recipe(2, "most", []),
            fails(2, "no way", [2], []),
            recipe(3, "take", []),
            fails(3, "no way", [3], []),
            recipe(4, "sum", [1, 2]),
            fails(4, "no way", [4, 2], []),
        ], [(1, 0)])

    def test_a_thing_that_stands_several_times(self):
        self.check([
            set_to(1, 7),
            recipe(2, "sum", [1, 1, 1]),
            recipe(3, "take", [2, 1, 1]),
            recipe(4, "most", [3, 3]),
            recipe(5, "sum", [4, 2, 4, 3, 2]),
            made(5, 63, [2, 3, 4, 5]),
            recipe(6, "take", [2, 2, 2]),
            fails(6, "no way", [6], []),
            recipe(7, "take", [5, 2, 2]),
            made(7, 21, [7]),
        ], [(2, 21), (3, 7), (4, 7), (5, 63), (7, 21)])

    def test_one_time_more_or_fewer_is_another_recipe(self):
        self.check([
            set_to(1, 0),
            recipe(2, "sum", [1, 1]),
            made(2, 0, [2]),
            recipe(2, "sum", [1]),
            made(2, 0, [2]),
            recipe(2, "sum", []),
            made(2, 0, [2]),
            recipe(2, "sum", [1, 1, 1]),
            made(2, 0, [2]),
            made(2, 0, []),
        ], [(2, 0)])

    def test_brought_up_in_the_order_of_the_recipe(self):
        rows = [set_to(9, 1)] + [recipe(thing, "sum", [9]) for thing in (1, 2, 3)]
        self.check(rows + [recipe(5, "sum", [2, 3, 1]), made(5, 3, [2, 3, 1, 5])])
        self.check(rows + [recipe(5, "sum", [3, 1, 3, 2]), made(5, 4, [3, 1, 2, 5])])

    def test_nothing_is_made_ahead_of_its_makings(self):
        self.check([
            recipe(1, "sum", [2, 3]),
            recipe(2, "sum", [4, 5]),
            recipe(3, "sum", [5, 6]),
            recipe(4, "sum", [6]),
            recipe(5, "sum", []),
            recipe(6, "sum", [5]),
            made(1, 0, [5, 6, 4, 2, 3, 1]),
        ])

    def test_numbers_below_nought(self):
        self.check([
            set_to(1, -5),
            set_to(2, -3),
            recipe(3, "sum", [1, 2]),
            recipe(4, "most", [1, 2]),
            recipe(5, "take", [2, 1]),
            recipe(6, "take", [1, 2]),
            made(3, -8, [3]),
            made(4, -3, [4]),
            made(5, 2, [5]),
            fails(6, "no way", [6], []),
        ], [(3, -8), (4, -3), (5, 2)])


class Fit(DayTest):
    """What lies on the shelf is made anew only where it must be."""

    START = [set_to(1, 6), set_to(2, 4), recipe(3, "sum", [1, 2]), recipe(4, "most", [3, 1]), made(4, 10, [3, 4])]

    def test_asking_twice(self):
        self.check(self.START + [made(4, 10, []), made(3, 10, []), made(1, 6, [])], [(3, 10), (4, 10)])

    def test_a_source_that_is_changed(self):
        self.check(self.START + [set_to(2, 5), made(4, 11, [3, 4])], [(3, 11), (4, 11)])

    def test_a_source_that_is_changed_and_changed_back(self):
        self.check(self.START + [set_to(2, 5), set_to(2, 4), made(4, 10, [])])
        self.check(self.START + [drop(2), set_to(2, 4), made(4, 10, [])])

    def test_a_source_that_is_changed_and_changed_back_with_an_asking_between(self):
        # The shelf holds what was made last alone.
        self.check(self.START + [
            set_to(2, 5), made(3, 11, [3]), set_to(2, 4), made(4, 10, [3]), made(4, 10, []),
        ], [(3, 10), (4, 10)])

    def test_set_to_the_number_that_it_was(self):
        self.check(self.START + [set_to(1, 6), made(4, 10, [])])

    def test_numbers_that_changed_places_with_the_same_outcome(self):
        self.check(self.START + [set_to(1, 4), set_to(2, 6), made(4, 10, [3, 4]), made(4, 10, [])])
        self.check(self.START + [set_to(1, 7), set_to(2, 3), made(3, 10, [3]), made(4, 10, [4])])

    def test_a_making_made_anew_with_the_same_outcome(self):
        self.check([
            set_to(1, 6), set_to(2, 4), recipe(3, "most", [1, 2]), recipe(4, "sum", [3]), made(4, 6, [3, 4]),
            set_to(2, 5), made(4, 6, [3]), made(4, 6, []),
        ])

    def test_set_anew_with_the_same_sort_and_makings(self):
        self.check(self.START + [recipe(3, "sum", [1, 2]), made(4, 10, [])])
        self.check(self.START + [strike(3), recipe(3, "sum", [1, 2]), made(4, 10, [])])

    def test_set_anew_with_the_makings_in_another_order(self):
        self.check(self.START + [recipe(3, "sum", [2, 1]), made(4, 10, [3]), made(4, 10, [])])

    def test_set_anew_with_another_order_of_equal_numbers(self):
        self.check([
            set_to(1, 4), set_to(2, 4), recipe(3, "sum", [1, 2]), made(3, 8, [3]),
            recipe(3, "sum", [2, 1]), made(3, 8, [3]), made(3, 8, []),
        ])

    def test_set_anew_with_another_order_of_what_stands_several_times(self):
        self.check([
            set_to(1, 4), set_to(2, 4), recipe(3, "sum", [1, 2, 1]), made(3, 12, [3]),
            recipe(3, "sum", [1, 1, 2]), made(3, 12, [3]),
            recipe(3, "sum", [1, 2, 2]), made(3, 12, [3]), made(3, 12, []),
        ])

    def test_set_anew_with_other_makings_of_equal_numbers(self):
        self.check([
            set_to(1, 4), set_to(2, 4), recipe(3, "sum", [1]), made(3, 4, [3]),
            recipe(3, "sum", [2]), made(3, 4, [3]), made(3, 4, []),
        ])

    def test_set_anew_with_another_sort_of_the_same_outcome(self):
        self.check([
            set_to(1, 4), recipe(2, "sum", [1]), made(2, 4, [2]),
            recipe(2, "most", [1]), made(2, 4, [2]),
            recipe(2, "take", [1]), made(2, 4, [2]), made(2, 4, []),
        ])

    def test_another_recipe_and_back_again(self):
        self.check(self.START + [recipe(3, "take", [1, 2]), recipe(3, "sum", [1, 2]), made(4, 10, [])])
        self.check(self.START + [
            recipe(3, "take", [1, 2]), made(4, 6, [3, 4]), recipe(3, "sum", [1, 2]), made(4, 10, [3, 4]),
        ])

    def test_a_making_that_was_a_source_and_has_a_recipe_now(self):
        self.check(self.START + [
            drop(1), recipe(1, "sum", [2, 5]), set_to(5, 2), made(4, 10, [1]), made(4, 10, []),
        ], [(1, 6), (3, 10), (4, 10)])

    def test_a_making_that_was_made_and_is_a_source_now(self):
        self.check(self.START + [strike(3), set_to(3, 10), made(4, 10, []), made(3, 10, [])], [(3, 10), (4, 10)])
        self.check(self.START + [strike(3), set_to(3, 12), made(4, 12, [4]), made(3, 12, [])], [(3, 10), (4, 12)])

    def test_what_became_a_source_and_has_its_recipe_again(self):
        self.check(self.START + [
            strike(3), set_to(3, 99), made(3, 99, []), drop(3), recipe(3, "sum", [1, 2]), made(4, 10, []),
        ], [(3, 10), (4, 10)])


class Shelf(DayTest):
    START = Fit.START

    def test_a_change_of_a_source_leaves_the_shelf_as_it_is(self):
        for change in (set_to(1, 7), set_to(2, 0), drop(1), drop(2), set_to(9, 9)):
            with self.subTest(change=change):
                self.check(self.START + [change], [(3, 10), (4, 10)])

    def test_a_change_of_a_recipe_leaves_the_shelf_as_it_is(self):
        for change in (strike(3), strike(4), recipe(3, "most", []), recipe(4, "sum", [2]), recipe(1000, "sum", [3])):
            with self.subTest(change=change):
                self.check(self.START + [change], [(3, 10), (4, 10)])

    def test_what_was_struck_is_missing_though_it_lies_on_the_shelf(self):
        self.check(self.START + [strike(3), fails(3, "missing", [3], []), fails(4, "missing", [4, 3], [])],
                   [(3, 10), (4, 10)])

    def test_what_leans_on_a_missing_thing_fails_though_it_lies_on_the_shelf(self):
        self.check(self.START + [drop(2), fails(4, "missing", [4, 3, 2], [])], [(3, 10), (4, 10)])

    def test_a_loss_takes_off_one_thing_alone(self):
        self.check(self.START + [lose(3)], [(4, 10)])
        self.check(self.START + [lose(4)], [(3, 10)])

    def test_what_was_lost_is_made_anew_and_what_leans_on_it_is_not(self):
        self.check(self.START + [lose(3), made(4, 10, [3]), made(4, 10, [])], [(3, 10), (4, 10)])
        self.check(self.START + [lose(4), made(4, 10, [4]), made(4, 10, [])], [(3, 10), (4, 10)])

    def test_a_loss_and_a_second_loss(self):
        self.check(self.START + [
            lose(3), (("lose", 3), "not there"), made(3, 10, [3]), lose(3), (("lose", 3), "not there"),
        ], [(4, 10)])

    def test_a_loss_of_what_was_struck_or_became_a_source(self):
        self.check(self.START + [
            strike(3), lose(3), (("lose", 3), "not there"),
            strike(4), set_to(4, 1), lose(4), (("lose", 4), "not there"), made(4, 1, []),
        ], [])

    def test_a_source_does_not_lie_on_the_shelf(self):
        self.check([set_to(1, 5), made(1, 5, []), (("lose", 1), "not there")], [])

    def test_a_recipe_alone_puts_nothing_on_the_shelf(self):
        self.check([set_to(1, 5), recipe(2, "sum", [1]), (("lose", 2), "not there")], [])

    def test_a_thing_that_fails_leaves_what_lay_there_of_it(self):
        self.check([
            set_to(1, 5), set_to(2, 3), recipe(3, "take", [1, 2]), made(3, 2, [3]),
            set_to(2, 6), fails(3, "no way", [3], []),
            set_to(2, 3), made(3, 2, []),
            recipe(3, "most", []), fails(3, "no way", [3], []),
            recipe(3, "take", [1, 2]), made(3, 2, []),
        ], [(3, 2)])

    def test_pairs_from_the_least_thing_to_the_greatest(self):
        things = [GREATEST, 10, 9, 100, 0, 10 ** 99]
        rows = [recipe(thing, "sum", []) for thing in things] + [made(thing, 0, [thing]) for thing in things]
        self.check(rows, [(thing, 0) for thing in sorted(things)])
        shelf = shelf_behind([deed for deed, _ in rows])
        self.assertIs(type(shelf), list)
        self.assertEqual({type(pair) for pair in shelf}, {tuple})


class Failing(DayTest):
    def test_missing(self):
        self.check([fails(1, "missing", [1], [])], [])
        self.check([recipe(1, "sum", [2]), fails(1, "missing", [1, 2], [])], [])
        self.check([
            recipe(1, "sum", [2]), recipe(2, "most", [3, 4]), set_to(3, 1), fails(1, "missing", [1, 2, 4], []),
        ], [])

    def test_missing_is_come_to_ahead_of_a_recipe_that_would_fail(self):
        self.check([set_to(1, -1), recipe(2, "take", [1, 3]), fails(2, "missing", [2, 3], [])], [])

    def test_ring_straight(self):
        self.check([recipe(1, "sum", [1]), fails(1, "ring", [1, 1], [])], [])
        self.check([set_to(2, 5), recipe(1, "sum", [2, 1, 3]), fails(1, "ring", [1, 1], [])], [])

    def test_ring_through_others(self):
        rows = [recipe(1, "sum", [2]), recipe(2, "sum", [3]), recipe(3, "sum", [1])]
        self.check(rows + [
            fails(1, "ring", [1, 2, 3, 1], []),
            fails(2, "ring", [2, 3, 1, 2], []),
            fails(3, "ring", [3, 1, 2, 3], []),
        ], [])

    def test_ring_below_the_thing_that_is_asked_for(self):
        self.check([
            recipe(0, "sum", [1]), recipe(1, "sum", [2]), recipe(2, "sum", [3]), recipe(3, "sum", [2]),
            fails(0, "ring", [0, 1, 2, 3, 2], []),
        ], [])
        self.check([recipe(1, "sum", [2]), recipe(2, "sum", [2]), fails(1, "ring", [1, 2, 2], [])], [])

    def test_two_ways_to_one_thing_are_no_ring(self):
        self.check([
            recipe(1, "sum", [2, 3]), recipe(2, "sum", [4]), recipe(3, "sum", [4, 2]), recipe(4, "sum", [5]),
            set_to(5, 3), made(1, 9, [4, 2, 3, 1]),
        ])

    def test_a_ring_that_is_not_come_to_does_not_fail(self):
        self.check([
            recipe(1, "sum", [1]), recipe(2, "sum", [3]), set_to(3, 4), made(2, 4, [2]),
            recipe(1, "sum", [2, 1]), fails(1, "ring", [1, 1], []), made(2, 4, []),
        ])

    def test_a_ring_fails_though_all_of_it_lies_on_the_shelf(self):
        self.check([
            set_to(1, 4), recipe(2, "sum", [1]), made(2, 4, [2]),
            drop(1), recipe(1, "sum", [3]), recipe(3, "sum", []), made(1, 0, [3, 1]),
            recipe(3, "sum", [2]), fails(2, "ring", [2, 1, 3, 2], []),
        ], [(1, 0), (2, 4), (3, 0)])

    def test_no_way(self):
        self.check([
            set_to(1, 5), set_to(2, 6), recipe(3, "take", [1, 2]), recipe(4, "sum", [3]), recipe(5, "most", [1, 4]),
            fails(3, "no way", [3], []),
            fails(4, "no way", [4, 3], []),
            fails(5, "no way", [5, 4, 3], []),
        ], [])

    def test_a_failing_in_the_midst_leaves_what_was_made_ahead_of_it(self):
        rows = [
            set_to(1, 5), recipe(2, "sum", [1, 1]), recipe(3, "most", [2]), recipe(4, "sum", [1]),
            recipe(6, "sum", [3, 5, 4]),
        ]
        for sort, makings, word, trail in (
            ("take", [1, 2], "no way", [6, 5]),
            ("most", [], "no way", [6, 5]),
            ("sum", [3, 8], "missing", [6, 5, 8]),
            ("sum", [2, 6], "ring", [6, 5, 6]),
            ("sum", [5], "ring", [6, 5, 5]),
        ):
            with self.subTest(sort=sort, makings=makings):
                self.check(rows + [
                    recipe(5, sort, makings),
                    fails(6, word, trail, [2, 3]),
                    fails(6, word, trail, []),
                ], [(2, 10), (3, 10)])

    def test_what_was_made_ahead_of_a_failing_is_not_made_again(self):
        self.check([
            set_to(1, 5), recipe(2, "sum", [1]), recipe(3, "sum", [2, 4]),
            fails(3, "missing", [3, 4], [2]),
            set_to(4, 1), made(3, 6, [3]),
        ], [(2, 5), (3, 6)])

    def test_the_first_failing_that_is_come_to_is_told(self):
        rows = [recipe(1, "most", []), recipe(2, "sum", [2])]
        self.check(rows + [recipe(4, "sum", [1, 2, 3]), fails(4, "no way", [4, 1], [])])
        self.check(rows + [recipe(4, "sum", [2, 3, 1]), fails(4, "ring", [4, 2, 2], [])])
        self.check(rows + [recipe(4, "sum", [3, 1, 2]), fails(4, "missing", [4, 3], [])])

    def test_things_that_were_brought_up_are_not_on_the_trail(self):
        self.check([
            recipe(1, "sum", []), recipe(2, "sum", [1]), recipe(3, "sum", [2, 1, 9]), recipe(4, "sum", [1, 3]),
            fails(4, "missing", [4, 3, 9], [1, 2]),
        ], [(1, 0), (2, 0)])

    def test_nought_as_a_thing_and_as_a_number(self):
        self.check([
            recipe(1, "sum", [0]), fails(1, "missing", [1, 0], []),
            recipe(0, "sum", [0]), fails(1, "ring", [1, 0, 0], []),
            recipe(0, "take", []), fails(1, "no way", [1, 0], []),
            recipe(0, "sum", []), made(1, 0, [0, 1]), made(1, 0, []), made(0, 0, []),
            lose(0), strike(0), set_to(0, 0), made(1, 0, []), made(0, 0, []), drop(0),
            fails(0, "missing", [0], []),
        ], [(1, 0)])


class Bounds(DayTest):
    def test_a_chain_of_a_hundred_things_and_beyond(self):
        for length in (100, 130, 1500):
            with self.subTest(length=length):
                rows = [recipe(thing, "sum", [thing + 1]) for thing in range(length - 1)]
                last = length - 1
                self.check(rows + [
                    fails(0, "missing", list(range(length)), []),
                    set_to(last, 7),
                    made(0, 7, list(range(last))[::-1]),
                    made(0, 7, []),
                    drop(last),
                    recipe(last, "most", [0]),
                    fails(0, "ring", list(range(length)) + [0], []),
                    recipe(last, "most", []),
                    fails(0, "no way", list(range(length)), []),
                ], [(thing, 7) for thing in range(last)])

    def test_a_recipe_of_a_thousand_makings(self):
        for length in (1000, 1100):
            with self.subTest(length=length):
                self.check([
                    set_to(1, 3), set_to(2, 3 * length),
                    recipe(3, "sum", [1] * length), made(3, 3 * length, [3]), made(3, 3 * length, []),
                    recipe(3, "sum", [1] * (length - 1)), made(3, 3 * length - 3, [3]),
                    recipe(3, "most", [1] * (length - 1) + [2]), made(3, 3 * length, [3]),
                    recipe(3, "take", [2] + [1] * (length - 1)), made(3, 3, [3]),
                    recipe(3, "take", [1] * (length - 1) + [2]), fails(3, "no way", [3], []),
                    recipe(3, "sum", [1] * (length - 1) + [4]), fails(3, "missing", [3, 4], []),
                    recipe(3, "sum", [1] * (length - 1) + [3]), fails(3, "ring", [3, 3], []),
                ], [(3, 3)])

    def test_numbers_of_a_hundred_figures_either_way(self):
        self.check([
            set_to(1, GREATEST), set_to(2, LEAST), set_to(3, GREATEST - 1),
            made(1, GREATEST, []), made(2, LEAST, []),
            recipe(4, "sum", [1, 1]), made(4, 2 * GREATEST, [4]),
            recipe(5, "sum", [2, 2]), made(5, 2 * LEAST, [5]),
            recipe(6, "take", [1, 3]), made(6, 1, [6]),
            recipe(7, "take", [3, 1]), fails(7, "no way", [7], []),
            recipe(8, "most", [3, 1, 2]), made(8, GREATEST, [8]),
            set_to(3, GREATEST), made(6, 0, [6]), made(8, GREATEST, [8]), made(8, GREATEST, []),
        ], [(4, 2 * GREATEST), (5, 2 * LEAST), (6, 0), (8, GREATEST)])

    def test_an_equal_number_is_the_same_number(self):
        self.check([
            set_to(1, int("7" * 100)), recipe(2, "sum", [1]), made(2, int("7" * 100), [2]),
            set_to(1, int("7" * 100)), made(2, int("7" * 100), []),
        ])

    def test_things_told_by_any_whole_numbers(self):
        great = 10 ** 99
        self.check([
            set_to(great, 1), set_to(0, 2), recipe(GREATEST, "sum", [great, 0]), recipe(great + 1, "take", [GREATEST]),
            made(great + 1, 3, [GREATEST, great + 1]),
            (("set", GREATEST, 4), "has recipe"),
            recipe(GREATEST, "sum", [great + 1]),
            fails(great + 1, "ring", [great + 1, GREATEST, great + 1], []),
            strike(GREATEST),
            fails(great + 1, "missing", [great + 1, GREATEST], []),
        ], [(great + 1, 3), (GREATEST, 3)])

    def test_a_day_of_twenty_one_hundred_deeds_and_beyond(self):
        for rounds in (500, 525, 600):
            with self.subTest(rounds=rounds):
                rows = []
                for number in range(rounds):
                    rows += [
                        set_to(1, number),
                        recipe(2, "sum", [1, 1]),
                        made(2, 2 * number, [2]),
                        made(2, 2 * number, []),
                    ]
                self.check(rows, [(2, 2 * rounds - 2)])

    def test_a_day_at_all_bounds_at_once(self):
        # A hundred things, each made of a thousand makings, asked for again and again.
        rows = [set_to(0, 1)]
        rows += [recipe(thing, "most", list(range(thing)) + [0] * (1000 - thing)) for thing in range(1, 100)]
        rows += [made(99, 1, list(range(1, 100)))] + [made(99, 1, []) for _ in range(1999)]
        self.check(rows, [(thing, 1) for thing in range(1, 100)])


class HandedIn(DayTest):
    """Nothing that is handed in is changed or kept, and an answer that was told stays as it was."""

    @staticmethod
    def day(makings):
        return [
            ("set", 1, 9), ("set", 2, 4), ("recipe", 3, "take", makings), ("make", 3), ("recipe", 4, "sum", [3, 5]),
            ("make", 4), ("recipe", 1, "sum", makings), ("recipe", 6, "none", makings),
        ]

    def test_deeds_and_makings_are_as_they_were(self):
        for done in (answers, shelf_behind):
            with self.subTest(done=done.__name__):
                makings = [1, 2, 2]
                deeds = self.day(makings)
                done(deeds)
                self.assertEqual(makings, [1, 2, 2])
                self.assertEqual(deeds, self.day([1, 2, 2]))

    def test_one_list_in_several_deeds(self):
        makings = [1, 1]
        told = answers([
            ("set", 1, 3), ("recipe", 2, "sum", makings), ("recipe", 3, "most", makings), ("make", 2), ("make", 3),
        ])
        self.assertEqual(told[3:], [("made", 6, [2]), ("made", 3, [3])])
        self.assertEqual(makings, [1, 1])

    def test_changing_what_was_handed_in_changes_no_answer(self):
        makings = [1, 2]
        deeds = self.day(makings)
        told = answers(deeds)
        shelf = shelf_behind(deeds)
        makings.append(2)
        deeds.clear()
        self.assertEqual(told, answers(self.day([1, 2])))
        self.assertEqual(shelf, shelf_behind(self.day([1, 2])))

    def test_changing_an_answer_changes_no_other_and_no_later_one(self):
        deeds = [
            ("recipe", 1, "sum", []), ("make", 1), ("make", 1), ("recipe", 2, "sum", [1, 3]), ("make", 2), ("make", 2),
        ]
        told = answers(deeds)
        told[1][2].append(77)
        told[4][2].append(77)
        told[4][3].append(77)
        self.assertEqual(told[2], ("made", 0, []))
        self.assertEqual(told[5], ("fails", "missing", [2, 3], []))
        shelf_behind(deeds).append((77, 77))
        self.assertEqual(shelf_behind(deeds), [(1, 0)])
        self.assertEqual(answers(deeds)[1:], [
            ("made", 0, [1]), ("made", 0, []), "done", ("fails", "missing", [2, 3], []),
            ("fails", "missing", [2, 3], []),
        ])

    def test_an_answer_holds_no_list_twice(self):
        told = answers([("recipe", 1, "sum", []), ("make", 1), ("make", 1), ("make", 2), ("make", 2)])
        lists = [part for answer in told for part in answer if isinstance(part, list)]
        self.assertEqual(len({id(part) for part in lists}), len(lists))


if __name__ == "__main__":
    unittest.main()
