"""Days of chance deeds, held against a plain telling of the document, point by point."""

import random
import unittest

from makeyard import errors
from makeyard.day import answers, shelf_behind
from makeyard.yard import Yard

REFUSALS = {
    "has recipe": errors.HasRecipe, "no source": errors.NoSource, "no sort": errors.NoSort,
    "is source": errors.IsSource, "no recipe": errors.NoRecipe, "not there": errors.NotThere, "fails": errors.Fails,
}
METHODS = {
    "set": "set_source", "drop": "drop_source", "recipe": "set_recipe", "strike": "drop_recipe", "lose": "lose",
    "make": "make",
}


def point_3(sort, numbers):
    if sort == "sum":
        return sum(numbers)
    if not numbers:
        return None
    if sort == "most":
        return sorted(numbers)[-1]
    left = numbers[0]
    for number in numbers[1:]:
        left -= number
    return None if left < 0 else left


class Stop(Exception):
    def __init__(self, word, trail):
        super().__init__(word)
        self.word = word
        self.trail = trail


class Telling:
    def __init__(self):
        self.sources, self.recipes, self.shelf = {}, {}, {}

    def answer(self, deed):
        return getattr(self, deed[0])(*deed[1:])

    def set(self, thing, number):
        if thing in self.recipes:
            return "has recipe"
        self.sources[thing] = number
        return "done"

    def drop(self, thing):
        return "no source" if self.sources.pop(thing, None) is None else "done"

    def recipe(self, thing, sort, makings):
        if sort not in ("sum", "most", "take"):
            return "no sort"
        if thing in self.sources:
            return "is source"
        self.recipes[thing] = (sort, list(makings))
        return "done"

    def strike(self, thing):
        return "no recipe" if self.recipes.pop(thing, None) is None else "done"

    def lose(self, thing):
        return "not there" if self.shelf.pop(thing, None) is None else "done"

    def make(self, thing):
        told = []
        try:
            return ("made", self.bring_up(thing, [], {}, told, self.shelf), told)
        except Stop as stop:
            return ("fails", stop.word, stop.trail, told)

    def bring_up(self, thing, ahead, brought, told, shelf):
        trail = ahead + [thing]
        if thing in ahead:
            raise Stop("ring", trail)
        if thing in self.sources:
            return self.sources[thing]
        if thing in brought:
            return brought[thing]
        if thing not in self.recipes:
            raise Stop("missing", trail)
        sort, makings = self.recipes[thing]
        numbers = [self.bring_up(making, trail, brought, told, shelf) for making in makings]
        if thing not in shelf or shelf[thing][1:] != (sort, makings, numbers):
            number = point_3(sort, numbers)
            if number is None:
                raise Stop("no way", trail)
            shelf[thing] = (number, sort, list(makings), numbers)
            told.append(thing)
        brought[thing] = shelf[thing][0]
        return brought[thing]

    def from_the_sources(self, thing):
        """Point 10: what making everything from the sources would give, with an empty shelf."""
        return self.bring_up(thing, [], {}, [], {})


def word_of(answer):
    return answer if isinstance(answer, str) else answer[0]


def chance_recipe(chance, things):
    place = chance.randrange(len(things))
    # Mostly of things ahead of it, or nearly all would lean on themselves.
    makings_from = things if place == 0 or chance.random() < 0.1 else things[:place]
    sort = chance.choices(["sum", "most", "take", "least"], [8, 6, 4, 1])[0]
    makings = [chance.choice(makings_from) for _ in range(chance.choice([0, 1, 2, 2, 3, 3, 4, 5]))]
    return ("recipe", things[place], sort, makings)


def chance_deed(chance, things):
    kind = chance.choices(["set", "drop", "recipe", "strike", "lose", "make"], [8, 1, 9, 1, 3, 12])[0]
    if kind == "recipe":
        return chance_recipe(chance, things)
    if kind == "set":
        return (kind, chance.choice(things if chance.random() < 0.1 else things[:3]), chance.randint(-1, 4))
    return (kind, chance.choice(things if chance.random() < 0.5 else things[-2:]))


def chance_day(seed):
    chance = random.Random(seed)
    things = chance.sample([0, 1, 2, 3, 5, 8, 13, 21, 99, 10 ** 99, 10 ** 100 - 1], chance.randint(2, 11))
    deeds = [("set", thing, chance.randint(0, 4)) for thing in things[:3]]
    return deeds + [chance_deed(chance, things) for _ in range(chance.randint(1, 120))]


DAYS = [chance_day(seed) for seed in range(400)]


class Promises(unittest.TestCase):
    def test_the_days_come_to_every_answer(self):
        told = [answer for deeds in DAYS for answer in answers(deeds)]
        self.assertEqual({word_of(answer) for answer in told}, {"done", "made"} | set(REFUSALS))
        self.assertEqual({answer[1] for answer in told if word_of(answer) == "fails"}, {"missing", "ring", "no way"})

    def test_answers_and_shelf_are_as_told(self):
        for seed, deeds in enumerate(DAYS):
            with self.subTest(seed=seed):
                telling = Telling()
                self.assertEqual(answers(deeds), [telling.answer(deed) for deed in deeds])
                self.assertEqual(shelf_behind(deeds),
                                 sorted((thing, lying[0]) for thing, lying in telling.shelf.items()))

    def test_the_methods_of_a_yard_do_the_same(self):
        for seed, deeds in enumerate(DAYS):
            yard = Yard()
            for place, (deed, answer) in enumerate(zip(deeds, answers(deeds))):
                with self.subTest(seed=seed, place=place):
                    self.check_method(yard, deed, answer)

    def check_method(self, yard, deed, answer):
        method = getattr(yard, METHODS[deed[0]])
        refusal = REFUSALS.get(word_of(answer))
        if refusal is None:
            self.assertEqual(method(*deed[1:]), answer[1] if deed[0] == "make" else None)
            return
        with self.assertRaises(errors.YardError) as caught:
            method(*deed[1:])
        self.assertIs(type(caught.exception), refusal)

    def test_nothing_is_made_twice_in_a_call_or_again_at_once(self):
        for seed, deeds in enumerate(DAYS):
            twice = [deed for deed in deeds for _ in range(2 if deed[0] == "make" else 1)]
            told = answers(twice)
            for place, deed in enumerate(twice):
                if deed[0] == "make":
                    with self.subTest(seed=seed, place=place):
                        self.assertEqual(len(set(told[place][-1])), len(told[place][-1]))
                        if place and twice[place - 1] is deed:
                            self.assertEqual(told[place], told[place - 1][:-1] + ([],))

    def test_what_is_told_is_what_making_everything_from_the_sources_would_give(self):
        for seed, deeds in enumerate(DAYS):
            telling = Telling()
            for place, (deed, answer) in enumerate(zip(deeds, answers(deeds))):
                telling.answer(deed)
                if answer[0] == "made":
                    with self.subTest(seed=seed, place=place):
                        self.assertEqual(answer[1], telling.from_the_sources(deed[1]))

    def test_what_is_refused_changes_nothing(self):
        for seed, deeds in enumerate(DAYS):
            told = answers(deeds)
            # A make that fails may have made things ahead of its failing.
            left = [place for place in range(len(deeds)) if word_of(told[place]) in ("done", "made", "fails")]
            with self.subTest(seed=seed):
                kept = [deeds[place] for place in left]
                self.assertEqual(answers(kept), [told[place] for place in left])
                self.assertEqual(shelf_behind(kept), shelf_behind(deeds))


if __name__ == "__main__":
    unittest.main()
