"""A yard: its sources, its recipes and its shelf, and the deeds that are done there."""

from makeyard.errors import Fails, HasRecipe, IsSource, NoRecipe, NoSource, NotThere
from makeyard.recipes import check_sort, worked


def each_once(things):
    seen = {}
    for thing in things:
        seen[thing] = True
    return list(seen)


def first_unknown(things, known):
    for thing in things:
        if thing not in known:
            return thing
    return None


class Recipe:
    def __init__(self, sort, makings):
        self.pair = (sort, tuple(makings))
        # A thing that stands several times is brought up at its first place alone, and has one number at all of them.
        self.steps = each_once(makings)

    def made_of(self, known):
        return worked(self.pair[0], [known[making] for making in self.pair[1]])


class Lot:
    def __init__(self, number, recipe, numbers):
        self.number = number
        self.recipe = recipe
        self.numbers = numbers

    def is_fit(self, recipe, numbers):
        return self.recipe.pair == recipe.pair and self.numbers == numbers


class Yard:
    def __init__(self):
        self.sources = {}
        self.recipes = {}
        self.shelf = {}

    def set_source(self, thing, number):
        if thing in self.recipes:
            raise HasRecipe(f"it has a recipe: {thing}")
        self.sources[thing] = number

    def drop_source(self, thing):
        if thing not in self.sources:
            raise NoSource(f"it is no source: {thing}")
        self.sources.pop(thing)

    def set_recipe(self, thing, sort, makings):
        check_sort(sort)
        if thing in self.sources:
            raise IsSource(f"it is a source: {thing}")
        self.recipes[thing] = Recipe(sort, makings)

    def drop_recipe(self, thing):
        if thing not in self.recipes:
            raise NoRecipe(f"it has no recipe: {thing}")
        self.recipes.pop(thing)

    def lose(self, thing):
        if thing not in self.shelf:
            raise NotThere(f"nothing lies on the shelf of it: {thing}")
        self.shelf.pop(thing)

    def make(self, thing):
        answer = self.ask(thing)
        if answer[0] == "fails":
            word = answer[1]
            trail = answer[2]
            raise Fails(f"{word}: {trail}")
        return answer[1]

    def ask(self, thing):
        known = dict(self.sources)
        trail = [thing]
        told = []
        # A trail in the place of a recursion: how deep things lean is not bounded by how deep calls may go.
        while thing not in known:
            last = trail[-1]
            if last in trail[:-1]:
                return ("fails", "ring", trail, told)
            if last not in self.recipes:
                return ("fails", "missing", trail, told)
            making = first_unknown(self.recipes[last].steps, known)
            if making is not None:
                trail.append(making)
                continue
            number = self.finish(last, known, told)
            if number is None:
                return ("fails", "no way", trail, told)
            known[last] = number
            trail.pop()
        return ("made", known[thing], told)

    def finish(self, thing, known, told):
        recipe = self.recipes[thing]
        numbers = [known[making] for making in recipe.steps]
        lot = self.shelf.get(thing)
        if lot is not None and lot.is_fit(recipe, numbers):
            return lot.number
        number = recipe.made_of(known)
        if number is not None:
            self.shelf[thing] = Lot(number, recipe, numbers)
            told.append(thing)
        return number

    def lying(self):
        return [(thing, self.shelf[thing].number) for thing in sorted(self.shelf)]
