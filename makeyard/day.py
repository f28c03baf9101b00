"""A day: deeds done one after the other in a new yard, and how they are answered."""

from makeyard.errors import HasRecipe, IsSource, NoRecipe, NoSort, NoSource, NotThere
from makeyard.yard import Yard


def change(yard, deed):
    kind = deed[0]
    thing = deed[1]
    if kind == "set":
        yard.set_source(thing, deed[2])
    elif kind == "drop":
        yard.drop_source(thing)
    elif kind == "recipe":
        yard.set_recipe(thing, deed[2], deed[3])
    elif kind == "strike":
        yard.drop_recipe(thing)
    else:
        yard.lose(thing)


def change_answer(yard, deed):
    try:
        change(yard, deed)
    except HasRecipe:
        return "has recipe"
    except NoSource:
        return "no source"
    except NoSort:
        return "no sort"
    except IsSource:
        return "is source"
    except NoRecipe:
        return "no recipe"
    except NotThere:
        return "not there"
    return "done"


def answer_to(yard, deed):
    if deed[0] == "make":
        return yard.ask(deed[1])
    return change_answer(yard, deed)


def answers(deeds):
    yard = Yard()
    return [answer_to(yard, deed) for deed in deeds]


def shelf_behind(deeds):
    yard = Yard()
    for deed in deeds:
        answer_to(yard, deed)
    return yard.lying()
