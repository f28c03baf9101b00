"""What a thing leans on, and what leans on it."""


def reached(steps, thing):
    # The thing itself is found only where the steps come back to it, for only then it leans on itself.
    found = {}
    waiting = [thing]
    while waiting:
        last = waiting.pop()
        for other in steps.get(last, []):
            if other not in found:
                found[other] = True
                waiting.append(other)
    return sorted(found)


def leaned_on(recipes, thing):
    makings_of = {}
    for made, recipe in recipes:
        makings_of[made] = recipe[1]
    return reached(makings_of, thing)


def leaning_on(recipes, thing):
    made_with = {}
    for made, recipe in recipes:
        for making in recipe[1]:
            made_with.setdefault(making, []).append(made)
    return reached(made_with, thing)
