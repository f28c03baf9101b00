"""The refusals of a yard, one class for each, all under YardError."""


class YardError(ValueError):
    pass


class NoSort(YardError):
    pass


class HasRecipe(YardError):
    pass


class IsSource(YardError):
    pass


class NoSource(YardError):
    pass


class NoRecipe(YardError):
    pass


class NotThere(YardError):
    pass


class Fails(YardError):
    pass
