"""The refusals of operations, one error class for each error code."""


class BadParameter(Exception):
    pass


class ChoiceIsPossible(Exception):
    pass
