"""The refusals, one error class each; the calls turn them into their numbers."""


class NotDocument(Exception):
    pass


class NotPointer(Exception):
    pass


class NotOperations(Exception):
    pass


class NotSecondDocument(Exception):
    pass


class Nowhere(Exception):
    pass


class NotDone(Exception):
    pass


class TooLarge(Exception):
    pass
