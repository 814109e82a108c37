"""The refusals, each an error of its own, and the one place where a file is found to be no store."""


class NotAStore(Exception):
    pass


class NothingHeld(Exception):
    pass


class NotThere(Exception):
    pass


# Not a refusal: the document gives these calls an answer that the program does not have yet.
class NotWritten(Exception):
    pass


def hold(is_so, what):
    if not is_so:
        raise NotAStore(what)
