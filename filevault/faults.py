"""The refusals, each an error of its own, and the one place where a file is found to be no store."""


class NotAStore(Exception):
    pass


class NothingHeld(Exception):
    pass


class NotThere(Exception):
    pass


def hold(is_so, what):
    if not is_so:
        raise NotAStore(what)
