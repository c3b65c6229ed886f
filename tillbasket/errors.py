"""The refusals of the program."""


class TillError(ValueError):
    """Any refusal."""


class BadKinds(TillError):
    """The kinds of a shop are no list, or too few or too many."""


class BadName(TillError):
    """A kind is no pair, or its name is none."""


class Twice(TillError):
    """A kind has the name of one ahead of it."""


class BadPrice(TillError):
    """A kind's price is none."""


class BadBasket(TillError):
    """This is no basket of the shop."""


class TooMany(TillError):
    """Too many baskets are within a basket."""


class BadOffer(TillError):
    """This is no offer."""


class NoKind(TillError):
    """The shop has no kind of this name."""


class NoOffer(TillError):
    """This text is not what is written for an offer."""
