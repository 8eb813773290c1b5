"""The refusals: each has a class of its own, so that a caller can take it by its name alone."""


class MeldError(ValueError):
    pass


class TooManyStrips(MeldError):
    pass


class BadHolder(MeldError):
    pass


class BadWidth(MeldError):
    pass


class NoStrip(MeldError):
    pass


class BadOrder(MeldError):
    pass


class TooManyStands(MeldError):
    pass


class OwnStrip(MeldError):
    pass


class BadPart(MeldError):
    pass


class UnlikeHolders(MeldError):
    pass


class TooWide(MeldError):
    pass


class LikeHolders(MeldError):
    pass


class WishStands(MeldError):
    pass


class TooManyWishes(MeldError):
    pass


class NoWish(MeldError):
    pass


class BookFull(MeldError):
    pass


class NothingDone(MeldError):
    pass


class NoSuchDeed(MeldError):
    pass


class Ringed(MeldError):
    # A copy, so that the error still tells the same ring when the list handed in is changed later.
    def __init__(self, members):
        self.members = list(members)
