"""The errors that the library raises."""


class SparehandsError(ValueError):
    """Any error of this library."""


class InvalidPerson(SparehandsError):
    """The person is not one for whom the call can be made."""

    def __init__(self, person):
        self.person = person


class InvalidSkill(SparehandsError):
    """The post and the person are not a missing pair."""

    def __init__(self, post, person):
        self.post = post
        self.person = person


class NoRoster(SparehandsError):
    """No roster would fit; the posts are a short set that shows it."""

    def __init__(self, posts):
        self.posts = posts


class TooNarrow(SparehandsError):
    """Too few dropouts could be stood; the posts are a narrow set that shows it."""

    def __init__(self, posts):
        self.posts = posts


class NoPledge(SparehandsError):
    """The pledge cannot be given; the book shows it."""

    def __init__(self, book):
        self.book = book


class Pledged(SparehandsError):
    """The pledge that is in force forbids the call; the book shows it."""

    def __init__(self, book):
        self.book = book
