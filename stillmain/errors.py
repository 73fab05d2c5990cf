"""The refusals. Each keeps what it is made of, untouched, whatever that is."""


class MainsError(ValueError):
    """Whatever the program refuses."""


class Wrong(MainsError):
    """What was handed in at this place, counted from 0, isn't as told."""

    def __init__(self, at):
        self.at = at


class There(MainsError):
    """Something of this name is there already."""

    def __init__(self, name):
        self.name = name


class Lacks(MainsError):
    """Nothing of this name is there."""

    def __init__(self, name):
        self.name = name


class TooMany(MainsError):
    """There are as many as there may be."""

    def __init__(self, most):
        self.most = most


class InUse(MainsError):
    """Something else needs what is called so."""

    def __init__(self, name):
        self.name = name


class Held(MainsError):
    """The tags of these hands are in the way."""

    def __init__(self, hands):
        self.hands = hands


class Stuck(MainsError):
    """The device of this name would have to move and can't."""

    def __init__(self, name):
        self.name = name


class NoPart(MainsError):
    """Along this way nothing can be shut."""

    def __init__(self, way):
        self.way = way


class NotNow(MainsError):
    """The job isn't in a phase that lets this by."""

    def __init__(self, job):
        self.job = job


class NotDry(MainsError):
    """These rooms are wet."""

    def __init__(self, damp):
        self.damp = damp


class Known(MainsError):
    """Another paper of this number is kept."""

    def __init__(self, number):
        self.number = number


class NoText(MainsError):
    """What was handed in is no text of a deed."""


class NoRow(MainsError):
    """What was handed in is no row of the desk."""
