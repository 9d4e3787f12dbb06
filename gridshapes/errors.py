"""The errors of the package, those of its later parts among them."""


class ShapeError(ValueError):
    """Above all errors here but TooMany; told is the wrong value, its index, or None."""

    def __init__(self, told):
        # The value itself is not written out: it may be anything, also what cannot be shown.
        ValueError.__init__(self, "a value that is not let here, kept as told")
        self.told = told


class TooMany(OverflowError):
    """More than are let; most is the greatest number let."""

    def __init__(self, most):
        OverflowError.__init__(self, "more than the greatest number let, kept as most")
        self.most = most


class NoNumber(ShapeError):
    """No number, or none that is let."""


class NoVector(ShapeError):
    """No vector, or no vectors as they are due."""


class NoPoint(ShapeError):
    """No point."""


class NoShape(ShapeError):
    """No round shape, or no list of such."""


class NoFine(ShapeError):
    """No fine shape, or no fine point."""


class NoCount(ShapeError):
    """No number of things that is let."""


class NoFraction(ShapeError):
    """No fraction that is let."""


class NoMenu(ShapeError):
    """No list of things to choose from, or one with a wrong thing."""


class NoFloor(ShapeError):
    """No floor, or no list of lying shapes."""


class NoPlace(ShapeError):
    """No place that is let."""


class NoSimple(ShapeError):
    """No simple shape."""


class NoPiece(ShapeError):
    """No pieces."""


class NoWall(ShapeError):
    """No wall."""


class NoCut(ShapeError):
    """No line to cut along."""


class NoMove(ShapeError):
    """No move, no leg, or no row of such."""


class NoMap(ShapeError):
    """No grid map."""


class NoClaim(ShapeError):
    """No claim, or no question."""


class NoThing(ShapeError):
    """No thing, or no value, that can be written."""


class BadText(ShapeError):
    """A text that cannot be read."""


class NoMoment(ShapeError):
    """No moment of a live floor."""


class NothingBack(ShapeError):
    """Nothing that can be taken back or done again."""


class NoLine(ShapeError):
    """No line of a console."""
