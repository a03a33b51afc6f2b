"""The refusals: an error class for each, with the numbers that a refused call answers."""


class Refusal(Exception):
    """A call that is refused; it changes nothing."""

    def __init__(self, answer):
        self.answer = answer


class NoGame(Refusal):
    """There is no game yet."""

    def __init__(self):
        Refusal.__init__(self, [-4])


class Fault(Refusal):
    """A game's bytes are not as they must be, from a place on."""

    def __init__(self, place):
        Refusal.__init__(self, [-1, place])


class TooLarge(Refusal):
    """A game has more numbers of positions than are taken."""

    def __init__(self):
        Refusal.__init__(self, [-2])


class NotRight(Refusal):
    """A position is not right, or a number is not that of a right one."""

    def __init__(self):
        Refusal.__init__(self, [-2])


class NoOutcome(Refusal):
    """What is asked for is none of the outcomes that there may be."""

    def __init__(self):
        Refusal.__init__(self, [-2])


class NoSide(Refusal):
    """There is no such side."""

    def __init__(self):
        Refusal.__init__(self, [-2])


class NotKnown(Refusal):
    """A position's value is not known yet."""

    def __init__(self):
        Refusal.__init__(self, [-3])


class NotSolved(Refusal):
    """The game is not solved yet."""

    def __init__(self):
        Refusal.__init__(self, [-3])


class NotFound(Refusal):
    """No position has the value that is asked for."""

    def __init__(self):
        Refusal.__init__(self, [-1])


class OtherLength(Refusal):
    """A table has another count of bytes than that of the game."""

    def __init__(self):
        Refusal.__init__(self, [-1])


class NoMove(Refusal):
    """What was to be played is no move of the position."""

    def __init__(self):
        Refusal.__init__(self, [-5])


class AtEnd(Refusal):
    """The position is at its end and so has no best move."""

    def __init__(self):
        Refusal.__init__(self, [-6])


class Drawn(Refusal):
    """The position is a draw and so has no line to an end."""

    def __init__(self):
        Refusal.__init__(self, [-7])
