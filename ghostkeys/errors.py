"""What is refused, one class for each kind of refusal."""


class KeyboardError(ValueError):
    """Any refusal."""


class BadBoard(KeyboardError):
    """A board that cannot be."""

    def __init__(self, word, number):
        super().__init__(f"no such board: {word} {number}")
        self.word = word
        self.number = number


class BadChord(KeyboardError):
    """A chord that its board does not have."""

    def __init__(self, place):
        super().__init__(f"no such chord: place {place}")
        self.place = place


class NoReading(KeyboardError):
    """Readings that nothing gives."""

    def __init__(self, moment):
        super().__init__(f"nothing gives this: moment {moment}")
        self.moment = moment


class BadWish(KeyboardError):
    """A wish with a chord that cannot be."""

    def __init__(self, number):
        super().__init__(f"no such wish: chord {number}")
        self.number = number


class BadCount(KeyboardError):
    """A count of keys, rows or columns that cannot be."""


class BadText(KeyboardError):
    """A text that draws no board."""

    def __init__(self, row):
        super().__init__(f"no board is drawn so: row {row}")
        self.row = row
