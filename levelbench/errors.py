"""The refusals: one class for each, all straight under BenchError."""


def words_for(saying, thing):
    # Only a text is shown: what Python writes of other things may be very long, or fail.
    if isinstance(thing, str):
        return f"{saying}: {thing!r}"
    return saying


class BenchError(ValueError):
    pass


class NoName(BenchError):
    def __init__(self, name):
        BenchError.__init__(self, words_for("this is no name", name))
        self.name = name


class Twice(BenchError):
    def __init__(self, name):
        BenchError.__init__(self, words_for("this name stands there twice", name))
        self.name = name


class Stranger(BenchError):
    def __init__(self, name):
        BenchError.__init__(self, words_for("this is none of the jobs", name))
        self.name = name


class Ring(BenchError):
    def __init__(self, ring):
        BenchError.__init__(self, f"the orders go round: {ring!r}")
        self.ring = ring


class TooMany(BenchError):
    pass


class NoBench(BenchError):
    pass


class NoText(BenchError):
    pass


class NoRow(BenchError):
    pass


class NoWood(BenchError):
    pass


class NoEnd(BenchError):
    pass


class NoJob(BenchError):
    pass


class NoWindow(BenchError):
    pass


class NoLength(BenchError):
    pass


class NoPaper(BenchError):
    pass


class NoTurns(BenchError):
    pass


class NoLine(BenchError):
    pass
