"""The errors that the package raises."""


class Fault(Exception):
    """A text is no agreement; place tells how many bytes are ahead of the fault."""

    def __init__(self, place):
        self.place = place


class UnknownCall(Exception):
    """A line has a call whose number the program doesn't know."""

    def __init__(self, call):
        self.call = call
