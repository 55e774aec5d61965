"""The fault of a text that is no size's, sheet's or assembly's."""


class Fault(Exception):
    """The first fault of a text: its kind, and its place counted from 0."""

    def __init__(self, kind, place):
        Exception.__init__(self, kind, place)
        self.kind = kind
        self.place = place
