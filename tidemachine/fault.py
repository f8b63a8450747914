"""What a text is refused for, in the words that machines' and skies' texts share."""

GRAMMAR = 1
NAME_TWICE = 2


# A text's fault: its kind, and its place as how many bytes stand before it.
class Fault(Exception):
    def __init__(self, kind, place):
        Exception.__init__(self)
        self.kind = kind
        self.place = place
