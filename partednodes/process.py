"""One process: where it stands, whether it lives, and what joins it to others."""

# Numbers of cuts begin with 1, so 0 can't be one.
HOLDS = 0

# What a note in a box begins with.
WORD_CAME = 0
LINKED_ONE_ENDED = 1
WATCHED_ONE_ENDED = 2
END_WAS_SENT = 3


class Process:

    def __init__(self, node):
        self.node = node
        self.lives = True
        self.why = 0
        # 0 or 1, as it is told and answered.
        self.traps = 0
        # To whom: HOLDS, or the number that the link is being cut with.
        self.links = {}
        # Number: whom, in the order in which they began.
        self.watches = {}
        # Number: whose, in the order in which they came.
        self.watched_by = {}
        # Notes of three numbers each, the oldest first.
        self.box = []

    def link_holds(self, q):
        return q in self.links and self.links[q] == HOLDS

    # The box stays, as it was: what came before the end can still be asked for.
    def end_with(self, why):
        self.lives = False
        self.why = why
        self.links = {}
        self.watches = {}
        self.watched_by = {}
