"""What the house has, and what it had before its last changes."""

CHANGES_KEPT = 12


class House:
    def __init__(self):
        # No prime is 0: so long as it is, no begin was answered 0.
        self.prime = 0
        self.place = 0
        self.beside = 0
        self.terms = []
        self.points = []
        self.classes = 0
        self.root = 0
        self.earlier = []

    def picture(self):
        return (
            self.prime,
            self.place,
            self.beside,
            tuple(self.terms),
            tuple(self.points),
            self.classes,
            self.root,
        )

    def restore(self, old):
        self.prime = old[0]
        self.place = old[1]
        self.beside = old[2]
        self.terms = list(old[3])
        self.points = list(old[4])
        self.classes = old[5]
        self.root = old[6]

    def remember(self, old):
        self.earlier.append(old)
        if len(self.earlier) > CHANGES_KEPT:
            self.earlier.pop(0)
