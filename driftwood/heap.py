"""A heap: loads kept by ranks, the least rank drawn first."""


# Loads of like rank go by the order in which they were added, and are never looked at.
def goes_ahead(one, two):
    return (one[0], one[1]) < (two[0], two[1])


class Heap:
    def __init__(self):
        # Rows (rank, how many were added ahead of it, load); none goes ahead of the one at half its place.
        self.kept = []
        self.added = 0

    def add(self, rank, load):
        self.kept.append((rank, self.added, load))
        self.added += 1
        self.lift(len(self.kept) - 1)

    def draw(self):
        if len(self.kept) == 0:
            return None
        drawn = self.kept[0]
        last = self.kept.pop()
        if len(self.kept) > 0:
            self.kept[0] = last
            self.sink(0)
        return (drawn[0], drawn[2])

    def first_rank(self):
        if len(self.kept) == 0:
            return None
        return self.kept[0][0]

    def size(self):
        return len(self.kept)

    def swap(self, one, two):
        row = self.kept[one]
        self.kept[one] = self.kept[two]
        self.kept[two] = row

    def lift(self, place):
        while place > 0 and goes_ahead(self.kept[place], self.kept[(place - 1) // 2]):
            self.swap(place, (place - 1) // 2)
            place = (place - 1) // 2

    # Which of a place and the two below it has the row that goes ahead of the others.
    def foremost(self, place):
        best = place
        for below in (2 * place + 1, 2 * place + 2):
            if below < len(self.kept) and goes_ahead(self.kept[below], self.kept[best]):
                best = below
        return best

    def sink(self, place):
        best = self.foremost(place)
        while best != place:
            self.swap(place, best)
            place = best
            best = self.foremost(place)
