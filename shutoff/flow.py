"""How much can run along arcs at once, if each arc has so much room and no more."""


class Flow:
    """Arcs between sides that are numbered from 0; an arc and the one back have the numbers arc and arc ^ 1."""

    def __init__(self, sides):
        self.leaving = [[] for side in range(sides)]
        self.heads = []
        self.room = []

    def add_arc(self, tail, head, room):
        self.leaving[tail].append(len(self.heads))
        self.leaving[head].append(len(self.heads) + 1)
        self.heads.extend([head, tail])
        # What runs along an arc may be taken back later: that is the room of the arc back.
        self.room.extend([room, 0])

    def arcs_with_room(self, starts, end):
        """The arcs of a shortest way with room from a start to the end, the last one first; [] if there's none."""
        came_by = dict([(start, None) for start in starts])
        waiting = list(starts)
        place = 0
        while place < len(waiting) and end not in came_by:
            for arc in self.leaving[waiting[place]]:
                head = self.heads[arc]
                if self.room[arc] > 0 and head not in came_by:
                    came_by[head] = arc
                    waiting.append(head)
            place = place + 1
        arcs = []
        arc = came_by.get(end)
        while arc is not None:
            arcs.append(arc)
            arc = came_by[self.heads[arc ^ 1]]
        return arcs

    def push_along(self, arcs):
        """Lets run along the arcs what all of them have room for, and gives back how much that is."""
        amount = min([self.room[arc] for arc in arcs])
        for arc in arcs:
            self.room[arc] = self.room[arc] - amount
            self.room[arc ^ 1] = self.room[arc ^ 1] + amount
        return amount

    def most(self, starts, end):
        """How much can run from the starts, which the end isn't among, to the end."""
        total = 0
        arcs = self.arcs_with_room(starts, end)
        while arcs:
            total = total + self.push_along(arcs)
            arcs = self.arcs_with_room(starts, end)
        return total
