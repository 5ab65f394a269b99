"""Where the instructions of a code stand. How places are told, `arguments.py` says."""

from codewalk.encoding import EXTENDED_ARG


def extra_of(argument):
    """How many EXTENDED_ARG an argument needs."""
    if argument < 256:
        return 0
    return (argument.bit_length() - 1) // 8


def extension_of(argument):
    """The bytes of the EXTENDED_ARG of an argument."""
    found = []
    for extra in range(extra_of(argument), 0, -1):
        found.extend([EXTENDED_ARG, argument >> 8 * extra & 255])
    return found


class Layout:
    """The bytes of a draft with the distances of its jumps, as these have grown so far."""

    def __init__(self, draft):
        self.labels = draft.labels
        self.jumps = draft.jumps
        self.end = (len(draft.data), len(draft.jumps), None)
        # The distance of each jump, how many EXTENDED_ARG it has, and how many bytes of these stand ahead of it.
        self.distances = [0] * len(self.jumps)
        self.extras = [0] * len(self.jumps)
        self.shifts = [0] * (len(self.jumps) + 1)
        while self.grow():
            pass
        self.data = self.written(draft.data) if self.jumps else draft.data

    def grow(self):
        """Measure the jumps, and give those that do not fit what they need now; whether there are some."""
        shifts = self.shifts
        grown = False
        for jump, (_, label, end) in enumerate(self.jumps):
            at, ahead = self.labels[label]
            distance = abs(at + shifts[ahead] - end - shifts[jump + 1]) // 2
            self.distances[jump] = distance
            # A jump over less than 256 units never has too few.
            if distance > 255 and extra_of(distance) > self.extras[jump]:
                self.extras[jump] = extra_of(distance)
                grown = True
        if grown:
            total = 0
            for jump, extra in enumerate(self.extras):
                total += 2 * extra
                shifts[jump + 1] = total
        return grown

    def written(self, data):
        """The bytes of the draft with the distances in them."""
        found = []
        done = 0
        for (at, _, _), distance in zip(self.jumps, self.distances):
            found.extend(data[done:at])
            if distance > 255:
                found.extend(extension_of(distance))
            found.append(data[at])
            found.append(distance & 255)
            done = at + 2
        found.extend(data[done:])
        return found

    def stretches(self, marks):
        """What begins at places that are marked, one behind the other, as rows (begin, end, it), in bytes."""
        shifts = self.shifts
        return [
            (at + shifts[ahead], end + shifts[behind], begun)
            for (at, ahead, begun), (end, behind, _) in zip(marks, [*marks[1:], self.end])
        ]

    def target(self, label):
        """Where a label leads."""
        at, ahead = self.labels[label]
        return at + self.shifts[ahead]
