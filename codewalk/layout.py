"""Where the instructions of a code stand, when its jumps have their distances."""

from codewalk.encoding import EXTENDED_ARG


def extra_of(argument):
    """How many EXTENDED_ARG an argument needs."""
    if argument < 256:
        return 0
    return (argument.bit_length() - 1) // 8


def extension_of(argument):
    """The bytes of the EXTENDED_ARG of an argument."""
    found = []
    for extra in range(extra_of(argument), 0, -1):
        found.extend([EXTENDED_ARG, argument >> 8 * extra & 255])
    return found


def put_distances(draft):
    """Put the distances of its jumps into a draft, and what these need."""
    far = False
    for at, label, end in draft.jumps:
        distance = abs(draft.labels[label] - end) // 2
        draft.data[at + 1] = distance
        far = far or distance > 255
    if far:
        Layout(draft).spread_out(draft)


class Layout:
    """Where the bytes of a draft stand, as its jumps have grown so far."""

    def __init__(self, draft):
        self.jumps = draft.jumps
        self.places = [at for at, _, _ in self.jumps]
        # Where the labels lead in the draft, and how many jumps stand ahead of there.
        self.labels = {label: (at, self.jumps_ahead(at)) for label, at in draft.labels.items()}
        # The distance of each jump, how many EXTENDED_ARG it has, and how many bytes of these stand ahead of it.
        self.distances = [0] * len(self.jumps)
        self.extras = [0] * len(self.jumps)
        self.shifts = [0] * (len(self.jumps) + 1)
        while self.grow():
            pass

    def jumps_ahead(self, at):
        """How many jumps stand ahead of a byte."""
        low, high = 0, len(self.places)
        while low < high:
            middle = (low + high) // 2
            if self.places[middle] < at:
                low = middle + 1
            else:
                high = middle
        return low

    def grow(self):
        """Measure the jumps, and give those that do not fit what they need now; whether there are some."""
        shifts = self.shifts
        grown = False
        for jump, (_, label, end) in enumerate(self.jumps):
            at, ahead = self.labels[label]
            distance = abs(at + shifts[ahead] - end - shifts[jump + 1]) // 2
            self.distances[jump] = distance
            # A jump over less than 256 units never has too few.
            if distance > 255 and extra_of(distance) > self.extras[jump]:
                self.extras[jump] = extra_of(distance)
                grown = True
        if grown:
            total = 0
            for jump, extra in enumerate(self.extras):
                total += 2 * extra
                shifts[jump + 1] = total
        return grown

    def spread_out(self, draft):
        """Give the draft the bytes with all EXTENDED_ARG in them, and tell it where things stand there."""
        data = []
        done = 0
        for at, distance in zip(self.places, self.distances):
            data.extend(draft.data[done:at])
            data.extend([*extension_of(distance), draft.data[at], distance & 255])
            done = at + 2
        data.extend(draft.data[done:])
        draft.data = data
        draft.labels = {label: at + self.shifts[ahead] for label, (at, ahead) in self.labels.items()}
        draft.lines = self.moved(draft.lines)
        draft.handlers = self.moved(draft.handlers)

    def moved(self, stretches):
        """Stretches of the draft where they stand now."""
        shifts = self.shifts
        return [
            (begin + shifts[self.jumps_ahead(begin)], end + shifts[self.jumps_ahead(end)], held)
            for begin, end, held in stretches
        ]
