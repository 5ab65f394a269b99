"""Where the instructions of a code stand, all numbers in units of two bytes.

An INSTRUCTION is a tuple (word, its number in bytes, the caches behind it, argument, line, handler); the argument of a
jump is its label.
"""

from codewalk.encoding import EXTENDED_ARG
from codewalk.words import LEADING


def extra_of(argument):
    """How many EXTENDED_ARG an argument needs."""
    if argument < 256:
        return 0
    return (argument.bit_length() - 1) // 8


def instruction_bytes(number, argument, caches):
    """The bytes of an instruction, with its EXTENDED_ARG and caches."""
    found = []
    if argument > 255:
        for extra in range(extra_of(argument), 0, -1):
            found.extend([EXTENDED_ARG, argument >> 8 * extra & 255])
    found.extend([number, argument & 255])
    if caches:
        found.extend([0] * (2 * caches))
    return found


class Layout:
    """The places of instructions, as the jumps among them have grown so far."""

    def __init__(self, instructions, labels):
        self.instructions = instructions
        self.labels = labels
        # Where each instruction begins as long as no jump needs an EXTENDED_ARG, and the end of the code.
        self.begins = []
        # How many jumps stand ahead of each.
        self.ahead = []
        self.jumps = []
        at = 0
        for number, instruction in enumerate(instructions):
            self.begins.append(at)
            self.ahead.append(len(self.jumps))
            word, _, caches, argument, _, _ = instruction
            if word in LEADING:
                self.jumps.append(number)
            elif argument > 255:
                at += extra_of(argument)
            at += caches + 1
        self.begins.append(at)
        self.ahead.append(len(self.jumps))
        # For each jump how many EXTENDED_ARG it has, and how many it has with all jumps ahead of it.
        self.extras = [0] * len(self.jumps)
        self.shifts = [0] * (len(self.jumps) + 1)
        while self.grow():
            pass

    def begin(self, number):
        """Where an instruction begins, with its EXTENDED_ARG."""
        return self.begins[number] + self.shifts[self.ahead[number]]

    def distance(self, jump):
        """The distance of a jump, from its end."""
        number = self.jumps[jump]
        return abs(self.begin(self.labels[self.instructions[number][3]]) - self.begin(number + 1))

    def grow(self):
        """Give the jumps that do not fit as many EXTENDED_ARG as they need now; whether there are some."""
        grown = False
        for jump in range(len(self.jumps)):
            distance = self.distance(jump)
            # A jump over less than 256 units never has too few.
            if distance > 255 and extra_of(distance) > self.extras[jump]:
                self.extras[jump] = extra_of(distance)
                grown = True
        if grown:
            total = 0
            for jump, extra in enumerate(self.extras):
                total += extra
                self.shifts[jump + 1] = total
        return grown

    def code_bytes(self):
        """The bytes of all instructions, with EXTENDED_ARG and caches."""
        found = []
        jump = 0
        for word, number, caches, argument, _, _ in self.instructions:
            if word in LEADING:
                argument = self.distance(jump)
                jump += 1
            found.extend(instruction_bytes(number, argument, caches))
        return found
