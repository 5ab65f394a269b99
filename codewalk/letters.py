"""The letters with which the elements of written codes begin, and the string that stands for the file."""

NONE = 78
TRUE = 84
FALSE = 70
SHORT = 105
LONG = 108
TEXT = 117
BYTES = 115
ROW = 40
CODE = 99

FILE = "<tree>"

# The integers that are written as a number of four bytes; all others have digits of 15 bits.
LEAST_SHORT = -2147483648
GREATEST_SHORT = 2147483647
DIGIT = 32767
