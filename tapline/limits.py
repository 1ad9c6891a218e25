"""The limits of values: numbers of 64 bits, and short texts."""

# Numbers from -2 ** 63 to 2 ** 63 - 1; RANGE is how many there are.
LEAST = -9223372036854775808
GREATEST = 9223372036854775807
RANGE = 18446744073709551616

# Digits of the greatest number; longer ones are refused unread.
MOST_DIGITS = 19

# Characters of the longest text.
LONGEST = 32

# Keys of an array or a table, and values of a trace or say.
MOST_KEYS = 3
MOST_VALUES = 16

# The machine: addresses of a memory, numbers in a register, threads of a run.
ADDRESSES = 256
NUMBERS = 65536
MOST_THREADS = 8

# The byte of a stop.
STOP_BYTE = 255

# What a call gives that can give nothing else, and the code of a thread that ends by a fault.
NO_RESULT = 65535

# Code: its registers are 0 to LAST_REGISTER, and what it names by numbers ends at MOST_INDEX.
LAST_REGISTER = 7
MOST_INDEX = 10000
