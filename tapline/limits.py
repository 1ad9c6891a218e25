"""The limits of values: numbers of 64 bits, and short texts."""

# Numbers from -2 ** 63 to 2 ** 63 - 1; RANGE is how many there are.
LEAST = -9223372036854775808
GREATEST = 9223372036854775807
RANGE = 18446744073709551616

# Digits of the greatest number; longer ones are refused unread.
MOST_DIGITS = 19

# Characters of the longest text.
LONGEST = 32
