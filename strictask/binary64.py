"""The bits of a binary64, and its digits, found with whole numbers alone."""

# The bits of what is infinite: the highest exponent, and nothing behind it.
INFINITE_BITS = 9218868437227405312

# 2 to the 53: the least number that 53 bits don't hold.
OVERFULL = 9007199254740992

# The smallest number above 0 is 2 to the power of this, below 0.
SMALLEST = 1074

# Behind the exponent stand 52 bits; the leading one isn't among them.
LEADING_BIT = 4503599627370496

# 10 to the 17: the least number that seventeen digits don't hold.
OVERFULL_DIGITS = 100000000000000000

# With 36 digits at most, a power of ten beyond this one is infinite, or as near to 0 as none.
FARTHEST_TENS = 400


def nearest_bits(whole, tens):
    """The bits of the binary64 nearest to whole times 10 to the tens, of two as near the even one.

    None if that one is infinite. The whole number has 36 digits at most.
    """
    if whole == 0 or tens < -FARTHEST_TENS:
        return 0
    if tens > FARTHEST_TENS:
        return None
    bits = quotient_bits(whole * power_of_ten(tens), power_of_ten(-tens))
    return bits if bits < INFINITE_BITS else None


def power_of_ten(tens):
    """10 to the tens, or 1 if they are below 0."""
    power = 1
    square = 10
    while tens > 0:
        if tens % 2 == 1:
            power *= square
        square *= square
        tens //= 2
    return power


def quotient_bits(above, below):
    """The bits nearest to above divided by below, both more than 0; more than the infinite ones if it is too great."""
    exponent = max(above.bit_length() - below.bit_length() - 53, -SMALLEST)
    if in_units(above, -exponent) // in_units(below, exponent) >= OVERFULL:
        exponent += 1
    top = in_units(above, -exponent)
    bottom = in_units(below, exponent)
    bits = top // bottom
    rest = top % bottom
    if 2 * rest > bottom or (2 * rest == bottom and bits % 2 == 1):
        bits += 1
    # The leading one of the 53 bits, where there is one, adds itself to the exponent that stands above them.
    return ((exponent + SMALLEST) << 52) + bits


def in_units(number, twos):
    """The number times 2 to the twos, or the number itself if they are below 0."""
    return number << max(twos, 0)


def seventeen_digits(bits):
    """A whole number of seventeen digits and the power of ten to take it times, half way up; 0 and 0 for 0.

    Where the digits are rounded up to 10 to the 17, they are eighteen.
    """
    if bits == 0:
        return (0, 0)
    exponent = bits // LEADING_BIT
    whole = bits if exponent == 0 else bits % LEADING_BIT + LEADING_BIT
    twos = max(exponent, 1) - 1 - SMALLEST
    above = in_units(whole, twos)
    below = in_units(1, -twos)
    tens = tens_of(above, below)
    top = above * power_of_ten(-tens)
    bottom = below * power_of_ten(tens)
    return ((2 * top + bottom) // (2 * bottom), tens)


def tens_of(above, below):
    """The power of ten by which above divided by below has seventeen digits before its point."""
    # Two to a power has about 30103 of 100000 as many digits as the power tells: this begins at or below the right one.
    tens = (above.bit_length() - below.bit_length() - 1) * 30103 // 100000 - 17
    while above * power_of_ten(-tens) >= OVERFULL_DIGITS * below * power_of_ten(tens):
        tens += 1
    return tens
