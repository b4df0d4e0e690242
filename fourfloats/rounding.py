"""Singles and halves by their bits: what they are worth, and numbers rounded to them."""

SIGN = 0x80000000
MAGNITUDE = 0x7FFFFFFF
INFINITY = 0x7F800000
NO_NUMBER = 0x7FC00000
ONE = 0x3F800000

# Every finite single is a whole number times 2^LEAST, every finite half one times 2^LEAST_HALF.
LEAST = -149
LEAST_HALF = -24
DIGITS = 24
DIGITS_HALF = 11

SIGN_HALF = 0x8000
MAGNITUDE_HALF = 0x7FFF
INFINITY_HALF = 0x7C00
NO_NUMBER_HALF = 0x7E00


def is_number(bits):
    return bits & MAGNITUDE <= INFINITY


def is_finite(bits):
    return bits & INFINITY != INFINITY


def is_zero(bits):
    return bits & MAGNITUDE == 0


def whole_of(bits):
    """A finite single as a whole number, to be taken times 2^LEAST."""
    place = bits >> 23 & 0xFF
    whole = bits & 0x7FFFFF
    if place > 0:
        whole = (whole | 0x800000) << (place - 1)
    return -whole if bits & SIGN else whole


def rounded(whole, exponent, digits, least):
    """The bits next to whole times 2^exponent, with so many digits and none below 2^least.

    whole isn't below 0, and is 0 only where exponent is at most least. What is past the greatest has bits at or
    past the infinity's.
    """
    dropped = whole.bit_length() - digits
    if exponent + dropped < least:
        dropped = least - exponent
    if dropped > 0:
        # A little less than half of the last digit kept, or just half of it where that digit is odd.
        kept = (whole + (1 << (dropped - 1)) - 1 + (whole >> dropped & 1)) >> dropped
    else:
        kept = whole << -dropped
    # The first digit counts into the place: of numbers too small for the usual form it isn't there.
    return ((exponent + dropped - least) << (digits - 1)) + kept


def single_of(whole, exponent):
    """The single next to whole times 2^exponent; of 0 it's the one without a sign."""
    if whole == 0:
        return 0
    if whole < 0:
        return SIGN | single_of(-whole, exponent)
    bits = rounded(whole, exponent, DIGITS, LEAST)
    return bits if bits < INFINITY else INFINITY


def half_of(bits):
    """The half next to a single."""
    if not is_number(bits):
        return NO_NUMBER_HALF
    sign = SIGN_HALF if bits & SIGN else 0
    if not is_finite(bits):
        return sign | INFINITY_HALF
    near = rounded(whole_of(bits & MAGNITUDE), LEAST, DIGITS_HALF, LEAST_HALF)
    return sign | min(near, INFINITY_HALF)


def single_of_half(half):
    """The single that's worth the same."""
    magnitude = half & MAGNITUDE_HALF
    if magnitude > INFINITY_HALF:
        return NO_NUMBER
    sign = SIGN if half & SIGN_HALF else 0
    if magnitude == INFINITY_HALF:
        return sign | INFINITY
    place = magnitude >> 10
    whole = magnitude & 0x3FF
    if place > 0:
        whole = (whole | 0x400) << (place - 1)
    return sign | single_of(whole, LEAST_HALF)
