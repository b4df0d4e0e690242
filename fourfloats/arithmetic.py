"""Operations on singles by their bits, each rounded once."""

from fourfloats.rounding import INFINITY
from fourfloats.rounding import LEAST
from fourfloats.rounding import MAGNITUDE
from fourfloats.rounding import NO_NUMBER
from fourfloats.rounding import SIGN
from fourfloats.rounding import is_finite
from fourfloats.rounding import is_number
from fourfloats.rounding import is_zero
from fourfloats.rounding import single_of
from fourfloats.rounding import whole_of

# More digits than any single is rounded at, so that one digit more can stand for all that's behind them.
QUOTIENT_DIGITS = 151
# Odd, as LEAST is, so that the root has a whole exponent.
SQUARE_DIGITS = 53


def total_of(a, b):
    if is_finite(a) and is_finite(b):
        total = whole_of(a) + whole_of(b)
        # Of what cancels out, only -0 and -0 give -0.
        return single_of(total, LEAST) if total != 0 else a & b & SIGN
    if not is_number(a) or not is_number(b):
        return NO_NUMBER
    if is_finite(a):
        return b
    return a if is_finite(b) or a == b else NO_NUMBER


def difference(a, b):
    return total_of(a, b ^ SIGN)


def product(a, b):
    sign = (a ^ b) & SIGN
    if is_finite(a) and is_finite(b):
        return sign | single_of(whole_of(a & MAGNITUDE) * whole_of(b & MAGNITUDE), 2 * LEAST)
    if not is_number(a) or not is_number(b) or is_zero(a) or is_zero(b):
        return NO_NUMBER
    return sign | INFINITY


def product_and_sum(a, b, c):
    """a b + c, rounded once."""
    if is_finite(a) and is_finite(b):
        if not is_finite(c):
            # Before it's rounded the product is finite, however great.
            return total_of(0, c)
        total = whole_of(a) * whole_of(b) + (whole_of(c) << -LEAST)
        return single_of(total, 2 * LEAST) if total != 0 else (a ^ b) & c & SIGN
    return total_of(product(a, b), c)


def quotient(a, b):
    sign = (a ^ b) & SIGN
    upper = a & MAGNITUDE
    lower = b & MAGNITUDE
    if upper > INFINITY or lower > INFINITY:
        return NO_NUMBER
    if upper == lower and upper in (0, INFINITY):
        return NO_NUMBER
    if upper == INFINITY or lower == 0:
        return sign | INFINITY
    if upper == 0 or lower == INFINITY:
        return sign
    return sign | finite_quotient(whole_of(upper), whole_of(lower))


def finite_quotient(upper, lower):
    pieces = divmod(upper << QUOTIENT_DIGITS, lower)
    return single_of(with_rest(pieces[0], pieces[1]), -QUOTIENT_DIGITS - 1)


def with_rest(whole, rest):
    """One digit more: 1 where something is left behind whole, so that it's taken for no tie."""
    return 2 * whole + 1 if rest > 0 else 2 * whole


def root(a):
    if is_zero(a) or a == INFINITY:
        return a
    if a & SIGN or not is_number(a):
        return NO_NUMBER
    square = whole_of(a) << SQUARE_DIGITS
    near = whole_root(square)
    return single_of(with_rest(near, square - near * near), (LEAST - SQUARE_DIGITS) // 2 - 1)


def whole_root(square):
    """The greatest whole number whose square is no greater, of a square above 0."""
    near = 1 << ((square.bit_length() + 1) // 2)
    while near * near > square:
        near = (near + square // near) >> 1
    return near
