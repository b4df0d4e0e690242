"""What the names of the table do part by part, on singles by their bits."""

from fourfloats.arithmetic import difference
from fourfloats.arithmetic import product_and_sum
from fourfloats.arithmetic import quotient
from fourfloats.arithmetic import root
from fourfloats.rounding import LEAST
from fourfloats.rounding import MAGNITUDE
from fourfloats.rounding import NO_NUMBER
from fourfloats.rounding import ONE
from fourfloats.rounding import SIGN
from fourfloats.rounding import half_of
from fourfloats.rounding import is_finite
from fourfloats.rounding import is_number
from fourfloats.rounding import is_zero
from fourfloats.rounding import single_of
from fourfloats.rounding import single_of_half
from fourfloats.rounding import whole_of


def as_it_is(a):
    return a


def without_sign(a):
    return a & MAGNITUDE


def whole_part(a):
    """The greatest whole number that's no greater than a finite single, as a plain whole number."""
    return whole_of(a) >> -LEAST


def floor_of(a):
    if not is_number(a):
        return NO_NUMBER
    if is_zero(a) or not is_finite(a):
        return a
    return single_of(whole_part(a), 0)


def behind_floor(a):
    return difference(a, floor_of(a))


def one_by(a):
    return quotient(ONE, a)


def one_by_root(a):
    return quotient(ONE, root(a))


def through_half(a):
    return single_of_half(half_of(a))


def order_of(a):
    """A whole number that lies to another's as the one single lies to the other; 0 and -0 have the same."""
    return -(a & MAGNITUDE) if a & SIGN else a


def is_less(a, b):
    return is_number(a) and is_number(b) and order_of(a) < order_of(b)


def lesser(a, b):
    return a if is_less(a, b) else b


def greater(a, b):
    return a if is_less(b, a) else b


def one_where_less(a, b):
    return ONE if is_less(a, b) else 0


def one_where_not_less(a, b):
    both = is_number(a) and is_number(b)
    return ONE if both and order_of(a) >= order_of(b) else 0


def between(a, b, c):
    """From c on towards b, by a."""
    return product_and_sum(a, difference(b, c), c)


def chosen(a, b, c):
    return b if is_less(a, 0) else c


def saturated(a):
    if not is_less(0, a):
        return 0
    return ONE if is_less(ONE, a) else a
