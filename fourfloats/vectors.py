"""What the names of the table do with whole vectors, four singles by their bits."""

from fourfloats.arithmetic import product
from fourfloats.arithmetic import product_and_sum
from fourfloats.rounding import ONE
from fourfloats.rounding import SIGN


def dot(a, b, many):
    total = product(a[0], b[0])
    for part in range(1, many):
        total = product_and_sum(a[part], b[part], total)
    return (total, total, total, total)


def dot_of_three(a, b):
    return dot(a, b, 3)


def dot_of_four(a, b):
    return dot(a, b, 4)


def cross(a, b):
    return (cross_part(a, b, 1, 2), cross_part(a, b, 2, 0), cross_part(a, b, 0, 1), ONE)


def cross_part(a, b, i, j):
    return product_and_sum(a[i], b[j], product(a[j], b[i]) ^ SIGN)
