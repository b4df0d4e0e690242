"""The operands of an instruction, read from their texts."""

PARTS = "xyzw"
ALL_PARTS = (0, 1, 2, 3)
LAST_NUMBERS = {"r": 15, "v": 7, "c": 31, "o": 3, "t": 3}
TAKEN_LETTERS = ("r", "v", "c")
WRITTEN_LETTERS = ("r", "o")
TABLE_LETTERS = ("t",)
MOST_TIMES = 255
MOST_DIGITS = 3


class NotAsTold(ValueError):
    """A line, or the place where it stands, isn't as the document tells."""


def number_of(digits, least, most):
    # The length is asked first: Python's int refuses very long texts in its own way.
    if len(digits) > MOST_DIGITS or not digits.isdigit():
        raise NotAsTold("not a number")
    if digits.startswith("0") and digits != "0":
        raise NotAsTold("zeros before a number")
    number = int(digits)
    if number < least or number > most:
        raise NotAsTold("a number past its ends")
    return number


def place_of(text, letters):
    """The letter and the number of r3 and its like, where the letter is one of letters."""
    letter = text[:1]
    if letter not in letters:
        raise NotAsTold("not a vector or table that may stand here")
    return (letter, number_of(text[1:], 0, LAST_NUMBERS[letter]))


def part_numbers(letters):
    numbers = []
    for letter in letters:
        number = PARTS.find(letter)
        if number < 0:
            raise NotAsTold("not a part")
        numbers.append(number)
    return tuple(numbers)


def taken_parts(letters):
    numbers = part_numbers(letters)
    if len(numbers) == 1:
        return numbers * 4
    if len(numbers) != 4:
        raise NotAsTold("neither one part nor four")
    return numbers


def written_parts(letters):
    numbers = part_numbers(letters)
    if len(numbers) == 0 or list(numbers) != sorted(set(numbers)):
        raise NotAsTold("no parts, or not each once and in order")
    return numbers


def taken_vector(text):
    """Letter, number, the four parts taken, and whether their signs are flipped."""
    negated = text.startswith("-")
    pieces = (text[1:] if negated else text).partition(".")
    place = place_of(pieces[0], TAKEN_LETTERS)
    parts = taken_parts(pieces[2]) if pieces[1] == "." else ALL_PARTS
    return (place[0], place[1], parts, negated)


def same_part_vector(text):
    vector = taken_vector(text)
    parts = vector[2]
    if parts != (parts[0], parts[0], parts[0], parts[0]):
        raise NotAsTold("not one part four times")
    return vector


def written_vector(text):
    """Letter, number, and the parts that are written."""
    pieces = text.partition(".")
    place = place_of(pieces[0], WRITTEN_LETTERS)
    parts = written_parts(pieces[2]) if pieces[1] == "." else ALL_PARTS
    return (place[0], place[1], parts)


def table_number(text):
    return place_of(text, TABLE_LETTERS)[1]


def times_number(text):
    return number_of(text, 1, MOST_TIMES)
