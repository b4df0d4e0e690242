"""One line of a program's text, read as an instruction."""

from fourfloats.operands import NotAsTold
from fourfloats.operands import same_part_vector
from fourfloats.operands import table_number
from fourfloats.operands import taken_vector
from fourfloats.operands import times_number
from fourfloats.operands import written_vector

SATURATING = "_SAT"
WRITTEN = "d"

OPERANDS = {
    "d": written_vector,
    "a": taken_vector,
    "s": same_part_vector,
    "t": table_number,
    "n": times_number,
}

# A letter of OPERANDS for each operand that the name takes.
FORMS = {
    "MOV": "da",
    "ABS": "da",
    "FLR": "da",
    "FRC": "da",
    "RCP": "da",
    "SQR": "da",
    "RSQ": "da",
    "HLF": "da",
    "ADD": "daa",
    "SUB": "daa",
    "MUL": "daa",
    "DIV": "daa",
    "MIN": "daa",
    "MAX": "daa",
    "SLT": "daa",
    "SGE": "daa",
    "DP3": "daa",
    "DP4": "daa",
    "XPD": "daa",
    "MAD": "daaa",
    "LRP": "daaa",
    "CMP": "daaa",
    "TEX": "dat",
    "KIL": "a",
    "IF": "s",
    "ELSE": "",
    "REP": "n",
    "END": "",
}


class Instruction:
    """A name of the table, whether _SAT stood behind it, and its operands as operands.py gives them."""

    def __init__(self, name, saturates, operands):
        self.name = name
        self.saturates = saturates
        self.operands = operands


def instruction_of(line):
    """The instruction of a line that says something, its remark and outer blanks left out."""
    pieces = line.partition(" ")
    saturates = pieces[0].endswith(SATURATING)
    name = pieces[0][:-len(SATURATING)] if saturates else pieces[0]
    form = form_of(name, saturates)
    texts = pieces[2].split(",") if pieces[1] == " " else []
    if len(texts) != len(form):
        raise NotAsTold("another number of operands")
    operands = [OPERANDS[letter](text) for letter, text in zip(form, texts)]
    return Instruction(name, saturates, operands)


def form_of(name, saturates):
    if name not in FORMS:
        raise NotAsTold("not a name of the table")
    form = FORMS[name]
    if saturates and not form.startswith(WRITTEN):
        raise NotAsTold("_SAT behind a name that writes no vector")
    return form
