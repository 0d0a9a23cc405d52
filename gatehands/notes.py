"""Gates as texts, row by row."""

from gatehands.errors import BadText
from gatehands.gates import IN, Gate

FIGURES = "0123456789"
# The words of a row by its first one; None stands for a number.
ROWS = {
    "box": ("box", None, None),
    "hand": ("hand", None),
    "put": ("put", None, None),
    "go": ("go", None, "to", None),
    "in": ("in",),
}
GO_IF = ("go", None, "to", None, "if")


def written(gate):
    """Write a gate as a text."""
    rows = [f"box {first} {most}" for first, most in gate.boxes()]
    for knock, steps in gate.hands():
        rows.append(f"hand {knock}")
        rows.extend([row_of(step) for step in steps])
    return "\n".join(rows)


def read(text):
    """Read a gate from its text."""
    boxes = []
    hands = []
    for number, row in enumerate(text.split("\n")):
        words = row.split(" ")
        if not fits(words) or not is_in_place(words[0], hands):
            raise BadText(number)
        if words[0] == "box":
            boxes.append((int(words[1]), int(words[2])))
        elif words[0] == "hand":
            hands.append((int(words[1]), []))
        else:
            hands[-1][1].append(step_of(words))
    return Gate(boxes, hands)


def row_of(step):
    """Write a step."""
    if step[0] == "put":
        return f"put {step[1]} {step[2]}"
    if step[0] == "go":
        words = ["go", str(step[1]), "to", str(step[3])]
        if step[2]:
            words += ["if"] + [str(number) for number in step[2]]
        return " ".join(words)
    return "in"


def step_of(words):
    """Read a step from the words of its row."""
    if words[0] == "put":
        return ("put", int(words[1]), int(words[2]))
    if words[0] == "go":
        return ("go", int(words[1]), tuple([int(word) for word in words[5:]]), int(words[3]))
    return IN


def fits(words):
    """Tell whether these are the words of a row."""
    wanted = ROWS.get(words[0], ())
    if words[0] == "go" and len(words) > len(GO_IF):
        wanted = GO_IF + (None,) * (len(words) - len(GO_IF))
    if len(words) != len(wanted):
        return False
    return all([is_number(word) if want is None else word == want for word, want in zip(words, wanted)])


def is_in_place(word, hands):
    """Tell whether a row that begins so can stand behind these hands: no box behind one, no step ahead of all."""
    if word == "box":
        return not hands
    return word == "hand" or bool(hands)


def is_number(word):
    """Tell whether a word is a number of one or two figures, with no 0 ahead of another one."""
    if len(word) not in (1, 2) or not all([sign in FIGURES for sign in word]):
        return False
    return word == "0" or word[0] != "0"
