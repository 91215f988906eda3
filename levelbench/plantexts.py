"""Plans as a text, there and back."""

from levelbench.errors import NoText
from levelbench.jobtexts import read_names

BETWEEN_TURNS = " / "
EMPTY_TURN = "-"


def plan_text(plan):
    return BETWEEN_TURNS.join([turn_text(row) for row in plan])


def turn_text(row):
    if not row:
        return EMPTY_TURN
    return " ".join(row)


def read_plan(text):
    if not isinstance(text, str):
        raise NoText("a plan is read from a text alone")
    if text == "":
        return []
    return [read_turn(part) for part in text.split(BETWEEN_TURNS)]


def read_turn(part):
    if part == EMPTY_TURN:
        return []
    return read_names(part, " ")
