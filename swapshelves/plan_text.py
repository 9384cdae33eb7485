"""Plans and states as texts, a line for each of their parts."""

from swapshelves.errors import InvalidText
from swapshelves.plans import check_plan
from swapshelves.program_tokens import DIGITS
from swapshelves.states import check_state

# More digits than any number in a plan or a state may have.
DIGITS_ENOUGH = 40


def format_plan(plan):
    """Return the text of a plan."""
    check_plan(plan)
    sizes, routes = plan
    return "\n".join([line_of("sizes", sizes)] + [line_of("route", route) for route in routes])


def parse_plan(text):
    """Return the plan of a text."""
    lines = text.split("\n")
    sizes = items_of_line(lines, 0, "sizes")
    routes = [items_of_line(lines, row, "route") for row in range(1, len(lines))]
    plan = (sizes, tuple(routes))
    check_plan(plan)
    return plan


def format_state(plan, state):
    """Return the text of a state."""
    check_plan(plan)
    check_state(plan, state)
    time, carried, shelves = state
    lines = [line_of("time", (time,)), line_of("carried", carried)]
    return "\n".join(lines + [line_of("shelf", shelf) for shelf in shelves])


def parse_state(plan, text):
    """Return the state of a text."""
    check_plan(plan)
    lines = text.split("\n")
    time = time_of_line(lines[0])
    carried = items_of_line(lines, 1, "carried")
    behind = 2 + len(plan[0])
    shelves = [items_of_line(lines, row, "shelf") for row in range(2, behind)]
    if len(lines) > behind:
        raise InvalidText(behind)
    state = (time, carried, tuple(shelves))
    check_state(plan, state)
    return state


def line_of(word, items):
    """Return the line with a word and items."""
    return " ".join([word] + [text_of_entry(item) for item in items])


def text_of_entry(entry):
    """Return the text of an entry of a route, or of any number."""
    return "rest" if entry is None else str(entry)


def items_of_line(lines, row, word):
    """Return the tuple of the items behind a word in a row, or raise InvalidText."""
    if row == len(lines):
        raise InvalidText(row)
    first, *texts = lines[row].split(" ")
    if first != word:
        raise InvalidText(row)
    return tuple([item_of_text(row, text, word == "route") for text in texts])


def item_of_text(row, text, may_rest):
    """Return the item of a text in a row, None for a rest, or raise InvalidText."""
    if may_rest and text == "rest":
        return None
    if not is_number(text):
        raise InvalidText(row)
    return number_of_text(text)


def time_of_line(line):
    """Return the time that a line tells, or raise InvalidText."""
    first, *texts = line.split(" ")
    if first != "time" or len(texts) != 1:
        raise InvalidText(0)
    text = texts[0]
    if is_number(text):
        return number_of_text(text)
    if not text.startswith("-") or text == "-0" or not is_number(text[1:]):
        raise InvalidText(0)
    return -number_of_text(text[1:])


def is_number(text):
    """Tell whether a text consists of digits, without leading zeros."""
    for sign in text:
        if sign not in DIGITS:
            return False
    return text == "0" or (text != "" and text[0] != "0")


def number_of_text(text):
    """Return the number of a text of digits, or a too large one for a text that is too long."""
    # Python refuses to read numbers of several thousand digits.
    return int(text[:DIGITS_ENOUGH])
