"""Texts of states and of scripts, sign for sign."""

from hoproads.errors import InvalidText
from hoproads.lifesteps import check_script, check_state, is_script, is_state
from hoproads.roads import are_rates, is_row

# no integer in a text is greater than 1000
MOST_DIGITS = 4
LINES_OF_A_STATE = 4
LINES_OF_A_ROAD = 2


def row_text(row):
    """A row as text."""
    return "".join([str(item) for item in row])


def fraction_text(fraction):
    """A fraction as text."""
    return f"{fraction[0]}/{fraction[1]}"


def rates_text(rates):
    """Rates as text."""
    return " ".join([fraction_text(rate) for rate in rates])


def integers_text(integers):
    """Integers as text, with one blank between two."""
    return " ".join([str(item) for item in integers])


def step_text(step):
    """A step as text."""
    if step[0] == "rates":
        return f"rates {rates_text(step[1])}"
    # a step of a word alone has no blank behind it
    return " ".join([step[0]] + [str(item) for item in step[1:]])


def text_of_state(state):
    """A state as text."""
    row, marks, place, rates = state
    return "\n".join([row_text(row), integers_text(marks), str(place), rates_text(rates)])


def text_of_script(script):
    """A script as text."""
    return "\n".join([step_text(step) for step in script])


def state_text(state):
    """The text of a state."""
    check_state(state)
    return text_of_state(state)


def script_text(script):
    """The text of a script."""
    check_script(script)
    return text_of_script(script)


# what is read here may be of a wrong form: it is checked, and written again, by those that read a whole text


def integer_read(text):
    """The integer of some figures, or None."""
    if not text.isascii() or not text.isdigit() or len(text) > MOST_DIGITS:
        return None
    return int(text)


def integers_read(text, sign):
    """The tuple of the integers between signs, None for what is none."""
    return tuple([integer_read(part) for part in text.split(sign)])


def row_read(text):
    """The row of a text."""
    return tuple([integer_read(sign) for sign in text])


def rates_read(text):
    """The rates of a text."""
    return tuple([integers_read(part, "/") for part in text.split(" ")])


def step_read(text):
    """The step of a text."""
    word, blank, rest = text.partition(" ")
    if word == "rates":
        return (word, rates_read(rest))
    return (word,) + integers_read(rest, " ") if blank else (word,)


def lines_read(value, many):
    """The list of so many lines of a text, or None for any other value."""
    if not isinstance(value, str):
        return None
    lines = value.split("\n")
    return lines if len(lines) == many else None


def read_state(value):
    """The state whose text a value is."""
    lines = lines_read(value, LINES_OF_A_STATE)
    if lines is None:
        raise InvalidText("four lines are asked for")
    state = (row_read(lines[0]), integers_read(lines[1], " "), integer_read(lines[2]), rates_read(lines[3]))
    if not is_state(state) or text_of_state(state) != value:
        raise InvalidText("the text of a state is asked for")
    return state


def read_script(value):
    """The script whose text a value is."""
    if not isinstance(value, str):
        raise InvalidText("a string is asked for")
    script = tuple([step_read(line) for line in value.split("\n")]) if value else ()
    if not is_script(script) or text_of_script(script) != value:
        raise InvalidText("the text of a script is asked for")
    return script


def text_of_road(row, rates):
    """A row with rates as text."""
    return "\n".join([row_text(row), rates_text(rates)])


def road_read(value):
    """The pair of the row and the rates whose text a value is."""
    lines = lines_read(value, LINES_OF_A_ROAD)
    if lines is None:
        raise InvalidText("two lines are asked for")
    row = row_read(lines[0])
    rates = rates_read(lines[1])
    if not is_row(row) or not are_rates(rates) or text_of_road(row, rates) != value:
        raise InvalidText("the text of a row with rates is asked for")
    return (row, rates)
