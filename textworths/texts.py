"""Texts: numbers, patterns, machines and tariffs, written out."""

CHUNK_DIGITS = 60
CHUNK = 10 ** 60

LEAVES = {"any": ".", "none": "0", "empty": "1"}


def show_number(number):
    """Returns the text of a number."""
    above, below = number
    if below == 1:
        return _show_integer(above)
    return f"{_show_integer(above)}/{_show_integer(below)}"


def show_pattern(pattern):
    """Returns the text of a pattern."""
    kind = pattern[0]
    if kind == "sign":
        return pattern[1]
    if kind in LEAVES:
        return LEAVES[kind]
    if kind == "many":
        return show_pattern(pattern[1]) + "*"
    if kind == "weigh":
        return f"{show_number(pattern[1])}[{show_pattern(pattern[2])}]"
    between = " " if kind == "then" else " + "
    return f"({show_pattern(pattern[1])}{between}{show_pattern(pattern[2])})"


def show_machine(machine):
    """Returns the text of a machine."""
    roads = [f"{state} {sign} {goal} {show_number(entry)}" for state, sign, goal, entry in machine.roads]
    listed = [_numbers(machine.begin), " , ".join(roads), _numbers(machine.end)]
    return " ; ".join([machine.signs] + [show_message(text) for text in listed])


def show_tariff(tariff):
    """Returns the text of a tariff."""
    parts = [_head(head, worth, rows) for head, worth, rows in zip(tariff.heads, tariff.worths, tariff.table)]
    return " | ".join([tariff.signs] + parts)


def show_message(message):
    """Returns a text, `-` in the place of the empty one."""
    return "-" if message == "" else message


def _head(head, worth, rows):
    """Returns the text of a head with its worth and its rows."""
    return " ; ".join([f"{show_message(head)}={show_number(worth)}"] + [_numbers(row) for row in rows])


def _numbers(numbers):
    """Returns the texts of numbers, separated by a space."""
    return " ".join([show_number(number) for number in numbers])


def _show_integer(integer):
    """Returns the text of an integer, in full."""
    # Python refuses to show an integer of very many digits at once.
    left, parts = abs(integer), []
    while left >= CHUNK:
        left, last = divmod(left, CHUNK)
        parts.append(str(last).zfill(CHUNK_DIGITS))
    parts.append(str(left))
    sign = "-" if integer < 0 else ""
    return sign + "".join(parts[::-1])
