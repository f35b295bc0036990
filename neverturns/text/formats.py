"""Texts of machines, boxes, recipes and clouds, written and read.

A line that lacks at the end is read as an empty one, which can stand nowhere. So it is
told by the number of text lines.
"""

from neverturns.errors import InvalidOperation, ParseError
from neverturns.base.machines import Machine, check_machine
from neverturns.base.words import has_only, is_letters, is_natural
from neverturns.cloud.papers import is_ascending, is_step_form
from neverturns.still.boxes import Box, check_box

DIGITS = "0123456789"
# Stands for the empty word, and for no ends.
NONE = "-"


def write_machine(machine):
    """Return the text of a machine."""
    check_machine(machine)
    lines = [f"machine {machine.letters} {len(machine)}"] + [f"state {written(line)}" for line in machine.table]
    return "\n".join(lines + [f"ends {written(machine.ends) or NONE}"])


def write_box(box):
    """Return the text of a box."""
    check_box(box)
    return "\n".join([f"box {box.letters} {len(box)}"] + [f"place {written(line)}" for line in box.table])


def write_recipe(recipe):
    """Return the text of a recipe."""
    if not isinstance(recipe, tuple) or recipe == ():
        raise InvalidOperation("this is no non-empty tuple")
    if not all([is_step_form(step, at) for at, step in enumerate(recipe)]):
        raise InvalidOperation("these are no steps of a recipe")
    return "\n".join([f"{step[0]} {written(step[1:]) or NONE}" for step in recipe])


def write_cloud(cloud):
    """Return the text of a cloud."""
    if not isinstance(cloud, tuple) or cloud == ():
        raise InvalidOperation("this is no non-empty tuple")
    if not all([is_pair_of_numbers(leads) for leads in cloud]) or not is_ascending(cloud):
        raise InvalidOperation("these are no ascending pairs of tuples of numbers")
    return "\n".join([f"{written(first)} | {written(second)}" for first, second in cloud])


def read_machine(text):
    """Return the machine with this text."""
    lines = lines_of(text)
    letters, table = table_in(lines, "machine", "state")
    at = len(table) + 1
    ends = ends_in(line_at(lines, at))
    if ends is None:
        raise ParseError(at)
    check_last(lines, at)
    return Machine(letters, table, ends)


def read_box(text):
    """Return the box with this text."""
    lines = lines_of(text)
    letters, table = table_in(lines, "box", "place")
    check_last(lines, len(table))
    return Box(letters, table)


def read_recipe(text):
    """Return the recipe with this text."""
    recipe = []
    for at, line in enumerate(lines_of(text)):
        step = step_in(line)
        if not is_step_form(step, at):
            raise ParseError(at)
        recipe.append(step)
    return tuple(recipe)


def read_cloud(text):
    """Return the cloud with this text."""
    cloud = []
    for at, line in enumerate(lines_of(text)):
        leads = tuple([numbers_in(part) for part in line.split(" | ")])
        if len(leads) != 2 or () in leads or not is_ascending(cloud[-1:] + [leads]):
            raise ParseError(at)
        cloud.append(leads)
    return tuple(cloud)


def written(row):
    """Return the text of a row of numbers or words, with blanks between them."""
    return " ".join([str(part) for part in row])


def is_pair_of_numbers(value):
    """Tell whether the value is a pair of non-empty tuples of integers of at least 0."""
    if not isinstance(value, tuple) or len(value) != 2:
        return False
    if not all([isinstance(part, tuple) and part != () for part in value]):
        return False
    return all([is_natural(number) for part in value for number in part])


def lines_of(text):
    """Return the list of the lines of a text."""
    if not isinstance(text, str):
        raise ParseError(None)
    return text.split("\n")


def line_at(lines, at):
    """Return a line, or an empty one behind the last."""
    return lines[at] if at < len(lines) else ""


def check_last(lines, at):
    """Raise ParseError if a line stands behind what should be the last one."""
    if len(lines) > at + 1:
        raise ParseError(at + 1)


def is_number(text):
    """Tell whether the text is a number as it is written."""
    return text == "0" or text != "" and has_only(text, DIGITS) and text[0] != "0"


def numbers_in(text):
    """Return the tuple of the numbers of a text, or () if it is no such text."""
    parts = text.split(" ")
    if not all([is_number(part) for part in parts]):
        return ()
    return tuple([int(part) for part in parts])


def table_in(lines, title, row):
    """Return the letters and the table of the first lines."""
    parts = lines[0].split(" ")
    if len(parts) != 3 or parts[0] != title or not is_letters(parts[1]) or not is_number(parts[2]):
        raise ParseError(0)
    table = []
    for at in range(1, int(parts[2]) + 1):
        head, _, tail = line_at(lines, at).partition(" ")
        goals = numbers_in(tail)
        if head != row or len(goals) != len(parts[1]):
            raise ParseError(at)
        table.append(goals)
    return parts[1], tuple(table)


def ends_in(line):
    """Return the ascending tuple of the ends of a line, or None if it is no such line."""
    head, _, tail = line.partition(" ")
    if head != "ends":
        return None
    if tail == NONE:
        return ()
    ends = numbers_in(tail)
    return ends if ends != () and is_ascending(ends) else None


def step_in(line):
    """Return the step of a line, or None if it is no such line."""
    head, _, tail = line.partition(" ")
    if head == "word":
        return None if tail == "" else (head, "" if tail == NONE else tail)
    numbers = numbers_in(tail)
    return (head,) + numbers if numbers else None
