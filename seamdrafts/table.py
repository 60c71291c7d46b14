"""Reads a table's text: names with their measures."""

from seamdrafts.exact import number_of
from seamdrafts.refusals import NoTable
from seamdrafts.texts import text_of
from seamdrafts.tokens import is_name

MOST_MEASURES = 32


def measure_of(line):
    """The number that a line tells of its name; None if it's no line of a table."""
    words = line.split(" ")
    if len(words) != 2 or not is_name(words[0]):
        return None
    return number_of(words[1])


def read_table(m):
    """The measures of the bytes m, by their names; NoTable if they are no table's text."""
    lines = text_of(m).split("\n")
    rest = lines.pop()
    measures = {}
    for index, line in enumerate(lines):
        number = measure_of(line)
        if number is None or len(measures) == MOST_MEASURES:
            raise NoTable(index)
        name = line.split(" ")[0]
        if name in measures:
            raise NoTable(index)
        measures[name] = number
    if rest != "":
        raise NoTable(len(lines))
    return measures
