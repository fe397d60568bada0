"""Programs written as texts, a line for each row, and texts read."""

from arcmill.errors import NoText
from arcmill.forms import is_reduced, numbers_behind
from arcmill.programs import program_of
from arcmill.rows import rows_within


def written(program):
    """The text of a program."""
    return "\n".join(lines_of(program))


def lines_of(rows):
    """The lines of rows, each block's end among them."""
    lines = []
    for row in rows:
        within = rows_within(row)
        if within is None:
            lines.append(" ".join([row[0]] + [number_text(number) for number in row[1:]]))
        else:
            lines.append(f"again {row[1]}" if row[0] == "again" else row[0])
            lines += lines_of(within) + ["end"]
    return lines


def number_text(number):
    """A fraction as it is written."""
    return f"{number[0]}" if number[1] == 1 else f"{number[0]}/{number[1]}"


def read(text):
    """The program of a text."""
    return program_of(rows_of(text.split("\n")) if text != "" else ())


def rows_of(lines):
    """The tuple of what the lines tell, rows by their form alone."""
    # No call within a call for a block, for they may be in one another as deep as the text is long.
    heads = []
    lists = [[]]
    for at, text in enumerate(lines):
        head = head_of(text)
        if text == "end" and heads != []:
            block = heads.pop() + (tuple(lists.pop()),)
            lists[-1].append(block)
        elif head is None:
            raise NoText(at)
        elif numbers_behind(head[0]) is None:
            heads.append(head)
            lists.append([])
        else:
            lists[-1].append(head)
    if heads != []:
        raise NoText(len(lines))
    return tuple(lists[0])


def head_of(text):
    """The row that a line tells, of a block what stands ahead of its rows; None where it isn't written so."""
    word, *numbers = text.split(" ")
    if word == "again":
        found = [whole_of(number) for number in numbers]
        many = 1
    elif word == "keep" or word == "ever":
        found = numbers
        many = 0
    else:
        found = [fraction_of(number) for number in numbers]
        many = numbers_behind(word)
    return (word,) + tuple(found) if len(found) == many and None not in found else None


def fraction_of(text):
    """The fraction that a text tells, None where it isn't written so."""
    top_text, stroke, bottom_text = text.partition("/")
    top = whole_of(top_text)
    bottom = whole_of(bottom_text) if stroke != "" else 1
    if top is None or bottom is None or not is_reduced(top, bottom):
        return None
    return None if stroke != "" and bottom == 1 else (top, bottom)


def whole_of(text):
    """The whole number that a text tells, None where it isn't written so."""
    figures = text[1:] if text.startswith("-") else text
    if not figures.isascii() or not figures.isdigit():
        return None
    if figures.startswith("0") and text != "0":
        return None
    return int(text)
