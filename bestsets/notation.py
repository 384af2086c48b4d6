"""Matroids written as text, a line of words for each of their lines."""

from bestsets.errors import InvalidLine
from bestsets.lines import check_valid

MOST_DIGITS = 4

# For each name the number of the integers of its lines, before the data if they have any.
INTEGERS = {
    "graph": 1, "vectors": 2, "choices": 1, "bounds": 1, "uniform": 2, "bases": 1,
    "dual": 1, "delete": 2, "contract": 2, "sum": 2, "truncate": 2, "union": 2,
}


def format_matroid(matroid):
    """The text of a matroid."""
    return "\n".join([format_line(line) for line in matroid])


def format_line(line):
    """The text of a line."""
    name = line[0]
    if name not in WRITERS:
        return " ".join([name] + [str(number) for number in line[1:]])
    write = WRITERS[name]
    return " ".join([name] + [str(number) for number in line[1:-1]] + [write(item) for item in line[-1]])


def write_arc(arc):
    """The word of an arc."""
    tail, head = arc
    return f"{tail}-{head}"


def write_list(numbers):
    """The word of a vector, a choice or a base."""
    if len(numbers) == 0:
        return "."
    return ",".join([str(number) for number in numbers])


def write_bound(pair):
    """The word of a set with a bound."""
    inside, bound = pair
    return f"{write_list(inside)}<{bound}"


def parse_matroid(text):
    """The matroid of a text; raises InvalidLine and InvalidMatroid."""
    matroid = tuple([parse_line(line, number) for number, line in enumerate(text.split("\n"))])
    check_valid(matroid)
    return matroid


def parse_line(text, number):
    """The line of a text that has this number; raises InvalidLine."""
    words = text.split(" ")
    name = words[0]
    if name not in INTEGERS:
        raise InvalidLine(number)
    data_at = INTEGERS[name] + 1
    integers = read_integers(words[1:data_at], INTEGERS[name], number)
    if name in READERS:
        read = READERS[name]
        return (name,) + integers + (tuple([read(word, number) for word in words[data_at:]]),)
    if len(words) > data_at:
        raise InvalidLine(number)
    return (name,) + integers


def read_integers(words, count, number):
    """The integers of so many words."""
    if len(words) != count:
        raise InvalidLine(number)
    return tuple([read_integer(word, number) for word in words])


def read_integer(word, number):
    """The integer of a word."""
    if not is_integer_word(word):
        raise InvalidLine(number)
    return int(word)


def is_integer_word(word):
    """Whether a word is an integer in decimal digits, not too many, without leading zeros."""
    if not 1 <= len(word) <= MOST_DIGITS or not all(sign in "0123456789" for sign in word):
        return False
    return word == "0" or word[0] != "0"


def read_arc(word, number):
    """The arc of a word."""
    return read_integers(word.split("-"), 2, number)


def read_list(word, number):
    """The vector, the choice or the base of a word."""
    if word == ".":
        return ()
    return tuple([read_integer(part, number) for part in word.split(",")])


def read_bound(word, number):
    """The set of a word with its bound."""
    parts = word.split("<")
    if len(parts) != 2:
        raise InvalidLine(number)
    return (read_list(parts[0], number), read_integer(parts[1], number))


WRITERS = {
    "graph": write_arc,
    "vectors": write_list,
    "choices": write_list,
    "bounds": write_bound,
    "bases": write_list,
}

READERS = {
    "graph": read_arc,
    "vectors": read_list,
    "choices": read_list,
    "bounds": read_bound,
    "bases": read_list,
}
