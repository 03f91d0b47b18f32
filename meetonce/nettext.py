"""Nets as texts, one line for each row and each road."""

from meetonce.errors import BadText
from meetonce.nets import Net


def net_text(net):
    """The text of a net."""
    rows = [f"row {width}" for width in net.widths]
    roads = [f"road {start} {end} {price}" for start, end, price in net.roads]
    return "\n".join(["net"] + rows + roads)


def read_net(text):
    """The net that has this text."""
    lines = text.split("\n")
    if lines[0] != "net":
        raise BadText(1)
    widths, roads = read_rows_and_roads(lines[1:], 2)
    return Net(widths, roads)


def read_rows_and_roads(lines, first):
    """The widths and the roads of the lines behind the line `net`; `first` is the number of the first of them."""
    if not lines:
        raise BadText(first)
    widths = []
    roads = []
    for number, line in enumerate(lines, start=first):
        width = read_row(line)
        road = read_road(line)
        if width is not None and not roads:
            widths.append(width)
        elif road is not None and widths and _comes_after(road, roads):
            roads.append(road)
        else:
            raise BadText(number)
    return (widths, roads)


def _comes_after(road, roads):
    return not roads or roads[-1][:2] < road[:2]


def read_row(line):
    """The number of places of a row line, None if the line is not a row line."""
    words = line.split(" ")
    if len(words) != 2 or words[0] != "row":
        return None
    width = read_integer(words[1])
    return width if width is not None and width >= 1 else None


def read_road(line):
    """The road of a road line, None if the line is not a road line."""
    words = line.split(" ")
    if len(words) != 4 or words[0] != "road":
        return None
    numbers = [read_integer(word) for word in words[1:]]
    if None in numbers or numbers[0] < 0 or numbers[1] < 0:
        return None
    return tuple(numbers)


def read_integer(word):
    """The integer that the word writes as a text does, None if it writes none."""
    digits = word[1:] if word.startswith("-") else word
    if not digits.isdigit():
        return None
    number = int(word)
    # Leading zeros and a zero with a sign do not come back as they were.
    return number if str(number) == word else None
