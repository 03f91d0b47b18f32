"""The journal: deeds and desks as texts."""

from meetonce.desk import Desk
from meetonce.errors import BadText, GuideError
from meetonce.nets import Net
from meetonce.nettext import net_text, read_integer, read_rows_and_roads

# For each deed but a wish the number of its integers.
MANY_INTEGERS = {"drop": 1, "close": 2, "reopen": 2, "reprice": 3, "turn": 3, "settle": 0}


def deed_line(deed):
    """The line of a deed."""
    integers = deed[1] if deed[0] == "wish" else deed[1:]
    return " ".join([deed[0]] + [str(integer) for integer in integers])


def read_deed(line):
    """The deed that has this line."""
    words = line.split(" ")
    integers = [read_integer(word) for word in words[1:]]
    if None in integers or not _can_follow(words[0], integers):
        raise BadText(1)
    if words[0] == "wish":
        return ("wish", tuple(integers))
    return (words[0],) + tuple(integers)


def _can_follow(word, integers):
    """True if the integers can be those of a deed with this word."""
    if word == "wish":
        return len(integers) > 0 and min(integers) >= 0
    if word not in MANY_INTEGERS or len(integers) != MANY_INTEGERS[word]:
        return False
    # Only the last integer of `reprice` is a price.
    places = integers[:2] if word == "reprice" else integers
    return min(places, default=0) >= 0


def desk_text(desk):
    """The text of a desk."""
    done = [f"done {len(desk.done)}"] + [deed_line(deed) for deed in desk.done]
    undone = [f"undone {len(desk.undone)}"] + [deed_line(deed) for deed in desk.undone]
    return "\n".join(["desk", net_text(desk.first_net)] + done + undone)


def read_desk(text):
    """A desk with this text."""
    lines = text.split("\n")
    desk, first = _read_new_desk(lines)
    at = _do_lines(desk, lines, first, _count_in(lines[first - 1], "done"))
    undone = _count_in(lines[at], "undone") if at < len(lines) else None
    if undone is None:
        raise BadText(at + 1)
    end = _do_lines(desk, lines, at + 1, undone)
    if end < len(lines):
        raise BadText(end + 1)
    for _ in range(undone):
        desk.undo()
    return desk


def _read_new_desk(lines):
    """A desk without deeds, and the index of the line that follows the line `done K`."""
    if lines[0] != "desk":
        raise BadText(1)
    if len(lines) == 1 or lines[1] != "net":
        raise BadText(2)
    counts = [at for at, line in enumerate(lines) if _count_in(line, "done") is not None]
    # Before the first line `done K` there are only rows and roads, so if one of them is wrong, it comes first.
    at = counts[0] if counts else len(lines)
    widths, roads = read_rows_and_roads(lines[2:at], 3)
    if at == len(lines):
        raise BadText(at + 1)
    return (Desk(Net(widths, roads)), at + 1)


def _count_in(line, word):
    """The number of a line that has the word and a number of at least 0, None if the line is not of this form."""
    words = line.split(" ")
    if len(words) != 2 or words[0] != word:
        return None
    count = read_integer(words[1])
    return count if count is not None and count >= 0 else None


def _do_lines(desk, lines, first, many):
    """Do the deeds of so many lines, from the one with the index `first` on; the index of the line that follows."""
    for at in range(first, first + many):
        if at == len(lines) or not _can_do(desk, lines[at]):
            raise BadText(at + 1)
    return first + many


def _can_do(desk, line):
    """Do the deed of the line; True if this can be done."""
    try:
        desk.play([read_deed(line)])
    except GuideError:
        return False
    return True


def replay(desk):
    """A new desk with the same first net on which the deeds of `done` were done."""
    fresh = Desk(desk.first_net)
    fresh.play(desk.done)
    return fresh
