"""What stands between quotes or parentheses, where a backslash takes the next mark."""


def enclosed(body, start):
    """What a comment or quoted token holds, the position behind it, and whether it has an end.

    It begins at start, with a quote or an opening parenthesis.
    """
    is_comment = body[start] == "("
    depth = 1
    marks = []
    place = start + 1
    while place < len(body):
        mark = body[place]
        if mark == "\\" and place + 1 < len(body):
            marks.append(body[place + 1])
            place = place + 2
            continue
        depth = depth + _change_of_depth(mark, is_comment)
        place = place + 1
        if depth == 0:
            return "".join(marks), place, True
        marks.append(mark)
    return "".join(marks), place, False


def _change_of_depth(mark, is_comment):
    """How much deeper it is behind this mark than in front of it."""
    if not is_comment:
        return -1 if mark == "\"" else 0
    if mark == "(":
        return 1
    return -1 if mark == ")" else 0


def quoted(marks):
    """The quoted token that holds these marks."""
    return "\"" + _escaped(marks, "\"\\") + "\""


def commented(marks):
    """The comment that holds these marks."""
    return "(" + _escaped(marks, "()\\") + ")"


def _escaped(marks, special):
    """The marks, with a backslash in front of each special one."""
    return "".join(["\\" + mark if mark in special else mark for mark in marks])
