"""The border of a figure as a whole: its stretches, and the pieces that it parts the plane into.

A line here is a pair of points: it begins at the first and ends at the second.
"""

from ringfiguresdesk.points import heading, place


def turned_round(lines):
    """The lines, each from its end to its beginning."""
    return [(line[1], line[0]) for line in lines]


def ends_by_begin(lines):
    """Where lines begin, and behind each such point where the lines from there end."""
    ends = {}
    for line in lines:
        ends.setdefault(line[0], []).append(line[1])
    return ends


def goes_through(point, onward, back):
    """Whether the border goes straight through the point, and no other border is there."""
    if len(onward[point]) > 1:
        return False
    return heading(back[point][0], point) == heading(point, onward[point][0])


def stretches(lines):
    """The stretches, in order, that the parts of a border make up."""
    onward = ends_by_begin(lines)
    back = ends_by_begin(turned_round(lines))
    found = []
    for line in lines:
        if not goes_through(line[0], onward, back):
            end = line[1]
            while goes_through(end, onward, back):
                end = onward[end][0]
            found.append((line[0], end))
    return sorted(found, key=lambda stretch: place(stretch[0]) + place(stretch[1]))


def next_line(line, onward):
    """The line that goes on round what is on the left of this line."""
    # Seen from the line's end, what is on its left lies to the right of the way back.
    end = line[1]
    back = heading(end, line[0])
    right = [point for point in onward[end] if heading(end, point) < back]
    return (end, max(right or onward[end], key=lambda point: heading(end, point)))


def loop_from(line, onward):
    """The line and those that follow it round what is on its left."""
    loop = [line]
    after = next_line(line, onward)
    while after != line:
        loop.append(after)
        after = next_line(after, onward)
    return loop


def turns_left(loop):
    """Whether a loop goes round to the left, so that what is on its left lies within it."""
    # This adds up twice the area that the loop goes round, as the fraction over / under.
    over = 0
    under = 1
    for line in loop:
        p = line[0]
        q = line[1]
        over = over * p[2] * q[2] + (p[0] * q[1] - q[0] * p[1]) * under
        under = under * p[2] * q[2]
    return over > 0


def count_bounded(lines):
    """How many of the pieces on the left of the lines don't go on without end."""
    # Round each of these goes one loop to the left; all other loops go to the right, round holes of a piece.
    onward = ends_by_begin(lines)
    gone = {}
    count = 0
    for line in lines:
        if line not in gone:
            loop = loop_from(line, onward)
            for passed in loop:
                gone[passed] = True
            if turns_left(loop):
                count += 1
    return count
