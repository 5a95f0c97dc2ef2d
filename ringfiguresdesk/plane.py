"""The calls on two drawings, one behind another in a list of whole numbers, and their answers."""

from ringfiguresdesk.drawing import ring_edges
from ringfiguresdesk.figure import FIGURES, borders, sided_parts, standing
from ringfiguresdesk.outline import count_bounded, stretches, turned_round

BEGIN = 0
ADD = 1
WHERE = 2
EDGES = 3

# How many numbers each call has, by its number; those of a ring come on top.
CALL_SIZES = (1, 3, 5, 2, 2)

DONE = 0
WRONG = -2
FULL = -6

FEWEST_POINTS = 3
MOST_POINTS = 64
FARTHEST_CORNER = 16384
FARTHEST_ASKED = 140737488355328
LARGEST_W_ASKED = 2147483648


def is_figure(how):
    """Whether there is a figure for how."""
    return 0 <= how < len(FIGURES)


def is_ring(ring):
    """Whether the row is as long as a ring may be, and no coordinate of it too far out."""
    if not FEWEST_POINTS <= len(ring) // 2 <= MOST_POINTS:
        return False
    return all([abs(number) <= FARTHEST_CORNER for number in ring])


def is_asked(x, y, w):
    """Whether the point (x/w, y/w) is one that may be asked for."""
    return 1 <= w <= LARGEST_W_ASKED and abs(x) <= FARTHEST_ASKED and abs(y) <= FARTHEST_ASKED


class Desk:
    """The two drawings of a line of calls; each call gives back the list of numbers that it answers."""

    def __init__(self):
        self.begin()

    def begin(self):
        self.sizes = [0, 0]
        self.drawn = []
        self.sided = None
        return [DONE]

    def add(self, which, ring):
        if which not in (0, 1) or not is_ring(ring):
            return [WRONG]
        size = self.sizes[which] + len(ring) // 2
        if size > MOST_POINTS:
            return [FULL]
        self.sizes[which] = size
        self.drawn.extend(ring_edges(ring, which + 1))
        self.sided = None
        return [DONE]

    def where(self, how, x, y, w):
        if not is_figure(how) or not is_asked(x, y, w):
            return [WRONG]
        return [standing(self.drawn, FIGURES[how], (x, y, w))]

    def edges(self, how):
        if not is_figure(how):
            return [WRONG]
        found = self.border_stretches(how)
        answer = [len(found)]
        for stretch in found:
            answer.extend(stretch[0])
            answer.extend(stretch[1])
        return answer

    def pieces(self, how):
        if not is_figure(how):
            return [WRONG]
        found = self.border_stretches(how)
        return [DONE, count_bounded(found), count_bounded(turned_round(found)) + 1]

    def border_stretches(self, how):
        # The parts are the same for every figure, and cutting them is most of the work: so they are kept.
        if self.sided is None:
            self.sided = sided_parts(self.drawn)
        return stretches(borders(self.sided, FIGURES[how]))


def call_end(calls, begin):
    """Where the call that begins there ends in the list of calls."""
    end = begin + CALL_SIZES[calls[begin]]
    if calls[begin] == ADD:
        end += calls[begin + 2]
    return end


def answer_call(desk, call):
    """What one call answers."""
    if call[0] == BEGIN:
        return desk.begin()
    if call[0] == ADD:
        return desk.add(call[1], call[3:])
    if call[0] == WHERE:
        return desk.where(call[1], call[2], call[3], call[4])
    if call[0] == EDGES:
        return desk.edges(call[1])
    return desk.pieces(call[1])


def answers(calls):
    """For each call in the list how many numbers it answers, then these."""
    desk = Desk()
    told = []
    begin = 0
    while begin < len(calls):
        end = call_end(calls, begin)
        answer = answer_call(desk, calls[begin:end])
        told.append(len(answer))
        told.extend(answer)
        begin = end
    return told
