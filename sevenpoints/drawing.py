"""Drawing: the points, edges and lots that the text of a program makes, in one go.

The rules of the lots name the points that the rules of the graph make, so both are made side by side.
"""

BEGIN = 0
END = 1
FINISH = 2


def lot_of(points):
    """A strictly ascending tuple of points; None is no point."""
    return tuple(sorted({point for point in points if point is not None}))


class Drawing:
    """How many points there are; the edges (start, deed, end) and lots (points, parent) in the order of making.

    A way (start, end, leave, again) tells where a block or statement stands: leave is its break point, again its
    next point. The lot of what stands somewhere is a child of the lot parent.
    """

    def __init__(self, program):
        self.points = 3
        self.edges = []
        self.lots = []
        self.draw_block(program.block, (BEGIN, FINISH, None, None), None)
        self.edges.append((FINISH, ("give", 0), END))

    def new_point(self):
        """Make a point."""
        self.points += 1
        return self.points - 1

    def new_lot(self, points, parent):
        """Make a lot; its index."""
        self.lots.append((lot_of(points), parent))
        return len(self.lots) - 1

    def draw_block(self, block, way, parent):
        """Make what a block tells."""
        start, end, leave, again = way
        while len(block) > 1:
            between = self.new_point()
            whole = self.new_lot((start, end, leave, again, END), parent)
            parent = self.new_lot((start, end, leave, again, END, between), whole)
            self.draw_statement(block[0], (start, between, leave, again), parent)
            start = between
            block = block[1:]
        # What stands for an empty block is what stands for a skip.
        self.draw_statement(block[0] if block else ("skip",), (start, end, leave, again), parent)

    def draw_statement(self, statement, way, parent):
        """Make what a statement tells."""
        start, end, leave, again = way
        whole = self.new_lot((start, end, leave, again, END), parent)
        word = statement[0]
        if word == "if":
            self.draw_if(statement, way, whole)
        elif word == "while":
            self.draw_while(statement, way, whole)
        elif word == "loop":
            self.draw_block(statement[1], (start, start, end, start), whole)
        elif word == "break":
            self.edges.append((start, ("skip",), leave))
        elif word == "next":
            self.edges.append((start, ("skip",), again))
        else:
            self.edges.append((start, statement, END if word == "give" else end))

    def draw_if(self, statement, way, whole):
        """Make what an if tells within its lot."""
        start, end, leave, again = way
        yes = self.new_point()
        no = self.new_point()
        joint = self.new_lot((start, end, leave, again, END, yes, no), whole)
        self.draw_condition(statement[1], (start, yes, no), joint)
        self.draw_block(statement[2], (yes, end, leave, again), joint)
        self.draw_block(statement[3], (no, end, leave, again), joint)

    def draw_while(self, statement, way, whole):
        """Make what a while tells within its lot."""
        start, end = way[0], way[1]
        yes = self.new_point()
        joint = self.new_lot((start, yes, end, END), whole)
        self.draw_condition(statement[1], (start, yes, end), joint)
        self.draw_block(statement[2], (yes, start, end, start), joint)

    def draw_condition(self, condition, fork, parent):
        """Make what a condition tells that stands from the start of a fork to its points yes and no."""
        start, yes, no = fork
        word = condition[0]
        if word == "not":
            self.draw_condition(condition[1], (start, no, yes), parent)
            return
        if word not in ("and", "or"):
            self.new_lot(fork, parent)
            self.edges.append((start, ("test", condition, True), yes))
            self.edges.append((start, ("test", condition, False), no))
            return
        between = self.new_point()
        joint = self.new_lot((start, between, yes, no), self.new_lot(fork, parent))
        ahead = (start, between, no) if word == "and" else (start, yes, between)
        self.draw_condition(condition[1], ahead, joint)
        self.draw_condition(condition[2], (between, yes, no), joint)
