"""Boards: a web with marks on which slides are done and taken back."""

from markslide.errors import BadSlide
from markslide.slides import slid, slides_from, told
from markslide.webs import look_marks


class Board:
    def __init__(self, web, marks):
        look_marks(web, marks)
        # Whoever made the web may change its list of lines later; the board goes by its own.
        self.web = (web[0], list(web[1]))
        self.here = marks
        self.done = []

    def marks(self):
        return self.here

    def slides(self):
        return slides_from(self.web, self.here)

    def slide(self, one, other):
        if (one, other) not in slides_from(self.web, self.here):
            raise BadSlide("from the marks that are there, this is no slide")
        self.here = slid(self.here, (one, other))
        self.done.append((one, other))

    def back(self):
        if not self.done:
            return False
        last = self.done.pop()
        self.here = slid(self.here, (last[1], last[0]))
        return True

    def row(self):
        return list(self.done)

    def to(self, goal):
        return told(self.web, self.here, goal)
