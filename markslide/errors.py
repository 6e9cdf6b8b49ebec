"""The refusals of the program: one class for each, all of them below SlideError."""


class SlideError(ValueError):
    pass


class BadWeb(SlideError):
    pass


class BadMarks(SlideError):
    pass


class BadSlide(SlideError):
    pass


class Unlike(SlideError):
    pass


class NoTree(SlideError):
    pass


class BadText(SlideError):
    pass
