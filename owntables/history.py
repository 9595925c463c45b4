"""Histories: steps that can be taken back and done again, and marks."""

from owntables.errors import NoSuchMark, NothingToRedo, NothingToUndo


class History:
    """The steps that were done, those that were taken back, and marks of those that were done.

    The lists are never changed, only replaced; so a mark may keep one as it is.
    """

    def __init__(self):
        self.done = []
        self.undone = []
        self.marks = {}

    def last(self):
        """The last step that was done, None if there is none."""
        return self.done[-1] if self.done else None

    def record(self, step):
        """Adds a step; what was taken back before it cannot be done again."""
        self.done = [*self.done, step]
        self.undone = []

    def take_back(self):
        """Takes back the last step."""
        if not self.done:
            raise NothingToUndo()
        self.undone = [*self.undone, self.done[-1]]
        self.done = self.done[:-1]

    def do_again(self):
        """Does the step again that was taken back last."""
        if not self.undone:
            raise NothingToRedo()
        self.done = [*self.done, self.undone[-1]]
        self.undone = self.undone[:-1]

    def remember(self, name):
        """Remembers the steps that were done under the name."""
        self.marks[name] = self.done

    def return_to(self, name):
        """Restores the steps that the name remembers."""
        if name not in self.marks:
            raise NoSuchMark(name)
        self.done = self.marks[name]
        self.undone = []
