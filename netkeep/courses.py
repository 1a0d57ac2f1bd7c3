"""Courses of nets: the parts now, what can be taken back and done again, and what went into the log."""

from netkeep.asking import answered
from netkeep.changing import CHANGES, change
from netkeep.commands import read_command
from netkeep.faults import NothingToRedo, NothingToUndo


class Course:
    """Where a net has come to; a course never changes."""

    def __init__(self, now, past, future, did):
        self.now = now
        self.past = past
        self.future = future
        self.did = did

    def changed(self, now):
        """The course behind a change to these parts."""
        return Course(now, self.past + [self.now], [], self.did)

    def undone(self):
        """The course behind the last change taken back."""
        if not self.past:
            raise NothingToUndo()
        return Course(self.past[-1], self.past[:-1], self.future + [self.now], self.did)

    def redone(self):
        """The course behind the last change that was taken back, done again."""
        if not self.future:
            raise NothingToRedo()
        return Course(self.future[-1], self.past + [self.now], self.future[:-1], self.did)

    def noted(self, lines):
        """The course with command lines that were done together as one entry more; without lines as it is."""
        if not lines:
            return self
        entry = lines[0] if len(lines) == 1 else tuple(lines)
        return Course(self.now, self.past, self.future, self.did + [entry])


def behind_command(course, command):
    """The course behind a command, not yet noted, the answer, and the list of what goes into the log."""
    first, told = read_command(command)
    if first in CHANGES:
        now, answer = change(course.now, first, told)
        return course.changed(now), answer, [command]
    if first == "undo":
        further = course.undone()
        return further, str(len(further.past)), [command]
    if first == "redo":
        further = course.redone()
        return further, str(len(further.past)), [command]
    return course, answered(course.now, first, told), []
