"""A live desk: its office changes, operation by operation, and each operation can be undone."""

from lostdesk.matches import served
from lostdesk.offices import Office
from lostdesk.operations import check_operations, performed


class Course:
    """What a desk has come to; it never changes, so that a desk can go back to it.

    It has the office, the marks (a dict from names to offices), a tuple of all operations in effect, each with
    the office and the marks before it, and a tuple of the operations that can be redone.
    """

    def __init__(self, present, marked, past, undone):
        self.present = present
        self.marked = marked
        self.past = past
        self.undone = undone

    def step(self, operation, undone):
        """Return the course after an operation, with what can be redone then, and the operation's result."""
        present, marked, result = performed(self.present, self.marked, operation)
        past = self.past + ((operation, self.present, self.marked),)
        return Course(present, marked, past, undone), result

    def undo(self):
        """Return the course without the last operation in effect, and whether there was one."""
        if len(self.past) == 0:
            return self, False
        operation, present, marked = self.past[-1]
        return Course(present, marked, self.past[:-1], self.undone + (operation,)), True

    def redo(self):
        """Return the course after the operation that was undone last, and whether there was one."""
        if len(self.undone) == 0:
            return self, False
        later, _ = self.step(self.undone[-1], self.undone[:-1])
        return later, True

    def after(self, operation):
        """Return the course after an operation, or after undo or redo, and its result."""
        if operation[0] == "undo":
            return self.undo()
        if operation[0] == "redo":
            return self.redo()
        return self.step(operation, ())


class Desk:
    """An office that changes, at first without things and claims."""

    def __init__(self, catalog):
        self._course = Course(Office(catalog, {}, {}), {}, (), ())

    def _execute(self, operation):
        """Execute an operation, or undo or redo, and return its result."""
        self._course, result = self._course.after(operation)
        return result

    def find(self, label, thing):
        """Add a thing, and return the greatest number of pairs then."""
        return self._execute(("find", label, thing))

    def lose(self, label, claim):
        """Add a claim, and return the greatest number of pairs then."""
        return self._execute(("lose", label, claim))

    def hand(self, claim, thing):
        """Hand a thing over, and return by how many pairs the greatest number is less then."""
        return self._execute(("hand", claim, thing))

    def narrow(self, label, feature, value):
        """Leave only one value for a feature in a note, and return the greatest number of pairs then."""
        return self._execute(("narrow", label, feature, value))

    def drop(self, label):
        """Remove a claim or a thing, and return whether it was in some greatest match."""
        return self._execute(("drop", label))

    def mark(self, name):
        """Mark the present office with a name, and return whether there was such a mark."""
        return self._execute(("mark", name))

    def go(self, name):
        """Return to the office that was marked with a name last, and return the number of its claims."""
        return self._execute(("go", name))

    def undo(self):
        """Undo the last operation in effect, and return whether there was one."""
        return self._execute(("undo",))

    def redo(self):
        """Execute the operation that was undone last once more, and return whether there was one."""
        return self._execute(("redo",))

    def office(self):
        """Return the present office."""
        return self._course.present

    def open_claims(self):
        """Return the ascending list of the claims that no greatest match has."""
        office = self.office()
        return [claim for claim in office.claims if served(office, claim) == "never"]

    @property
    def marks(self):
        """A new list of the names of all marks, ascending."""
        return sorted(self._course.marked)

    @property
    def history(self):
        """A new list of all operations in effect, in order."""
        return [step[0] for step in self._course.past]

    def apply_all(self, operations):
        """Execute a list of operations, all or none, and return the list of their results."""
        check_operations(operations)
        course = self._course
        results = []
        for operation in operations:
            course, result = course.after(operation)
            results.append(result)
        self._course = course
        return results

    @classmethod
    def replay(cls, catalog, operations):
        """Return a desk after a list of operations."""
        desk = cls(catalog)
        desk.apply_all(operations)
        return desk

    def tried(self, operations, keep):
        """Execute a list of operations, keep what they change if that is wanted, and return their results."""
        with Trial(self) as trial:
            results = self.apply_all(operations)
            if keep:
                trial.hold()
        return results


class Trial:
    """A block at whose end a desk is as it was at the beginning, unless what was changed is held."""

    def __init__(self, desk):
        self._desk = desk
        # To what the desk goes back at the end of the block, None if to nothing.
        self._before = None

    def __enter__(self):
        self._before = self._desk._course
        return self

    def hold(self):
        """Let the desk stay as it is at the end of the block."""
        self._before = None

    def __exit__(self, kind, value, trace):
        desk = self._desk
        if self._before is None:
            return
        desk._course = self._before
