"""Knowledge: what steps make known of the matches of a report."""

from countonce.classes import Classes
from countonce.reports import alias_tables


class Knowledge:
    """The classes of a report and what is known of them: values, given columns and known aliases."""

    def __init__(self, report, given):
        self.classes = Classes(report)
        self._tables = alias_tables(report)
        self._given = list(given)
        self._known = []

    def knows(self, alias):
        """Tell whether a step has made an alias known."""
        return alias in self._known

    def is_known(self, column):
        """Tell whether the class of a column is known."""
        number = self.classes.class_of(column)
        if number in self.classes.class_values():
            return True
        return number in [self.classes.class_of(other) for other in self._given]

    def allows(self, step):
        """Tell whether any value is a step that is allowed now."""
        if not isinstance(step, tuple):
            return False
        if len(step) == 4 and step[0] == "same":
            return self.classes.allows(step[1], step[2], step[3])
        return len(step) == 3 and step[0] == "known" and self._can_know(step[1], step[2])

    def _can_know(self, alias, key):
        if alias not in list(self._tables) or key not in self._tables[alias].unique:
            return False
        return all([self.is_known((alias, column)) for column in key])

    def take(self, step):
        """Take an allowed step."""
        if step[0] == "same":
            self.classes.take_same(step[1], step[2])
        elif not self.knows(step[1]):
            alias = step[1]
            self._known.append(alias)
            self._given.extend([(alias, column) for column in self._tables[alias].columns])

    def take_all(self):
        """Take allowed steps until no further one changes what is known; return the list of these steps."""
        steps = self.classes.take_same_steps()
        step = self._telling_step()
        while step is not None:
            steps.append(step)
            self.take(step)
            step = self._telling_step()
        return steps

    def _telling_step(self):
        """Return an allowed step that makes one more alias known, or None."""
        for alias in self._tables:
            for key in self._tables[alias].unique:
                if not self.knows(alias) and self._can_know(alias, key):
                    return ("known", alias, key)
        return None

    def take_each(self, steps):
        """Take the steps of a list one after the other; tell whether each one is allowed then."""
        for step in steps:
            if not self.allows(step):
                return False
            self.take(step)
        return True
