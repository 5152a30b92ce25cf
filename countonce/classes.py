"""Classes: which columns of a report always have equal cells, and which values they have."""

from countonce.reports import alias_tables, all_columns, filter_values


def same_class(report, column, other):
    """Tell whether two columns of a report are in one class after all allowed steps ("same", ...)."""
    classes = Classes(report)
    classes.take_same_steps()
    return classes.are_together(column, other)


def is_empty(report):
    """Tell whether allowed steps ("same", ...) lead to a class with two values."""
    classes = Classes(report)
    classes.take_same_steps()
    return classes.is_contradiction()


def same_steps(report):
    """Return a list of steps ("same", ...) after which no further one changes the classes."""
    return Classes(report).take_same_steps()


class Classes:
    """The classes of a report's columns and values. Links and filters make them, and steps join them."""

    def __init__(self, report):
        self._tables = alias_tables(report)
        members = [*all_columns(report), *filter_values(report)]
        self._numbers = {member: number for number, member in enumerate(members)}
        for column, other in [*report.links, *report.filters]:
            self._put_together(column, other)

    def _put_together(self, member, other):
        old = self._numbers[member]
        new = self._numbers[other]
        for each in list(self._numbers):
            if self._numbers[each] == old:
                self._numbers[each] = new

    def class_of(self, column):
        """Return the number of the class of a column. Steps change these numbers."""
        return self._numbers[column]

    def are_together(self, column, other):
        """Tell whether two columns are in one class."""
        return self._numbers[column] == self._numbers[other]

    def class_values(self):
        """Return a dict from the classes that contain values to their values in ascending order."""
        found = {}
        for value in sorted([member for member in self._numbers if isinstance(member, int)]):
            found.setdefault(self._numbers[value], []).append(value)
        return found

    def is_contradiction(self):
        """Tell whether a class has two values."""
        return any([len(values) > 1 for values in list(self.class_values().values())])

    def allows(self, alias, other, key):
        """Tell whether the step ("same", alias, other, key) is allowed; the three may be any values."""
        names = list(self._tables)
        if alias not in names or other not in names or alias == other:
            return False
        table = self._tables[alias]
        if table.name != self._tables[other].name or key not in table.unique:
            return False
        return self._agree(alias, other, key)

    def _agree(self, alias, other, columns):
        return all([self.are_together((alias, column), (other, column)) for column in columns])

    def take_same(self, alias, other):
        """Put the columns of two aliases of one table together, which have the same row."""
        for column in self._tables[alias].columns:
            self._put_together((alias, column), (other, column))

    def take_same_steps(self):
        """Take allowed steps until no further one changes the classes; return the list of these steps."""
        steps = []
        step = self._changing_step()
        while step is not None:
            steps.append(step)
            self.take_same(step[1], step[2])
            step = self._changing_step()
        return steps

    def _changing_step(self):
        """Return an allowed step that changes the classes, or None."""
        for alias in self._tables:
            for other in self._tables:
                for key in self._tables[alias].unique:
                    if self.allows(alias, other, key) and not self._agree(alias, other, self._tables[alias].columns):
                        return ("same", alias, other, key)
        return None
