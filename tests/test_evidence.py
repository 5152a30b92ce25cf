"""The answers over many schemas and reports: their evidence is walked, and databases are asked."""

import copy
import unittest

from countonce.answers import (adds_up, canonical_database, counts_once, is_loss_answer, is_once_answer,
                               is_sum_answer, loses_none, row_at)
from countonce.classes import is_empty, same_steps
from countonce.dropping import can_drop, is_drop_answer, smaller, without
from countonce.results import counted, joined, matches, pairs, plain_sum, total
from tests.many import changed, some_cases, some_database
from tests.plain import (Grown, has_two_own_values, is_plain_database, is_plain_drop_answer, is_plain_loss_answer,
                         is_plain_once_answer, is_plain_sum_answer, keeps_own_filters, plain_canonical,
                         plain_matches, plain_pair)
from tests.samples import ANY_VALUES


def spare_aliases(report):
    """Return the aliases that are not needed."""
    return [alias for alias, _ in report.aliases[1:] if alias not in [name for name, _ in report.groups]]


def drops(report):
    """Return a dict from the aliases that are not needed to the reports without them and the answers."""
    return {alias: (without(report, alias), can_drop(report, alias)) for alias in spare_aliases(report)}


def all_answers(report):
    """Return (name, answer, judge of the program, judge of the tests) for each question of a report."""
    found = [
        ("once", counts_once(report), lambda value: is_once_answer(report, value),
         lambda value: is_plain_once_answer(report, value)),
        ("sum", adds_up(report), lambda value: is_sum_answer(report, value),
         lambda value: is_plain_sum_answer(report, value)),
        ("loss", loses_none(report), lambda value: is_loss_answer(report, value),
         lambda value: is_plain_loss_answer(report, value))]
    for alias, (rest, answer) in drops(report).items():
        found.append(("drop", answer, lambda value, alias=alias: is_drop_answer(report, alias, value),
                      lambda value, rest=rest: is_plain_drop_answer(rest, report, value)))
    return found


def reached(report, database, match, lead):
    """Return the row to which a tuple (start, path) leads in a database."""
    grown = Grown(report.schema)
    for table in report.schema.tables:
        grown.rows[table.name] = [dict(zip(table.columns, row)) for row in database[table.name]]
    name = dict(report.aliases)[lead[0]]
    row = dict(zip(report.schema.table(name).columns, match[lead[0]]))
    name, row = grown.at(name, row, lead[1])
    return tuple(row[column] for column in report.schema.table(name).columns)


class EvidenceTest(unittest.TestCase):
    def test_evidence_of_all_answers(self):
        many = {}
        for _, report in some_cases("evidence", 700):
            text = str(report)
            for name, answer, judge, plain in all_answers(report):
                before = copy.deepcopy(answer)
                self.assertIn(answer[0], ("yes", "no"))
                self.assertTrue(plain(answer), (str(report.schema), text, name, answer))
                self.assertIs(judge(answer), True, (str(report.schema), text, name, answer))
                self.assertEqual(answer, before)
                kind = (name, answer[0], answer[1] is None)
                many[kind] = many.get(kind, 0) + 1
            self.assertEqual(str(report), text)
        self.assertEqual(len(many), 10)
        self.assertTrue(min(many.values()) > 20, many)

    def test_answers_that_are_changed_somewhere(self):
        many = {}
        words = [0, 1, True, False, (), [], None, "link", "m", "group", "filter", ("m", (0,)), ("filter", (0,)), {},
                 (0, 1), ("link", (1,)), ("group", (0, 0)), ("link", 0), ("link", 1), ("filter", 0), ("group", 0),
                 ("m", ()), "same", "known", (1, 0), *ANY_VALUES]
        for rng, report in some_cases("changed", 400):
            found = all_answers(report)
            pool = words + [part for _, answer, _, _ in found for part in answer]
            for name, answer, judge, plain in found:
                for _ in range(15):
                    value = answer
                    for _ in range(rng.choice([1, 1, 1, 2, 3])):
                        value = changed(rng, value, pool)
                    before = copy.deepcopy(value)
                    expected = plain(value)
                    self.assertIs(judge(value), expected, (str(report.schema), str(report), name, value))
                    self.assertEqual(value, before)
                    kind = (name, answer[0], expected)
                    many[kind] = many.get(kind, 0) + 1
        self.assertEqual(len(many), 16)
        self.assertTrue(min(many.values()) > 15, many)

    def test_no_answer_of_another_report_is_taken_for_one(self):
        # Evidence of one report is judged for another one with the same schema.
        agreed = {True: 0, False: 0}
        last = {}
        for rng, report in some_cases("others", 500, tables=2, aliases=3):
            for name, answer, judge, plain in all_answers(report):
                for value in last.get(name, []):
                    self.assertIs(judge(value), plain(value), (str(report.schema), str(report), name, value))
                    agreed[plain(value)] += 1
                last[name] = (last.get(name, []) + [answer])[-12:]
        self.assertTrue(agreed[True] > 500 and agreed[False] > 500, agreed)

    def test_canonical_databases(self):
        for _, report in some_cases("canonical", 500):
            if not has_two_own_values(report):
                database, row = canonical_database(report)
                grown, first = plain_canonical(report)
                self.assertTrue(is_plain_database(report.schema, database))
                self.assertEqual({name: len(database[name]) for name in database},
                                 {name: len(grown.rows[name]) for name in grown.rows})
                self.assertTrue(keeps_own_filters(report, row))
                self.assertIn(row, database[report.aliases[0][1]])
                self.assertEqual([cell is None for cell in row], [cell is None for cell in first.values()])
                self.assert_ways(report, database, row, grown, first)

    def assert_ways(self, report, database, row, grown, first):
        """Check that all rows are reached, and that two ways lead to one row where they should."""
        ways, ends = [()], {}
        for way in ways:
            end = grown.at(report.aliases[0][1], first, way)
            found = row_at(report, database, row, way)
            self.assertEqual(found is None, end is None)
            if end is not None:
                key = (end[0], *end[1].values())
                self.assertEqual(ends.setdefault(key, found), found)
                ways += [(*way, number) for number in range(len(report.schema.table(end[0]).refers)) if len(way) < 5]
        self.assertEqual(len(ends), sum(map(len, database.values())))


class DatabasesTest(unittest.TestCase):
    def test_promises_in_valid_databases(self):
        kept = {}
        for rng, report in some_cases("promises", 600):
            once, sums, none_lost = [answer(report)[0] == "yes" for answer in (counts_once, adds_up, loses_none)]
            for _ in range(4):
                database = some_database(rng, report.schema)
                told = [plain_pair(report, match) for match in plain_matches(report, database)]
                rows = [row for row in database[report.aliases[0][1]] if keeps_own_filters(report, row)]
                self.assertTrue(len(told) == len(set(told)) or not once)
                self.assertTrue(len({row for _, row in told}) == len(set(told)) or not sums)
                self.assertTrue({row for _, row in told} == set(rows) or not none_lost)
                self.assert_sums(report, database, once, sums, none_lost)
                kind = (once, sums, none_lost, len(told) > 0)
                kept[kind] = kept.get(kind, 0) + 1
        self.assertTrue(len(kept) == 16 and min(kept.values()) > 5, kept)

    def assert_sums(self, report, database, once, sums, none_lost):
        """Check what the promises say of the sums (point 2)."""
        if once:
            self.assertEqual(joined(report, database), counted(report, database))
        if sums:
            self.assertEqual(sum(counted(report, database).values()), total(report, database))
        if none_lost:
            self.assertEqual(total(report, database), plain_sum(report, database))
        if once and sums and none_lost:
            self.assertEqual(sum(joined(report, database).values()), plain_sum(report, database))

    def test_databases_of_the_answers_no_break_the_promises(self):
        for _, report in some_cases("broken", 400):
            once, sums, loss = counts_once(report), adds_up(report), loses_none(report)
            if once[0] == "no":
                found = [plain_pair(report, match) for match in matches(report, once[1])]
                self.assertGreater(found.count(plain_pair(report, once[2])), 1)
                self.assertGreater(len(found), len(pairs(report, once[1])))
            if sums[0] == "no":
                found = pairs(report, sums[1])
                self.assertGreater(len(found), len({row for _, row in found}))
            if loss[0] == "no":
                self.assertNotIn(loss[2], [row for _, row in pairs(report, loss[1])])

    def test_empty_reports_have_no_match(self):
        for rng, report in some_cases("empty", 600):
            if is_empty(report):
                for _ in range(3):
                    database = some_database(rng, report.schema)
                    self.assertEqual([list(matches(report, database)), pairs(report, database)], [[], []])

    def test_drops_in_valid_databases(self):
        seen = {"yes": 0, "no": 0}
        for rng, report in some_cases("drops", 500):
            found = drops(report)
            for _ in range(4):
                database = some_database(rng, report.schema)
                own = set(pairs(report, database))
                for alias, (rest, answer) in found.items():
                    told = plain_matches(rest, database)
                    self.assertTrue(own <= set(pairs(rest, database)))
                    if answer[0] == "yes":
                        self.assertEqual(own, set(pairs(rest, database)))
                        for match in told[:3]:
                            self.assert_leads(report, rest, database, match, answer[1])
                    seen[answer[0]] += len(told) > 0
            for alias, (rest, answer) in found.items():
                if answer[0] == "no":
                    lost = set(pairs(rest, answer[1])) - set(pairs(report, answer[1]))
                    self.assertIn(plain_pair(rest, answer[2]), lost)
        self.assertTrue(min(seen.values()) > 100, seen)

    def assert_leads(self, report, rest, database, match, evidence):
        """Check that the rows that are reached from a match are a match with the same pair."""
        rows = {alias: reached(rest, database, match, evidence[alias]) for alias in evidence}
        self.assertIn(rows, plain_matches(report, database))
        self.assertEqual(plain_pair(report, rows), plain_pair(rest, match))

    def test_smaller_reports(self):
        gone = {}
        for rng, report in some_cases("smaller", 500):
            left, expected = smaller(report), report
            while [alias for alias in spare_aliases(expected) if can_drop(expected, alias)[0] == "yes"]:
                first = [alias for alias in spare_aliases(expected) if can_drop(expected, alias)[0] == "yes"][0]
                expected = without(expected, first)
            self.assertEqual(str(left), str(expected))
            many = len(report.aliases) - len(left.aliases)
            gone[many] = gone.get(many, 0) + 1
            for _ in range(3):
                database = some_database(rng, report.schema)
                self.assertEqual(set(pairs(left, database)), set(pairs(report, database)))
                self.assertEqual([counted(left, database), total(left, database)],
                                 [counted(report, database), total(report, database)])
        self.assertTrue(len(gone) == 4 and min(gone.values()) > 5, gone)


class NewTest(unittest.TestCase):
    def spoil(self, value):
        """Change all lists and dicts in a value."""
        if type(value) in (list, tuple):
            for part in value:
                self.spoil(part)
        if type(value) is dict:
            for part in value.values():
                self.spoil(part)
        if type(value) in (list, dict):
            value.clear()

    def test_returned_lists_and_dicts_are_new(self):
        for rng, report in some_cases("new", 150):
            text, schema = str(report), str(report.schema)
            database = some_database(rng, report.schema)
            calls = [lambda: counts_once(report), lambda: adds_up(report), lambda: loses_none(report),
                     lambda: same_steps(report), lambda: joined(report, database), lambda: counted(report, database),
                     lambda: pairs(report, database), lambda: list(matches(report, database)),
                     *[lambda alias=alias: can_drop(report, alias) for alias in spare_aliases(report)]]
            if not has_two_own_values(report):
                calls.append(lambda: canonical_database(report))
            for call in calls:
                first = call()
                copied = copy.deepcopy(first)
                self.spoil(first)
                self.assertEqual(call(), copied)
            self.assertEqual([str(report), str(report.schema)], [text, schema])

    def test_nothing_in_an_answer_is_shared(self):
        for _, report in some_cases("shared", 150):
            for _, answer, judge, _ in all_answers(report):
                found = []
                self.collect(answer, found)
                self.assertEqual(len({id(value) for value in found}), len(found))

    def collect(self, value, found):
        """Collect all lists and dicts in a value."""
        if type(value) in (list, dict):
            found.append(value)
        if type(value) in (list, tuple, dict):
            for part in value.values() if type(value) is dict else value:
                self.collect(part, found)


if __name__ == "__main__":
    unittest.main()
