import unittest

from countonce.answers import counts_once
from countonce.often import equally_often, is_often_answer
from countonce.reports import Report
from countonce.results import matches
from countonce.schemas import Schema
from countonce.within import same_pairs, within
from tests.many import changed, some_database
from tests.plain import plain_matches, plain_pair
from tests.plain_pairs import count_of, is_plain_often_answer
from tests.samples import ANY_VALUES, SMALL, TREE, exact, report_of
from tests.test_within import LONG, TWICE, PairsCase
from tests.twists import some_pairs

ITEMS = "from items i; join orders o; link i.order = o.id; "


class ExamplesTest(PairsCase):
    def test_example(self):
        schema = Schema.parse(SMALL)
        one = Report.parse(schema, "report one\n  from orders o\n  join items i\n  link i.order = o.id\n  rows\nend")
        two = Report.parse(schema, "report two\n  from orders o\n  join items i\n  join items j\n"
                                   "  link i.order = o.id\n  link j.order = o.id\n  rows\nend")
        database = {"orders": [(1, 5)], "items": [(1, 1, 20), (1, 2, 30)]}
        self.assertEqual([equally_often(one, two)[0], is_often_answer(one, two, ("no", database, (1, 5), ())),
                          equally_often(one, one)[0]], ['no', True, 'yes'])
        self.assert_words(one, two, "yes yes no")


class WordsTest(PairsCase):
    """Reports of which each is within the other one."""

    def test_how_often_an_alias_is_joined(self):
        once = "from orders o; join items i; link i.order = o.id; rows"
        twice = "from orders o; join items i; join items j; link i.order = o.id; link j.order = o.id; rows"
        thrice = "from orders o; join items i; join items j; join items k; link i.order = o.id; link j.order = o.id; " \
                 "link k.order = o.id; rows"
        chain = "from orders o; join items i; join items j; join items k; link i.order = o.id; link j.order = i.order; " \
                "link k.order = j.order; rows"
        for one, two in ((once, twice), (once, thrice), (twice, thrice)):
            self.assert_rows(SMALL, one, two, "yes yes no")
        self.assert_rows(SMALL, thrice, chain, "yes yes yes")

    def test_what_the_aliases_beside_are_linked_to(self):
        start = "from orders o; join items i; join items j; link i.order = o.id; "
        self.assert_rows(SMALL, start + "link j.order = o.id; link j.line = i.line; rows",
                         "from orders o; join items i; link i.order = o.id; rows", "yes yes yes")
        self.assert_rows(SMALL, start + "link j.line = i.line; rows", start + "link j.price = i.price; rows",
                         "yes yes no")
        self.assert_rows(SMALL, start + "link j.line = i.line; rows", start + "link j.line = i.line; "
                                        "link j.line = j.line; rows", "yes yes yes")
        self.assert_rows(SMALL, start + "link j.line = i.line; rows", start + "rows", "yes yes no")
        self.assert_rows(SMALL, start + "link j.line = i.price; rows", start + "link i.line = j.price; rows",
                         "no no no")

    def test_groups_that_take_part(self):
        start = "from orders o; join items i; join items j; link i.order = o.id; link j.order = o.id; "
        self.assert_rows(SMALL, start + "by i.line; rows", start + "by j.line; rows", "yes yes yes")
        self.assert_rows(SMALL, start + "by i.line; rows", start + "by j.price; rows", "no no no")
        self.assert_rows(SMALL, start + "by i.line; by j.line; rows", start + "by j.line; by i.line; rows",
                         "yes yes yes")
        self.assert_rows(SMALL, start + "by i.line; by j.price; rows", start + "by i.line; by i.price; rows",
                         "no yes no")

    def test_one_cross_of_two_others(self):
        start = "from orders o; join orders p; join orders q; "
        self.assert_rows(SMALL, start + "rows", "from orders o; join orders p; rows", "yes yes no")
        self.assert_rows(SMALL, start + "link p.customer = q.customer; rows", start + "rows", "yes yes no")
        self.assert_rows(SMALL, start + "link p.customer = q.customer; rows",
                         start + "link o.customer = q.customer; rows", "yes yes no")
        self.assert_rows(SMALL, start + "link p.customer = o.customer; rows",
                         start + "link o.customer = q.customer; rows", "yes yes yes")
        self.assert_rows(SMALL, start + "link p.customer = o.id; rows", start + "link p.customer = q.id; rows",
                         "yes no no")

    def test_an_orientation_that_is_turned(self):
        # One alias refers to the other one, and either is the measured one of the group.
        start = "from a m; join a n; join a o; link n.y = o.x; "
        self.assert_rows(TREE, start + "by n.x; rows", start + "by o.x; rows", "no no no")
        self.assert_rows(TREE, start + "by n.x; rows", "from a m; join a o; join a n; link o.y = n.x; by o.x; rows",
                         "yes yes yes")

    def test_rows_that_two_references_share(self):
        self.assert_rows(TWICE, "from b m; join b n; link m.one = n.one; rows",
                         "from b m; join b n; join a p; link p.k = n.one; link m.one = p.k; rows", "yes yes yes")
        self.assert_rows(TWICE, "from b m; join b n; link m.one = n.one; rows",
                         "from b m; join b n; link m.one = n.two; rows", "no yes no")
        self.assert_rows(TWICE, "from b m; join b n; link m.one = n.one; link m.two = n.two; rows",
                         "from b m; join b n; link m.one = n.one; link m.two = m.two; rows", "yes yes no")

    def test_a_main_key_whose_columns_stand_last(self):
        self.assert_rows(LONG, "from b m; join a n; link m.q = n.y; link m.p = n.x; by n.v; rows",
                         "from b m; join a n; join b o; link m.q = n.y; link m.p = n.x; link o.k = m.k; by n.v; rows",
                         "yes yes yes")
        self.assert_rows(LONG, "from b m; join a n; link m.q = n.y; rows", "from b m; join a n; link m.p = n.x; rows",
                         "yes yes no")

    def test_other_rows_with_as_many_matches_in_all(self):
        # One report has more matches with fewer rows, and the other one more with more rows: as many in all.
        schema = "table a\n  column p\n  key p\nend\ntable b\n  column p\n  column r\n  column s\n  column t\n" \
                 "  key s p\n  ref r -> a\nend"
        self.assert_rows(schema, "from b x; join a m; join a p; join b o; link o.r = p.p; link p.p = x.r; "
                                 "where o.p = 0; where p.p = 0; by x.t; rows",
                         "from b m; join a n; join b o; join b p; link n.p = m.r; link p.r = n.p; link o.r = p.p; "
                         "link m.r = n.p; where p.p = 0; by m.t; rows", "yes no no")

    def test_references_that_are_followed_again(self):
        # The second reference of the way back and forth is optional: it is followed row by row.
        report = report_of(TREE, "from a m; join a n; join a o; link m.y = n.x; link n.y = o.x; rows")
        other = report_of(TREE, "from a m; join a n; link m.y = n.x; link n.y = n.y; rows")
        forth = {"m": ("m", ()), "n": ("n", ())}
        back = {"m": ("m", ()), "n": ("m", (0,)), "o": ("n", (0,))}
        self.assertIs(is_often_answer(report, other, ("yes", (forth, back))), True)
        self.assertIs(is_plain_often_answer(report, other, ("yes", (forth, back))), True)
        forth["n"] = ("m", (0,))
        self.assertIs(is_often_answer(report, other, ("yes", (forth, back))), True)
        self.assertIs(is_plain_often_answer(report, other, ("yes", (forth, back))), True)
        self.assert_words(report, other, "yes yes yes")


class JudgeTest(PairsCase):
    def judge(self, report, other, value, expected):
        before = exact(value)
        self.assertIs(is_often_answer(report, other, value), expected, value)
        self.assertIs(is_often_answer(value=value, other=other, report=report), expected)
        self.assertIs(is_plain_often_answer(report, other, value), expected, value)
        self.assertEqual(exact(value), before)

    def test_evidence(self):
        report = report_of(SMALL, "from items i; rows")
        other = report_of(SMALL, "from items j; join orders o; link j.order = o.id; rows")
        forth, back = {"j": ("i", ()), "o": ("i", (0,))}, {"i": ("j", ())}
        self.judge(report, other, ("yes", (forth, back)), True)
        self.judge(other, report, ("yes", (back, forth)), True)
        self.judge(report, other, ("yes", (back, forth)), False)
        for value in ([forth, back], (forth,), (forth, back, None), (forth, None), (None, back), (None, None), None, {},
                      (forth, {"i": ("o", ())}), (forth, {}), ({"j": ("i", ()), "o": ("i", ())}, back),
                      (forth, {"i": ("j", []), }), ({**forth, "x": ("i", ())}, back), *ANY_VALUES):
            self.judge(report, other, ("yes", value), False)

    def test_ways_that_do_not_undo_each_other(self):
        report = report_of(SMALL, "from orders o; join items i; join items j; link i.order = o.id; "
                                  "link j.order = o.id; rows")
        straight = {alias: (alias, ()) for alias in "oij"}
        crossed = {"o": ("o", ()), "i": ("j", ()), "j": ("i", ())}
        folded = {"o": ("o", ()), "i": ("i", ()), "j": ("i", ())}
        for forth, back, expected in (
                (straight, straight, True), (crossed, crossed, True), (straight, crossed, False),
                (crossed, straight, False), (folded, folded, False), (straight, folded, False), (folded, crossed, False)):
            self.judge(report, report, ("yes", (forth, back)), expected)

    def test_reports_within_each_other_that_are_not_equally_frequent(self):
        one = report_of(SMALL, "from items i; rows")
        two = report_of(SMALL, "from items i; join items j; rows")
        forth, back = {"i": ("i", ()), "j": ("i", ())}, {"i": ("i", ())}
        # Back and then forth is right for the first one, but not the other way round.
        self.judge(one, two, ("yes", (forth, back)), False)
        self.judge(two, one, ("yes", (back, forth)), False)

    def test_several_places_of_a_row(self):
        report = report_of(SMALL, ITEMS + "rows")
        for lead in (("o", ()), ("i", (0,))):
            for back in (("o", ()), ("i", (0,))):
                value = ("yes", ({"i": ("i", ()), "o": lead}, {"o": back, "i": ("i", ())}))
                self.judge(report, report, value, True)

    def test_empty_reports(self):
        empty = report_of(SMALL, "from orders o; where o.id = 1; where o.id = 2; rows")
        report = report_of(SMALL, "from orders o; rows")
        same = {"o": ("o", ())}
        self.judge(empty, empty, ("yes", None), True)
        for value in ((None, None), (same, same), (None, same), {}, (), False):
            self.judge(empty, empty, ("yes", value), False)
        for one, two in ((empty, report), (report, empty)):
            for value in (None, (None, None), (None, same), (same, None), (same, same)):
                self.judge(one, two, ("yes", value), False)
        self.judge(report, report, ("yes", None), False)
        database = {"orders": [(3, 5)], "items": []}
        self.judge(empty, report, ("no", database, (3, 5), ()), True)
        self.judge(report, empty, ("no", database, (3, 5), ()), True)
        self.judge(empty, empty, ("no", database, (3, 5), ()), False)

    def test_databases(self):
        one = report_of(SMALL, "from orders o; join items i; link i.order = o.id; by i.line; rows")
        two = report_of(SMALL, "from orders o; join items i; join items j; link i.order = o.id; link j.order = o.id; "
                               "by i.line; rows")
        database = {"orders": [(0, 1), (1, 5), (2, 5)], "items": [(1, 1, 20), (1, 2, 30), (2, 1, 20)]}
        self.judge(one, two, ("no", database, (1, 5), (1,)), True)
        self.judge(one, two, ("no", database, (1, 5), (2,)), True)
        self.judge(two, one, ("no", database, (1, 5), (2,)), True)
        for row, group in (((2, 5), (1,)), ((0, 1), (1,)), ((1, 5), (3,)), ((1, 5), ()), ((1, 5), (1, 1)), ((1, 5), 1),
                           ((1, 5), [1]), ([1, 5], (1,)), ((1, 6), (1,)), ((1, 5, 1), (1,)), ({"o": (1, 5)}, (1,)),
                           ((1, 5), (True,)), ((True, 5), (1,)), ((1, 5), (None,)), ((1, 1, 20), (1,))):
            self.judge(one, two, ("no", database, row, group), False)
        for value in ANY_VALUES:
            self.judge(one, two, ("no", value, (1, 5), (1,)), False)
            self.judge(one, two, ("no", database, (1, 5), value), False)
            if value != (1, 5):
                self.judge(one, two, ("no", database, value, (1,)), False)
        for wrong in ({**database, "orders": [(1, 5)]}, {**database, "x": []}, {"items": database["items"]},
                      {**database, "items": [*database["items"], (1, 2, 31)]},
                      {**database, "items": [*database["items"], (1, None, 31)]}):
            self.judge(one, two, ("no", wrong, (1, 5), (1,)), False)
        for value in (["no", database, (1, 5), (1,)], ("no", database, (1, 5)), ("yes", database, (1, 5), (1,)),
                      ("no", database, (1, 5), (1,), None), ("no", database, (1,), (1, 5))):
            self.judge(one, two, value, False)

    def test_numbers_are_compared_not_that_there_are_some(self):
        one = report_of(SMALL, "from orders o; rows")
        two = report_of(SMALL, "from orders o; join items i; link i.order = o.id; rows")
        for lines, expected in ((0, True), (1, False), (2, True), (3, True)):
            items = [(1, line, 0) for line in range(lines)]
            self.judge(one, two, ("no", {"orders": [(1, 5)], "items": items}, (1, 5), ()), expected)

    def test_other_kinds(self):
        report = report_of(SMALL, ITEMS + "rows")
        other = report_of(SMALL, "from items i; join orders o; rows")
        for value in ANY_VALUES:
            for words in (value, ("yes", value), ("no", value), ("no", value, value, value), ("yes", (value, value))):
                self.judge(report, other, words, False)


class ManyTest(PairsCase):
    def test_numbers_in_databases(self):
        seen = {}
        for rng, report, other in some_pairs("numbers", 500):
            word = equally_often(report, other)[0]
            for _ in range(3):
                database = some_database(rng, report.schema)
                one = sorted(repr(plain_pair(report, match)) for match in plain_matches(report, database))
                two = sorted(repr(plain_pair(other, match)) for match in plain_matches(other, database))
                self.assertTrue(one == two or word == "no")
                seen[word, one == two, one != []] = seen.get((word, one == two, one != []), 0) + 1
        self.assertTrue(len(seen) == 6 and min(seen.values()) > 20, seen)

    def test_databases_of_answers_no(self):
        for _, report, other in some_pairs("differing", 500):
            answer = equally_often(report, other)
            if answer[0] == "no":
                _, database, row, group = answer
                self.assertNotEqual(count_of(report, database, row, group), count_of(other, database, row, group))

    def test_matches_led_to_and_back(self):
        # What the evidence tells of numbers is tried out: the ways lead from each match to another one and back.
        seen = 0
        for rng, report, other in some_pairs("ways", 300):
            answer = equally_often(report, other)
            if answer[0] == "yes" and answer[1] is not None:
                for _ in range(3):
                    database = some_database(rng, report.schema)
                    own, found = list(matches(report, database)), list(matches(other, database))
                    forth = [self.led(report, database, match, answer[1][0]) for match in own]
                    back = [self.led(other, database, match, answer[1][1]) for match in found]
                    self.assertEqual(sorted(map(self.ordered, forth)), sorted(map(self.ordered, found)))
                    self.assertEqual([self.led(other, database, match, answer[1][1]) for match in forth], own)
                    self.assertEqual([self.led(report, database, match, answer[1][0]) for match in back], found)
                    self.assertEqual([plain_pair(report, match) for match in own],
                                     [plain_pair(other, match) for match in forth])
                    seen += len(own)
        self.assertGreater(seen, 500)

    def ordered(self, match):
        return [(alias, repr(match[alias])) for alias in sorted(match)]

    def led(self, report, database, match, evidence):
        """Return the match to which evidence leads from a match."""
        found = {}
        for alias, (start, path) in evidence.items():
            table, row = report.schema.table(dict(report.aliases)[start]), match[start]
            for number in path:
                columns, name, _ = table.refers[number]
                wanted = [dict(zip(table.columns, row))[column] for column in columns]
                table = report.schema.table(name)
                row = next(other for other in database[name]
                           if [dict(zip(table.columns, other))[column] for column in table.unique[0]] == wanted)
            found[alias] = row
        return found

    def test_changed_answers(self):
        seen = {}
        words = ["m", "n", "o", ("m", ()), ("n", ()), ("m", (0,)), (0,), (0, 0), *ANY_VALUES]
        for rng, report, other in some_pairs("changed often", 400):
            first = value = equally_often(report, other)
            pool = words + list(value)
            for _ in range(15):
                value = changed(rng, rng.choice([first, first, value]), pool)
                expected = is_plain_often_answer(report, other, value)
                self.assertIs(is_often_answer(report, other, value), expected, value)
                kind = (value[0] if type(value) is tuple and value and value[0] in ("yes", "no") else "", expected)
                seen[kind] = seen.get(kind, 0) + 1
        self.assertTrue(len(seen) == 5 and min(seen.values()) > 20, seen)

    def test_evidence_that_is_put_together(self):
        seen = {True: 0, False: 0}
        for _, report, other in some_pairs("together", 150):
            found = [within(report, report), within(other, report), within(report, other), within(other, other)]
            evidence = [answer[1] for answer in found if answer[0] == "yes"]
            often = equally_often(report, other)
            if often[0] == "yes" and often[1] is not None:
                evidence += list(often[1])
            for forth in evidence:
                for back in evidence:
                    value = ("yes", (forth, back))
                    for one, two in ((report, other), (report, report)):
                        expected = is_plain_often_answer(one, two, value)
                        self.assertIs(is_often_answer(one, two, value), expected, value)
                        seen[expected] += 1
        self.assertTrue(min(seen.values()) > 200, seen)


class FactsTest(PairsCase):
    def test_what_equally_frequent_reports_have_in_common(self):
        seen = {}
        for _, report, other in some_pairs("common", 500, 5, 4):
            if equally_often(report, other)[0] == "yes":
                self.assertIs(same_pairs(report, other), True)
                once = counts_once(report)[0]
                self.assertEqual(once, counts_once(other)[0])
                seen[once] = seen.get(once, 0) + 1
        self.assertTrue(len(seen) == 2 and min(seen.values()) > 30, seen)


if __name__ == "__main__":
    unittest.main()
