"""A report's text, written and read [14]."""

import random
import unittest

from breakreports.errors import BadReport, BadText
from breakreports.notes import read, written
from samples import ALL_SUMS, plain_report, refused, report_with

REPORT = (
    3, (2, 0), ((0, "ge", 10), (1, "ne", 999)), (("count", 0), ("sum", 1)), (True, False, True),
    (None, ((0, 1), None), ((1,), (0, "lt", 5))), True,
)
ROWS = (
    "fields 3",
    "keys 2 0",
    "test 0 ge 10",
    "test 1 ne 999",
    "sum count 0",
    "sum sum 1",
    "heads on off on",
    "foot -",
    "foot 0 1",
    "foot 1 if 0 lt 5",
    "rows on",
)
# Where the rows of each kind begin in the text above.
FIELDS, KEYS, TEST, SUM, HEADS, FOOT, DETAIL, BEHIND = 0, 1, 2, 4, 6, 7, 10, 11
NO_NUMBERS = ("", "00", "01", "007", "1000", "0000", "0001", "-1", "+1", "1.", "x", "1x", "on", "-", "if", "1,2", "_1")


def text_of(rows):
    return "\n".join(rows)


def exactly(thing):
    """A thing together with the kinds of all that is in it, since 1 == True."""
    if isinstance(thing, tuple):
        return tuple(exactly(inner) for inner in thing)
    return (thing.__class__, thing)


class NotesTest(unittest.TestCase):
    def assert_no_text(self, rows, number):
        with self.subTest(rows=rows):
            refusal = refused(BadText, read, text_of(rows))
            self.assertEqual(refusal.row, number)
            self.assertIs(refusal.row.__class__, int)

    def assert_no_report(self, rows, part, number):
        with self.subTest(rows=rows):
            refusal = refused(BadReport, read, text_of(rows))
            self.assertEqual((refusal.part, refusal.number), (part, number))

    def assert_read(self, rows, report):
        self.assertEqual(exactly(read(text_of(rows))), exactly(report))

    def put(self, at, row):
        """The sample's rows with another one at this place."""
        return ROWS[:at] + (row,) + ROWS[at + 1:]

    def assert_row_refused(self, at, row):
        self.assert_no_text(self.put(at, row), at)


class TestWritten(NotesTest):
    def assert_written(self, report, *rows):
        self.assertEqual(written(report), text_of(rows))
        self.assert_read(rows, report)

    def test_all_kinds_of_rows(self):
        self.assert_written(REPORT, *ROWS)

    def test_the_least_report(self):
        self.assert_written(
            (1, (), (), (), (False,), (None,), False), "fields 1", "keys", "heads off", "foot -", "rows off",
        )

    def test_fields(self):
        for fields in (1, 2, 3, 4, 5):
            self.assert_written(
                plain_report(fields), f"fields {fields}", "keys", "heads off", "foot -", "rows on",
            )

    def test_keys(self):
        for keys, row in (((), "keys"), ((0,), "keys 0"), ((4, 1), "keys 4 1"), ((2, 0, 3), "keys 2 0 3")):
            levels = len(keys) + 1
            self.assert_written(
                plain_report(5, keys), "fields 5", row, " ".join(["heads"] + ["off"] * levels),
                *["foot -"] * levels, "rows on",
            )

    def test_tests(self):
        tests = ((0, "eq", 0), (1, "ge", 9), (2, "lt", 10), (0, "ne", 999))
        told = ("test 0 eq 0", "test 1 ge 9", "test 2 lt 10", "test 0 ne 999")
        for many in range(5):
            report = plain_report(3, (), tests[:many])
            self.assert_written(report, "fields 3", "keys", *told[:many], "heads off", "foot -", "rows on")

    def test_sums(self):
        told = ("sum count 0", "sum sum 2", "sum least 2", "sum most 2")
        for many in range(5):
            report = (3, (), (), ALL_SUMS[:many], (True,), (None,), False)
            self.assert_written(report, "fields 3", "keys", *told[:many], "heads on", "foot -", "rows off")

    def test_feet(self):
        for foot, row in (
            (None, "foot -"),
            (((), None), "foot"),
            (((0,), None), "foot 0"),
            (((0, 1, 2, 3), None), "foot 0 1 2 3"),
            (((), (3, "eq", 0)), "foot if 3 eq 0"),
            (((2,), (0, "ne", 999)), "foot 2 if 0 ne 999"),
            (((1, 3), (1, "ge", 10)), "foot 1 3 if 1 ge 10"),
            (((1,), (1, "lt", 1)), "foot 1 if 1 lt 1"),
        ):
            self.assert_written(
                (3, (), (), ALL_SUMS, (True,), (foot,), True), "fields 3", "keys", "sum count 0", "sum sum 2",
                "sum least 2", "sum most 2", "heads on", row, "rows on",
            )

    def test_a_text(self):
        self.assertIs(written(REPORT).__class__, str)

    def test_others_are_refused(self):
        refusal = refused(BadReport, written, report_with(feet=(None, ((9,), None), None)))
        self.assertEqual((refusal.part, refusal.number), ("feet", 1))


class TestReadAgain(NotesTest):
    def test_any_report(self):
        chance = random.Random(14)
        words, kinds = ("eq", "ge", "lt", "ne"), ("count", "least", "most", "sum")
        numbers = (0, 1, 9, 10, 99, 100, 998, 999)
        for turn in range(400):
            fields = chance.randrange(1, 6)
            keys = tuple(chance.sample(range(fields), chance.randrange(min(fields, 3) + 1)))
            tests = tuple(
                (chance.randrange(fields), chance.choice(words), chance.choice(numbers))
                for test in range(chance.randrange(5))
            )
            sums = tuple((chance.choice(kinds), chance.randrange(fields)) for told in range(chance.randrange(5)))
            feet = []
            for level in range(len(keys) + 1):
                places = tuple(place for place in range(len(sums)) if chance.random() < 0.5)
                test = None
                if sums and chance.random() < 0.5:
                    test = (chance.randrange(len(sums)), chance.choice(words), chance.choice(numbers))
                feet.append(chance.choice((None, (places, test), (places, test))))
            heads = tuple(chance.random() < 0.5 for level in feet)
            report = (fields, keys, tests, sums, heads, tuple(feet), chance.random() < 0.5)
            with self.subTest(report=report):
                text = written(report)
                self.assertEqual(exactly(read(text)), exactly(report))
                self.assertEqual(written(read(text)), text)
                self.assertNotIn("  ", text)
                self.assertEqual(text.strip(), text)


class TestWords(NotesTest):
    """Rows that are none by their words."""

    def test_the_sample_is_read(self):
        self.assert_read(ROWS, REPORT)

    def test_fields(self):
        for row in ("fields", "fields 3 3", "field 3", "Fields 3", "fields3", "3", "fields on", "fields -"):
            self.assert_row_refused(FIELDS, row)

    def test_keys(self):
        for row in ("key 2 0", "keys 2 x", "keys -", "keys 2,0", "keys on", "Keys 2 0", "keys 2 0 if"):
            self.assert_row_refused(KEYS, row)

    def test_test(self):
        for row in (
            "test", "test 0", "test 0 ge", "test 0 ge 10 1", "test ge 0 10", "test 0 10 ge", "tests 0 ge 10",
            "test 0 10", "test -", "0 ge 10",
        ):
            self.assert_row_refused(TEST, row)
            self.assert_row_refused(TEST + 1, row)

    def test_sum(self):
        for row in ("sum", "sum count", "sum count 0 0", "sum 0 count", "sums count 0", "sum 0", "count 0", "sum -"):
            self.assert_row_refused(SUM, row)
            self.assert_row_refused(SUM + 1, row)

    def test_heads(self):
        for row in (
            "head on off on", "heads on off true", "heads 1 0 1", "heads On off on", "heads -", "heads on,off",
            "heads True", "heads of",
        ):
            self.assert_row_refused(HEADS, row)

    def test_foot(self):
        for row in (
            "foot - -", "foot - 0", "foot 0 -", "feet 0", "foot if", "foot 0 if", "foot 0 if 0", "foot 0 if 0 lt",
            "foot 0 if 0 lt 5 5", "foot 0 if lt 0 5", "foot 0 if 0 lt x", "foot - if 0 lt 5", "foot 0 0 lt 5",
            "foot x", "foot on", "foot 0 x if 0 lt 5", "foot if 0 lt 5 0", "foot 0 If 0 lt 5", "foot if if 0 lt 5",
            "foot 0 if 0 lt 5 if 0 lt 5",
        ):
            for at in (FOOT, FOOT + 1, FOOT + 2):
                self.assert_row_refused(at, row)

    def test_rows(self):
        for row in ("rows", "row on", "rows on on", "rows On", "rows 1", "rows true", "rows -", "rows on off"):
            self.assert_row_refused(DETAIL, row)

    def test_numbers(self):
        for word in NO_NUMBERS:
            self.assert_row_refused(FIELDS, f"fields {word}")
            self.assert_row_refused(KEYS, f"keys {word} 0")
            self.assert_row_refused(KEYS, f"keys 2 {word}")
            self.assert_row_refused(TEST, f"test {word} ge 10")
            self.assert_row_refused(TEST, f"test 0 ge {word}")
            self.assert_row_refused(SUM, f"sum count {word}")
            self.assert_row_refused(FOOT + 2, f"foot {word} if {word} lt 5")
            self.assert_row_refused(FOOT + 2, f"foot 1 if {word} lt 5")
            self.assert_row_refused(FOOT + 2, f"foot 1 if 0 lt {word}")
            if word not in ("-", "if"):
                self.assert_row_refused(FOOT + 1, f"foot {word}")
            self.assert_row_refused(FOOT + 1, f"foot 0 {word}")

    def test_a_blank_too_many(self):
        for at, row in enumerate(ROWS):
            for wrong in (" " + row, row + " ", "  " + row, row + "  "):
                self.assert_row_refused(at, wrong)
            for place, sign in enumerate(row):
                if sign == " ":
                    self.assert_row_refused(at, row[:place] + " " + row[place:])

    def test_empty_rows_and_other_rows(self):
        for at in range(len(ROWS)):
            for row in ("", " ", "-", "x", "report", "end", "~!@", "detail on", "again 0"):
                self.assert_row_refused(at, row)

    def test_the_first_wrong_row_is_told(self):
        rows = list(ROWS)
        for at in range(len(ROWS) - 1, -1, -1):
            rows[at] = rows[at] + " ?"
            self.assert_no_text(rows, at)


class TestAnyWords(NotesTest):
    """Where any text or any count may stand, what is read is looked at as a report."""

    def test_a_tests_word(self):
        for word in ("", "gt", "EQ", "0", "if", "-", "~", "test", "on", "!\"#$&'()*"):
            self.assert_no_report(self.put(TEST, f"test 0 {word} 10"), "tests", 0)
            self.assert_no_report(self.put(TEST + 1, f"test 0 {word} 10"), "tests", 1)

    def test_a_sums_kind(self):
        for word in ("", "min", "Count", "0", "if", "-", "sums", "on"):
            self.assert_no_report(self.put(SUM, f"sum {word} 0"), "sums", 0)
            self.assert_no_report(self.put(SUM + 1, f"sum {word} 0"), "sums", 1)

    def test_the_word_of_a_foots_test(self):
        for word in ("", "gt", "0", "if", "-", "on"):
            self.assert_no_report(self.put(FOOT + 1, f"foot 0 if 0 {word} 5"), "feet", 1)
            self.assert_no_report(self.put(FOOT + 1, f"foot if 0 {word} 5"), "feet", 1)

    def test_an_empty_word_stands_between_two_blanks(self):
        self.assert_no_report(self.put(TEST, "test 0  10"), "tests", 0)
        self.assert_no_report(self.put(SUM, "sum  0"), "sums", 0)
        self.assert_no_report(self.put(FOOT + 2, "foot 1 if 0  5"), "feet", 2)
        self.assert_row_refused(TEST, "test 0   10")
        self.assert_row_refused(SUM, "sum   0")
        self.assert_row_refused(FOOT + 2, "foot 1 if 0   5")
        self.assert_row_refused(TEST, "test  ge 10")
        self.assert_row_refused(TEST, "test 0 ge ")

    def test_any_count(self):
        self.assert_no_report(self.put(KEYS, "keys 0 1 2 0 0 0 0 0"), "keys", 3)
        self.assert_no_report(self.put(KEYS, "keys"), "heads", 1)
        self.assert_no_report(self.put(HEADS, "heads"), "heads", 0)
        self.assert_no_report(self.put(HEADS, "heads on on on on on"), "heads", 3)
        self.assert_no_report(self.put(FOOT, "foot 0 1 2 3 4 5 6 7"), "feet", 0)

    def test_any_number(self):
        for number in (0, 6, 10, 100, 999):
            self.assert_no_report(self.put(FIELDS, f"fields {number}"), "fields", 0)
        for number in (3, 10, 999):
            self.assert_no_report(self.put(KEYS, f"keys 2 {number}"), "keys", 1)
            self.assert_no_report(self.put(TEST, f"test {number} ge 10"), "tests", 0)
            self.assert_no_report(self.put(SUM, f"sum count {number}"), "sums", 0)
            self.assert_no_report(self.put(FOOT, f"foot {number}"), "feet", 0)
            self.assert_no_report(self.put(FOOT, f"foot 0 if {number} eq 0"), "feet", 0)

    def test_any_number_of_tests_sums_and_feet(self):
        self.assert_no_report(ROWS[:TEST] + ("test 0 ge 10",) * 5 + ROWS[SUM:], "tests", 4)
        self.assert_no_report(ROWS[:TEST] + ("test 0 ge 10",) * 90 + ROWS[SUM:], "tests", 4)
        self.assert_no_report(ROWS[:SUM] + ("sum sum 0",) * 5 + ROWS[HEADS:], "sums", 4)
        self.assert_no_report(ROWS[:FOOT] + ("foot -",) * 4 + ROWS[DETAIL:], "feet", 3)
        for many in range(3):
            self.assert_no_report(ROWS[:FOOT] + ("foot -",) * many + ROWS[DETAIL:], "feet", many)

    def test_refused_as_written_refuses_it(self):
        for rows, report in (
            (self.put(FIELDS, "fields 2"), (2,) + REPORT[1:]),
            (self.put(KEYS, "keys 1 1"), REPORT[:1] + ((1, 1),) + REPORT[2:]),
            (self.put(SUM, "sum min 0"), REPORT[:3] + ((("min", 0), ("sum", 1)),) + REPORT[4:]),
            (self.put(HEADS, "heads on"), REPORT[:4] + ((True,),) + REPORT[5:]),
            (self.put(FOOT, "foot 1 0"), REPORT[:5] + ((((1, 0), None),) + REPORT[5][1:],) + REPORT[6:]),
        ):
            expected = refused(BadReport, written, report)
            self.assert_no_report(rows, expected.part, expected.number)

    def test_a_wrong_row_goes_ahead_of_a_wrong_report(self):
        rows = self.put(FIELDS, "fields 9")
        self.assert_no_text(rows[:-1], 10)
        self.assert_no_text(rows + ("rows on",), 11)
        self.assert_no_text(rows[:-1] + ("rows of",), 10)


class TestPlaces(NotesTest):
    """Rows that can't stand where they do."""

    def test_an_empty_text(self):
        self.assertEqual(refused(BadText, read, "").row, 0)

    def test_line_ends_alone(self):
        for many in (1, 2, 5):
            self.assertEqual(refused(BadText, read, "\n" * many).row, 0)

    def test_a_line_end_at_the_end_or_the_beginning(self):
        self.assertEqual(refused(BadText, read, text_of(ROWS) + "\n").row, 11)
        self.assertEqual(refused(BadText, read, text_of(ROWS) + "\n\n").row, 11)
        self.assertEqual(refused(BadText, read, "\n" + text_of(ROWS)).row, 0)

    def test_rows_is_lacking(self):
        for many in range(1, BEHIND):
            self.assert_no_text(ROWS[:many], many)

    def test_a_row_is_lacking(self):
        for at in (FIELDS, KEYS, HEADS):
            self.assert_no_text(ROWS[:at] + ROWS[at + 1:], at)
        # The row behind the lacking one may be a test, a sum or a foot; it is the first that can't stand there.
        self.assert_no_text(("fields 1", "heads off", "foot -", "rows on"), 1)
        self.assert_no_text(("fields 1", "sum sum 0", "heads off", "foot -", "rows on"), 1)
        self.assert_no_text(("fields 1", "keys", "foot -", "rows on"), 2)
        self.assert_no_text(("fields 1", "keys", "rows on"), 2)
        self.assert_no_text(("fields 1", "keys", "sum sum 0", "rows on"), 3)

    def test_each_kind_first(self):
        for at in range(1, len(ROWS)):
            self.assert_no_text((ROWS[at],) + ROWS, 0)

    def test_a_row_twice(self):
        for at in (FIELDS, KEYS, HEADS, DETAIL):
            self.assert_no_text(ROWS[:at + 1] + ROWS[at:], at + 1)

    def test_a_row_told_again_later(self):
        for at in (FIELDS, KEYS, HEADS):
            for later in range(at + 1, BEHIND + 1):
                self.assert_no_text(ROWS[:later] + (ROWS[at],) + ROWS[later:], later)

    def test_told_again_with_another_worth(self):
        self.assert_no_text(("fields 1", "fields 2") + ROWS[1:], 1)
        self.assert_no_text(ROWS + ("rows off",), 11)

    def test_tests_sums_and_feet_stand_one_behind_the_other(self):
        self.assert_no_text(ROWS[:SUM + 1] + ("test 0 ge 10",) + ROWS[SUM + 1:], SUM + 1)
        self.assert_no_text(ROWS[:HEADS] + ("test 0 ge 10",) + ROWS[HEADS:], HEADS)
        self.assert_no_text(ROWS[:FOOT] + ("sum sum 0",) + ROWS[FOOT:], FOOT)
        self.assert_no_text(ROWS[:FOOT] + ("test 0 ge 10",) + ROWS[FOOT:], FOOT)
        self.assert_no_text(ROWS[:DETAIL] + ("sum sum 0",) + ROWS[DETAIL:], DETAIL)
        self.assert_no_text(ROWS[:FOOT + 1] + ("heads on off on",) + ROWS[FOOT + 1:], FOOT + 1)

    def test_a_test_behind_a_sum_where_none_is_ahead(self):
        self.assert_no_text(("fields 1", "keys", "sum sum 0", "test 0 eq 1", "heads off", "foot -", "rows on"), 3)
        self.assert_no_text(("fields 1", "keys", "heads off", "sum sum 0", "foot -", "rows on"), 3)
        self.assert_no_text(("fields 1", "keys", "heads off", "foot -", "test 0 eq 1", "rows on"), 4)

    def test_stands_ahead_of_where_it_may(self):
        for at, row in ((FIELDS, KEYS), (KEYS, TEST), (KEYS, SUM), (KEYS, HEADS), (TEST, FOOT), (SUM, FOOT),
                        (HEADS, FOOT), (HEADS, DETAIL), (TEST, DETAIL)):
            self.assert_no_text(ROWS[:at] + (ROWS[row],) + ROWS[at:], at)

    def test_rows_behind_the_last(self):
        for row in ROWS + ("", "x", "rows off"):
            self.assert_no_text(ROWS + (row,), 11)
            self.assert_no_text(ROWS + (row, row), 11)

    def test_rows_ahead_of_the_last(self):
        self.assert_no_report(ROWS[:FOOT] + ("rows on",), "feet", 0)
        self.assert_no_text(ROWS[:FOOT] + ("rows on", "foot -"), FOOT + 1)


if __name__ == "__main__":
    unittest.main()
