"""Promises [290] to [294]: the journal, its record and its trials."""

import unittest

from cayleywalk.desk import Desk
from cayleywalk.errors import BadJournal, OpenTrial
from cayleywalk.journal import Journal, attempt, resume
from desk_samples import PERCENT, PlainDesk, some_sessions

LINES = ["group g 2 abAB", "word u ab", "word v ba", "", "decide g u v", " show u", "drop w", "show u", "product x u v"]
ANSWERS = ["ok", "ok", "ok", "bad", "same equal", "bad", "unknown w", "ab", "abba"]

# Lines with a character that cannot be recorded.
UNRECORDED = [
    "word u a\n", "\n", "word\tu a", "word u " + PERCENT, PERCENT, "word u \u00e4", "\x7f", "\x00", "show u\r", "show\u00a0u",
    "word u a\nword v b",
]


def told(lines):
    journal = Journal()
    for line in lines:
        journal.answer(line)
    return journal


def plain_record(lines):
    desk = PlainDesk()
    return "".join("> " + line + "\n< " + desk.answer(line) + "\n" for line in lines)


class RecordTest(unittest.TestCase):
    def test_new_journal(self):
        self.assertEqual(Journal().record(), "")
        self.assertEqual(Journal().lines(), [])

    def test_row_by_row(self):
        journal = Journal()
        record = ""
        for at, (line, answer) in enumerate(zip(LINES, ANSWERS)):
            self.assertEqual(journal.answer(line), answer)
            record += "> " + line + "\n" + "< " + answer + "\n"
            self.assertEqual(journal.record(), record)
            self.assertEqual(journal.lines(), LINES[:at + 1])
        self.assertEqual(record.split("\n")[6:10], ["> ", "< bad", "> decide g u v", "< same equal"])

    def test_answers_of_a_desk(self):
        for lines in some_sessions(261, 10, 40):
            lines = [line for line in lines if "\u00e4" not in line and PERCENT not in line]
            journal, desk = Journal(), Desk()
            self.assertEqual([journal.answer(line) for line in lines], desk.answers(lines))
            self.assertEqual(journal.record(), plain_record(lines))

    def test_lines_that_cannot_be_recorded(self):
        journal = told(LINES)
        record = journal.record()
        for line in UNRECORDED:
            self.assertEqual(journal.answer(line), "bad")
            self.assertEqual(journal.record(), record)
            self.assertEqual(journal.lines(), LINES)
        self.assertEqual(journal.answer("show u"), "ab")

    def test_every_character(self):
        journal = Journal()
        many = 0
        for code in range(300):
            self.assertEqual(journal.answer("show " + chr(code)), "unknown " + chr(code) if chr(code).islower() and code < 128 else "bad")
            many += 32 <= code <= 126 and code != 37
            self.assertEqual(len(journal.lines()), many)

    def test_lists_are_the_callers(self):
        journal = told(LINES)
        journal.lines().append("changed")
        self.assertEqual(journal.lines(), LINES)

    def test_journals_apart(self):
        told(LINES)
        self.assertEqual(Journal().answer("show u"), "unknown u")


class ResumeTest(unittest.TestCase):
    def bad_row(self, text):
        with self.assertRaises(BadJournal) as caught:
            resume(text)
        return caught.exception.row

    def test_cut_off_at_each_place(self):
        record = told(LINES).record()
        ends = [0]
        for line, answer in zip(LINES, ANSWERS):
            ends.append(ends[-1] + len(line) + len(answer) + 6)
        for cut in range(len(record) + 1):
            journal = resume(record[:cut])
            many = max(k for k, end in enumerate(ends) if end <= cut)
            self.assertEqual(journal.record(), record[:ends[many]])
            self.assertEqual(journal.lines(), LINES[:many])
            self.assertEqual([journal.answer(line) for line in LINES[many:]], ANSWERS[many:])
            self.assertEqual(journal.record(), record)

    def test_cut_sessions(self):
        for lines in some_sessions(262, 3, 25):
            lines = [line for line in lines if "\u00e4" not in line and PERCENT not in line]
            record = told(lines).record()
            for cut in range(0, len(record), 29):
                journal = resume(record[:cut])
                self.assertTrue(record.startswith(journal.record()))
                for line in lines[len(journal.lines()):]:
                    journal.answer(line)
                self.assertEqual(journal.record(), record)

    def test_odd_number_of_rows(self):
        record = told(LINES).record()
        journal = resume(record + "> drop u\n")
        self.assertEqual(journal.record(), record)
        self.assertEqual(journal.answer("show u"), "ab")
        self.assertEqual(resume("> \n").record(), "")

    def test_what_stands_behind_the_last_newline(self):
        record = told(LINES).record()
        for more in ["> drop u", "<", "nonsense", "> " + PERCENT, "\u00e4", "\r", "> word u \x00"]:
            self.assertEqual(resume(record + more).record(), record)
            self.assertEqual(resume(more).record(), "")

    def test_other_heads(self):
        rows = told(LINES).record().split("\n")[:-1]
        for at in range(len(rows)):
            for head in ["", ">", "<", " >", ">>", "< " if at % 2 == 0 else "> ", "* ", "  "]:
                changed = rows[:at] + [head + rows[at][2:]] + rows[at + 1:]
                if head in (">", "<") and rows[at][2:3] == " ":
                    continue
                self.assertEqual(self.bad_row("\n".join(changed) + "\n"), at)
            self.assertEqual(self.bad_row("\n".join(rows[:at] + [""]) + "\n"), at)

    def test_rows_left_out_or_doubled(self):
        rows = told(LINES).record().split("\n")[:-1]
        for at in range(len(rows) - 1):
            self.assertEqual(self.bad_row("\n".join(rows[:at] + rows[at + 1:]) + "\n"), at)
            self.assertEqual(self.bad_row("\n".join(rows[:at + 1] + rows[at:]) + "\n"), at + 1)

    def test_other_answers(self):
        rows = told(LINES).record().split("\n")[:-1]
        for at in range(1, len(rows), 2):
            for answer in ["", "ok ", " ok", "no", rows[at][2:] + "x", "unknown u", "\u00e4"]:
                if answer != rows[at][2:]:
                    changed = rows[:at] + ["< " + answer] + rows[at + 1:]
                    self.assertEqual(self.bad_row("\n".join(changed) + "\n"), at)

    def test_lines_that_cannot_be_recorded(self):
        rows = told(LINES).record().split("\n")[:-1]
        for line in UNRECORDED:
            if "\n" in line:
                continue
            for at in range(0, len(rows) + 1, 2):
                changed = rows[:at] + ["> " + line, "< bad"] + rows[at:]
                self.assertEqual(self.bad_row("\n".join(changed) + "\n"), at)
                # Also as the last row, whose answer is missing.
                self.assertEqual(self.bad_row("\n".join(rows[:at] + ["> " + line]) + "\n"), at)

    def test_the_first_of_two(self):
        self.assertEqual(self.bad_row("> show u\n< ok\n* word u a\n< ok\n"), 1)
        self.assertEqual(self.bad_row("> show u\n< unknown u\n* word u a\n< bad\n"), 2)
        self.assertEqual(self.bad_row("> word u " + PERCENT + "\n* bad\n"), 0)
        self.assertEqual(self.bad_row("> word u a\n< ok\n> show u\n< b\n> " + PERCENT + "\n"), 3)
        self.assertEqual(self.bad_row("\n"), 0)
        self.assertEqual(self.bad_row("> word u a\n< ok\n\n"), 2)

    def test_other_line_ends(self):
        # Only a newline ends a row.
        self.assertEqual(self.bad_row("> word u a\r\n< ok\r\n"), 0)
        self.assertEqual(self.bad_row("> show u\n< unknown u\r\n"), 1)
        self.assertEqual(self.bad_row("> word u a\u2028< ok\n"), 0)

    def test_kept_trials_resume(self):
        journal = told(LINES)
        attempt(journal, ["drop u", "word y aa"], keep=True)
        attempt(journal, ["drop v"])
        self.assertEqual(resume(journal.record()).record(), journal.record())
        self.assertEqual(resume(journal.record()).answer("show y"), "aa")


class TrialTest(unittest.TestCase):
    def test_taken_back(self):
        journal = told(LINES)
        record = journal.record()
        with journal as trial:
            self.assertIs(trial, journal)
            self.assertEqual(trial.answer("drop u"), "ok")
            self.assertEqual(trial.answer("group v 1 a"), "ok")
            self.assertEqual(trial.record(), record + "> drop u\n< ok\n> group v 1 a\n< ok\n")
            self.assertEqual(journal.answer("show u"), "unknown u")
        self.assertEqual(journal.record(), record)
        self.assertEqual(journal.lines(), LINES)
        self.assertEqual(journal.answer("show u"), "ab")
        self.assertEqual(journal.answer("show v"), "ba")

    def test_kept(self):
        journal = told(LINES)
        with journal as trial:
            trial.answer("drop u")
            self.assertIsNone(trial.keep())
            trial.answer("drop v")
        self.assertEqual(journal.lines(), LINES + ["drop u", "drop v"])
        self.assertEqual(journal.answer("show u"), "unknown u")
        self.assertEqual(journal.answer("show v"), "unknown v")

    def test_kept_before_anything(self):
        journal = Journal()
        with journal as trial:
            trial.keep()
            trial.keep()
            trial.answer("word u a")
        self.assertEqual(journal.record(), "> word u a\n< ok\n")

    def test_a_keep_is_for_one_trial(self):
        journal = Journal()
        with journal as trial:
            trial.answer("word u a")
            trial.keep()
        with journal as trial:
            trial.answer("word u b")
        self.assertEqual(journal.answer("show u"), "a")

    def test_left_by_an_exception(self):
        for kept in (True, False):
            journal = told(LINES)
            record = journal.record()
            with self.assertRaises(KeyError):
                with journal as trial:
                    trial.answer("drop u")
                    if kept:
                        trial.keep()
                    raise KeyError("out")
            self.assertEqual(journal.record(), record)
            self.assertEqual(journal.answer("show u"), "ab")
            with journal as trial:
                trial.keep()
            self.assertRaises(OpenTrial, journal.keep)

    def test_left_by_return(self):
        journal = told(LINES)

        def leave(kept):
            with journal as trial:
                trial.answer("drop u")
                if kept:
                    trial.keep()
                return trial.record()

        self.assertNotEqual(leave(False), journal.record())
        self.assertEqual(journal.lines(), LINES)
        self.assertEqual(leave(True), journal.record())
        self.assertEqual(journal.lines(), LINES + ["drop u"])

    def test_a_second_trial(self):
        for kept in (True, False):
            journal = told(LINES)
            with journal as trial:
                trial.answer("drop u")
                if kept:
                    trial.keep()
                with self.assertRaises(OpenTrial):
                    with journal:
                        self.fail("a second trial was opened")
                self.assertRaises(OpenTrial, attempt, journal, ["drop v"])
                self.assertRaises(OpenTrial, attempt, journal, ["drop v"], keep=True)
                # The open trial goes on as it was.
                self.assertEqual(trial.answer("show u"), "unknown u")
                self.assertEqual(trial.answer("show v"), "ba")
            more = ["drop u", "show u", "show v"] if kept else []
            self.assertEqual(journal.lines(), LINES + more)

    def test_trials_of_two_journals(self):
        one, other = told(LINES), told(LINES)
        with one as first:
            with other as second:
                first.answer("drop u")
                second.answer("drop v")
                second.keep()
        self.assertEqual(one.lines(), LINES)
        self.assertEqual(other.lines(), LINES + ["drop v"])

    def test_keep_without_a_trial(self):
        journal = Journal()
        self.assertRaises(OpenTrial, journal.keep)
        with journal:
            pass
        self.assertRaises(OpenTrial, journal.keep)
        self.assertEqual(journal.answer("word u a"), "ok")
        with journal as trial:
            trial.answer("word u b")
        self.assertEqual(journal.answer("show u"), "a")

    def test_many_trials(self):
        journal = Journal()
        lines = []
        for k in range(20):
            with journal as trial:
                trial.answer("word u " + "a" * (k + 1))
                if k % 3 == 0:
                    trial.keep()
                    lines.append("word u " + "a" * (k + 1))
            self.assertEqual(journal.lines(), lines)


class AttemptTest(unittest.TestCase):
    def test_attempts(self):
        for kept in (True, False):
            journal = told(LINES)
            record = journal.record()
            lines = ["drop u", "show u", "show\t", "word w -"]
            found = attempt(journal, lines, keep=kept)
            end = record + "> drop u\n< ok\n> show u\n< unknown u\n> word w -\n< ok\n"
            self.assertEqual(found, (["ok", "unknown u", "bad", "ok"], end))
            self.assertIsInstance(found, tuple)
            self.assertEqual(lines, ["drop u", "show u", "show\t", "word w -"])
            self.assertEqual(journal.record(), end if kept else record)
            self.assertEqual(journal.answer("show u"), "unknown u" if kept else "ab")

    def test_not_kept_if_nothing_is_said(self):
        journal = Journal()
        self.assertEqual(attempt(journal, ["word u a"]), (["ok"], "> word u a\n< ok\n"))
        self.assertEqual(journal.record(), "")
        self.assertEqual(attempt(journal, []), ([], ""))
        self.assertEqual(attempt(journal, [], keep=True), ([], ""))


if __name__ == "__main__":
    unittest.main()
