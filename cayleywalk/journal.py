"""The journal: a desk with a record of its lines and answers, and trials that are taken back."""

from cayleywalk.desk import Desk
from cayleywalk.errors import BadJournal, OpenTrial
from cayleywalk.lines import is_plain

LINE_MARK = "> "
ANSWER_MARK = "< "


class Journal:
    """A desk and the record of what it was told and answered."""

    def __init__(self):
        self._desk = Desk()
        self._told = []
        # While a trial is open: the desk and the lines as they were before it.
        self._desk_before = None
        self._told_before = None
        self._kept = None

    def answer(self, line):
        """Return the answer to a line, and record both if the line can be recorded."""
        if not is_plain(line):
            return "bad"
        answer = self._desk.answer(line)
        self._told.append((line, answer))
        return answer

    def record(self):
        """Return the record: two rows for each line."""
        rows = [LINE_MARK + line + "\n" + ANSWER_MARK + answer + "\n" for line, answer in self._told]
        return "".join(rows)

    def lines(self):
        """Return the list of the recorded lines."""
        return [line for line, _ in self._told]

    def keep(self):
        """Keep what is answered in the open trial."""
        if self._desk_before is None:
            raise OpenTrial("no trial is open")
        self._kept = True

    def __enter__(self):
        if self._desk_before is not None:
            raise OpenTrial("a trial is open")
        self._desk_before = self._desk.copied()
        self._told_before = list(self._told)
        self._kept = None
        return self

    def __exit__(self, kind, value, trace):
        if kind is not None or self._kept is None:
            self._desk = self._desk_before
            self._told = self._told_before
        self._desk_before = None
        self._told_before = None


def attempt(journal, lines, *, keep=False):
    """Answer lines in a trial; return their answers and the record at its end."""
    with journal as trial:
        answers = [trial.answer(line) for line in lines]
        record = trial.record()
        if keep:
            trial.keep()
    return (answers, record)


def resume(text):
    """Return a journal that goes on from a record, which may have been cut off."""
    journal = Journal()
    # What stands behind the last newline is no row.
    rows = text.split("\n")[:-1]
    for at in range(0, len(rows), 2):
        line = _row_text(rows, at, LINE_MARK)
        if not is_plain(line):
            raise BadJournal(at)
        if at + 1 < len(rows):
            answer = _row_text(rows, at + 1, ANSWER_MARK)
            if journal.answer(line) != answer:
                raise BadJournal(at + 1)
    return journal


def _row_text(rows, at, mark):
    """Return what stands in a row behind the two characters that are due."""
    if not rows[at].startswith(mark):
        raise BadJournal(at)
    return rows[at][len(mark):]
