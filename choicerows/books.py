"""Books, which keep tests under names, and failing rows of each: points [29] to [31] of the document."""

from choicerows.conditions import is_word
from choicerows.errors import BookError
from choicerows.limits import NAMES, ROWS
from choicerows.rows import sorted_rows
from choicerows.shrinking import course
from choicerows.trials import is_test, says


class Book:
    """A book; each deed is done whole, or raises BookError and changes nothing."""

    def __init__(self):
        # Each name with the pair of its test and the tuple of its rows. The dict is never modified, only replaced:
        # so the deeds that were done keep the ones ahead of them, and branches share them.
        self._pages = {}
        self._done = []

    @property
    def names(self):
        """The names, ascending."""
        return sorted(list(self._pages))

    @property
    def log(self):
        """The deeds that were done and not taken back, each with its arguments behind its name."""
        return [deed for deed, _ in self._done]

    def put(self, name, generator, condition):
        """Put a test under a name, also in the place of another one; the rows of the name stay."""
        if not is_word(name):
            raise BookError("wrong name")
        if not is_test(generator, condition):
            raise BookError("wrong test")
        if name not in self._pages and len(self._pages) >= NAMES:
            raise BookError("full")
        rows = self._pages[name][1] if name in self._pages else ()
        self._write(("put", name, generator, condition), name, (generator, condition), rows)

    def note(self, name, row):
        """Add a failing row to those of a name."""
        test, rows = self._page(name)
        if says(test, row) != "fails":
            raise BookError("does not fail")
        if row in rows:
            raise BookError("known")
        if len(rows) >= ROWS:
            raise BookError("full")
        self._write(("note", name, row), name, test, (*rows, row))

    def forget(self, name):
        """Take a name with its rows away."""
        self._page(name)
        self._replace(("forget", name), {kept: self._pages[kept] for kept in self._pages if kept != name})

    def shrink(self, name):
        """Put the ends of their courses in the place of the failing rows of a name."""
        test, rows = self._page(name)
        ends = [course(test, row)[-1] if says(test, row) == "fails" else row for row in rows]
        self._write(("shrink", name), name, test, ends)

    def undo(self):
        """Take back the last deed and return its name; return False if there is none."""
        if len(self._done) == 0:
            return False
        deed, pages = self._done.pop()
        self._pages = pages
        return deed[0]

    def test_of(self, name):
        """Return the test of a name."""
        return self._page(name)[0]

    def rows_of(self, name):
        """Return the rows of a name, in order."""
        return list(self._page(name)[1])

    def state(self, name):
        """Return `fails` if a row of a name fails, otherwise `passes` if one passes, otherwise `nothing`."""
        test, rows = self._page(name)
        told = [says(test, row) for row in rows]
        for word in ("fails", "passes"):
            if word in told:
                return word
        return "nothing"

    def best(self, name):
        """Return the least failing row among those of a name, or None if none fails."""
        test, rows = self._page(name)
        failing = [row for row in rows if says(test, row) == "fails"]
        return failing[0] if failing else None

    def branch(self):
        """Return a new book that is like this one, also in what can be taken back."""
        other = Book()
        other._pages = self._pages
        other._done = list(self._done)
        return other

    def __len__(self):
        return len([row for _, rows in self._pages.values() for row in rows])

    def __contains__(self, name):
        # What is asked need not be fit to be a key.
        return name in list(self._pages)

    def __eq__(self, other):
        if not isinstance(other, Book):
            return NotImplemented
        return self._pages == other._pages

    def _page(self, name):
        if name not in self._pages:
            raise BookError("unknown")
        return self._pages[name]

    def _write(self, deed, name, test, rows):
        # A dict keeps equal rows only once.
        once = list({row: True for row in rows})
        self._replace(deed, {**self._pages, name: (test, tuple(sorted_rows(once)))})

    def _replace(self, deed, pages):
        self._done.append((deed, self._pages))
        self._pages = pages


def replayed(log):
    """Return a new book on which the deeds of a log were done."""
    book = Book()
    for deed, *arguments in log:
        if deed == "put":
            book.put(*arguments)
        elif deed == "note":
            book.note(*arguments)
        elif deed == "forget":
            book.forget(*arguments)
        else:
            book.shrink(*arguments)
    return book
