import unittest

from choicerows.books import Book, replayed
from choicerows.errors import BookError
from choicerows.gentext import read_condition, read_generator
from choicerows.shrinking import course

DIGIT = ("int", 0, 9)
GREAT = ("int", -1000, 1000)
SMALL = ("atmost", 3)
ALWAYS = ("atmost", 1000)
NEVER = ("atmost", -1001)
FALLING = (read_generator("list(int(0, 3), 0, 3)"), read_condition("rising"))
ELEVEN = ["a", "b", "c", "d", "e", "f", "g", "h", "i", "j", "k"]


def told(book):
    """All that can be asked of a book."""
    pages = [(name, book.test_of(name), book.rows_of(name), book.state(name), book.best(name)) for name in book.names]
    return (pages, book.log, len(book))


def ordinary_book():
    book = Book()
    book.put("digit", DIGIT, SMALL)
    book.note("digit", (9,))
    book.note("digit", (5,))
    book.put("falling", *FALLING)
    book.note("falling", (1, 3, 1, 2, 1, 1))
    return book


class Checks(unittest.TestCase):
    def check_error(self, what, book, deed, *arguments):
        before = told(book)
        with self.assertRaises(BookError) as held:
            getattr(book, deed)(*arguments)
        self.assertEqual(held.exception.what, what)
        self.assertEqual(told(book), before)


class Empty(Checks):
    def test_an_empty_book(self):
        book = Book()
        self.assertEqual((book.names, book.log, len(book), "a" in book), ([], [], 0, False))
        self.assertIs(book.undo(), False)
        self.assertEqual(book, Book())

    def test_books_are_apart(self):
        book = Book()
        book.put("a", DIGIT, SMALL)
        self.assertEqual((Book().names, Book().log), ([], []))


class Put(Checks):
    def test_a_new_name(self):
        book = Book()
        self.assertIs(book.put("b", DIGIT, SMALL), None)
        book.put("a", *FALLING)
        self.assertEqual(book.names, ["a", "b"])
        self.assertEqual((book.test_of("b"), book.test_of("a")), ((DIGIT, SMALL), FALLING))
        self.assertEqual((book.rows_of("b"), book.state("b"), book.best("b"), len(book)), ([], "nothing", None, 0))

    def test_in_the_place_of_another_one_the_rows_stay(self):
        book = ordinary_book()
        book.put("digit", DIGIT, ("atmost", 6))
        self.assertEqual((book.test_of("digit"), book.rows_of("digit")), ((DIGIT, ("atmost", 6)), [(5,), (9,)]))
        self.assertEqual((book.state("digit"), book.best("digit")), ("fails", (9,)))
        book.put("digit", DIGIT, ALWAYS)
        self.assertEqual((book.rows_of("digit"), book.state("digit"), book.best("digit")), ([(5,), (9,)], "passes", None))
        book.put("digit", ("int", 0, 6), ALWAYS)
        self.assertEqual((book.state("digit"), book.best("digit")), ("passes", None))
        book.put("digit", ("int", 0, 4), NEVER)
        self.assertEqual((book.rows_of("digit"), book.state("digit"), book.best("digit")), ([(5,), (9,)], "nothing", None))
        book.put("digit", DIGIT, SMALL)
        self.assertEqual((book.state("digit"), book.best("digit"), len(book)), ("fails", (5,), 3))

    def test_wrong_names(self):
        for name in ["", "abcdefghi", "A", "a b", "a1", "_"]:
            self.check_error("wrong name", Book(), "put", name, DIGIT, SMALL)
        book = Book()
        book.put("abcdefgh", DIGIT, SMALL)
        self.assertEqual(book.names, ["abcdefgh"])

    def test_wrong_tests(self):
        for generator, condition in [(("int", 1, 0), SMALL), (DIGIT, ("rising",)), (DIGIT, ("divides", 0)),
                                     (("kept", DIGIT, ("is", "a")), SMALL), (("pick", ()), ("is", "a")),
                                     (("list", DIGIT, 0, 7), ("rising",))]:
            self.check_error("wrong test", Book(), "put", "a", generator, condition)
            self.check_error("wrong test", ordinary_book(), "put", "digit", generator, condition)

    def test_full(self):
        book = Book()
        for name in ELEVEN[:10]:
            book.put(name, DIGIT, SMALL)
        self.check_error("full", book, "put", "k", DIGIT, SMALL)
        book.put("j", DIGIT, ALWAYS)
        self.assertEqual((book.names, book.test_of("j")), (ELEVEN[:10], (DIGIT, ALWAYS)))
        book.forget("c")
        book.put("k", DIGIT, SMALL)
        self.check_error("full", book, "put", "c", DIGIT, SMALL)

    def test_the_first_that_applies(self):
        book = Book()
        for name in ELEVEN[:10]:
            book.put(name, DIGIT, SMALL)
        self.check_error("wrong name", book, "put", "K", ("int", 1, 0), SMALL)
        self.check_error("wrong name", Book(), "put", "", DIGIT, ("rising",))
        self.check_error("wrong test", book, "put", "k", ("int", 1, 0), SMALL)
        self.check_error("full", book, "put", "k", DIGIT, SMALL)

    def test_many_values_are_no_fault(self):
        book = Book()
        book.put("a", ("list", GREAT, 0, 6), ("every", ("atmost", 0)))
        book.note("a", (1, 2000, 0))
        book.shrink("a")
        self.assertEqual(book.rows_of("a"), [(1, 1001, 0)])


class Note(Checks):
    def test_rows_are_in_order(self):
        book = Book()
        book.put("a", *FALLING)
        for row in [(1, 1, 1, 0, 1, 3), (1, 2, 1, 1, 0), (1, 3, 1, 0, 0), (1, 1, 1, 0, 0), (1, 0, 1, 2, 1, 1)]:
            self.assertIs(book.note("a", row), None)
        self.assertEqual(book.rows_of("a"), [(1, 1, 1, 0, 0), (1, 2, 1, 1, 0), (1, 3, 1, 0, 0), (1, 0, 1, 2, 1, 1),
                                             (1, 1, 1, 0, 1, 3)])
        self.assertEqual((book.best("a"), book.state("a"), len(book)), ((1, 1, 1, 0, 0), "fails", 5))

    def test_unknown(self):
        self.check_error("unknown", Book(), "note", "a", (9,))
        self.check_error("unknown", ordinary_book(), "note", "other", (9,))
        self.check_error("unknown", ordinary_book(), "note", "", (0,))

    def test_does_not_fail(self):
        for row in [(3,), (0,), (), (10,), (-1,), (9, 0), (4, 4)]:
            self.check_error("does not fail", ordinary_book(), "note", "digit", row)

    def test_known(self):
        self.check_error("known", ordinary_book(), "note", "digit", (9,))
        self.check_error("known", ordinary_book(), "note", "digit", (5,))

    def test_full(self):
        book = Book()
        book.put("a", ("int", 0, 100), NEVER)
        book.put("b", ("int", 0, 100), NEVER)
        for choice in range(20):
            book.note("a", (choice,))
        self.check_error("full", book, "note", "a", (20,))
        self.assertEqual((len(book), len(book.rows_of("a"))), (20, 20))
        book.note("b", (20,))
        self.assertEqual(len(book), 21)

    def test_the_first_that_applies(self):
        book = Book()
        book.put("a", ("int", 0, 100), NEVER)
        for choice in range(20):
            book.note("a", (choice,))
        self.check_error("unknown", book, "note", "b", (200,))
        self.check_error("does not fail", book, "note", "a", (200,))
        self.check_error("known", book, "note", "a", (7,))
        self.check_error("full", book, "note", "a", (77,))
        book.put("a", ("int", 0, 100), ALWAYS)
        self.check_error("does not fail", book, "note", "a", (7,))
        self.check_error("does not fail", book, "note", "a", (77,))


class Forget(Checks):
    def test_a_name_with_its_rows(self):
        book = ordinary_book()
        self.assertIs(book.forget("digit"), None)
        self.assertEqual((book.names, len(book), "digit" in book), (["falling"], 1, False))
        for deed, more in [("test_of", ()), ("rows_of", ()), ("state", ()), ("best", ()), ("note", ((9,),)),
                           ("shrink", ()), ("forget", ())]:
            self.check_error("unknown", book, deed, "digit", *more)
        book.put("digit", DIGIT, SMALL)
        self.assertEqual(book.rows_of("digit"), [])

    def test_unknown(self):
        for name in ["a", "", "DIGIT"]:
            self.check_error("unknown", ordinary_book(), "forget", name)


class Shrink(Checks):
    def test_to_the_ends_of_the_courses(self):
        book = ordinary_book()
        self.assertIs(book.shrink("falling"), None)
        self.assertEqual(book.rows_of("falling"), [(1, 0, 1, 1, 1, 0)])
        self.assertEqual(book.rows_of("digit"), [(5,), (9,)])

    def test_each_row_only_once(self):
        book = ordinary_book()
        book.shrink("digit")
        self.assertEqual((book.rows_of("digit"), len(book)), ([(4,)], 2))
        book.note("digit", (8,))
        book.shrink("digit")
        self.assertEqual((book.rows_of("digit"), len(book)), ([(4,)], 2))

    def test_rows_that_do_not_fail_stay(self):
        book = Book()
        book.put("a", DIGIT, NEVER)
        for choice in (9, 7, 4, 2):
            book.note("a", (choice,))
        book.put("a", ("int", 0, 8), ("or", ("atmost", 2), ("divides", 2)))
        book.shrink("a")
        self.assertEqual(book.rows_of("a"), [(2,), (3,), (4,), (9,)])
        self.assertEqual((book.state("a"), book.best("a")), ("fails", (3,)))

    def test_ends_are_put_in_order(self):
        book = Book()
        book.put("a", *FALLING)
        rows = [(1, 3, 1, 2, 1, 1), (1, 3, 1, 2, 0), (1, 1, 1, 0, 1, 3), (1, 2, 1, 0, 1, 0)]
        for row in rows:
            book.note("a", row)
        book.shrink("a")
        ends = {course(FALLING, row)[-1] for row in rows}
        self.assertEqual(book.rows_of("a"), sorted(ends, key=lambda row: (len(row), row)))
        self.assertEqual(len(book), len(ends))

    def test_nothing_to_shrink(self):
        book = Book()
        book.put("a", DIGIT, SMALL)
        book.shrink("a")
        self.assertEqual((book.rows_of("a"), book.log[-1]), ([], ("shrink", "a")))

    def test_unknown(self):
        self.check_error("unknown", Book(), "shrink", "a")


class Asked(Checks):
    def test_states(self):
        book = Book()
        book.put("a", DIGIT, NEVER)
        self.assertEqual((book.state("a"), book.best("a")), ("nothing", None))
        for choice in (1, 5, 8):
            book.note("a", (choice,))
        for generator, condition, state, best in [
            (DIGIT, NEVER, "fails", (1,)), (DIGIT, ("atmost", 1), "fails", (5,)), (DIGIT, ("atmost", 7), "fails", (8,)),
            (DIGIT, ("atmost", 8), "passes", None), (("int", 0, 2), ("atmost", 1), "passes", None),
            (("int", 0, 6), ("atmost", 4), "fails", (5,)), (("int", 0, 0), NEVER, "nothing", None),
            (("kept", DIGIT, ("divides", 7)), ALWAYS, "nothing", None), (("tuple", (DIGIT, DIGIT)), ("item", 0, NEVER), "nothing", None),
            (("kept", DIGIT, ("divides", 5)), ALWAYS, "passes", None), (("kept", DIGIT, ("divides", 5)), NEVER, "fails", (5,)),
        ]:
            book.put("a", generator, condition)
            self.assertEqual((book.state("a"), book.best("a")), (state, best), (generator, condition))
            self.assertEqual(book.rows_of("a"), [(1,), (5,), (8,)])

    def test_unknown(self):
        for asked in ("test_of", "rows_of", "state", "best"):
            for name in ["other", "", "Digit"]:
                self.check_error("unknown", ordinary_book(), asked, name)

    def test_length(self):
        book = ordinary_book()
        self.assertEqual(len(book), 3)
        book.forget("digit")
        self.assertEqual(len(book), 1)

    def test_any_value_may_be_asked(self):
        book = ordinary_book()
        self.assertIs("digit" in book, True)
        self.assertIs("falling" in book, True)
        for value in ["digi", "", "digits", 0, None, True, ("digit",), ["digit"], {"digit": 1}, {"digit"}, b"digit", DIGIT,
                      (9,), book, 1.5, Book]:
            self.assertIs(value in book, False, value)
            self.assertIs(value not in book, True)

    def test_lists_are_new(self):
        book = ordinary_book()
        before = told(book)
        book.names.append("more")
        book.log.append(("forget", "digit"))
        book.log.clear()
        book.rows_of("digit").clear()
        self.assertEqual(told(book), before)
        kept = (book.names, book.log, book.rows_of("digit"))
        book.forget("digit")
        self.assertEqual(kept, (["digit", "falling"], before[1], [(5,), (9,)]))

    def test_kinds_of_what_is_returned(self):
        book = ordinary_book()
        self.assertEqual([type(each) for each in (book.names, book.log, book.rows_of("digit"), book.test_of("digit"),
                                                  book.best("digit"))], [list, list, list, tuple, tuple])
        self.assertTrue(all(type(deed) is tuple for deed in book.log))

    def test_properties_have_no_setters(self):
        for name in ("names", "log"):
            with self.assertRaises(AttributeError):
                setattr(Book(), name, [])
            self.assertIsInstance(Book.__dict__[name], property)


class Undo(Checks):
    def test_deeds_one_by_one(self):
        book = ordinary_book()
        book.shrink("digit")
        book.put("digit", DIGIT, ALWAYS)
        book.forget("falling")
        log = book.log
        self.assertEqual(log, [
            ("put", "digit", DIGIT, SMALL), ("note", "digit", (9,)), ("note", "digit", (5,)), ("put", "falling", *FALLING),
            ("note", "falling", (1, 3, 1, 2, 1, 1)), ("shrink", "digit"), ("put", "digit", DIGIT, ALWAYS),
            ("forget", "falling"),
        ])
        for at in range(len(log) - 1, -1, -1):
            self.assertEqual(book.undo(), log[at][0])
            self.assertEqual(book.log, log[:at])
            self.assertEqual(told(book), told(replayed(log[:at])))
        self.assertIs(book.undo(), False)
        self.assertEqual((book.names, len(book), book.log), ([], 0, []))

    def test_what_was_ahead_comes_back(self):
        book = ordinary_book()
        book.forget("digit")
        self.assertEqual(book.undo(), "forget")
        self.assertEqual(book.rows_of("digit"), [(5,), (9,)])
        book.shrink("digit")
        self.assertEqual(book.undo(), "shrink")
        self.assertEqual(book.rows_of("digit"), [(5,), (9,)])
        book.put("digit", DIGIT, ALWAYS)
        self.assertEqual(book.undo(), "put")
        self.assertEqual((book.test_of("digit"), book.state("digit")), ((DIGIT, SMALL), "fails"))

    def test_deeds_that_were_not_done_are_not_taken_back(self):
        book = ordinary_book()
        self.check_error("known", book, "note", "digit", (9,))
        self.check_error("unknown", book, "forget", "other")
        self.assertEqual(book.undo(), "note")
        self.assertEqual(book.rows_of("falling"), [])

    def test_deeds_that_change_nothing_are_deeds(self):
        book = ordinary_book()
        before = book.branch()
        book.put("digit", DIGIT, SMALL)
        book.shrink("falling")
        book.shrink("falling")
        self.assertEqual(book.log[-3:], [("put", "digit", DIGIT, SMALL), ("shrink", "falling"), ("shrink", "falling")])
        self.assertEqual([book.undo(), book.undo(), book.undo()], ["shrink", "shrink", "put"])
        self.assertEqual(told(book), told(before))

    def test_new_deeds_behind_it(self):
        book = ordinary_book()
        book.undo()
        book.note("digit", (7,))
        self.assertEqual(book.log[-2:], [("put", "falling", *FALLING), ("note", "digit", (7,))])
        self.assertEqual(book.undo(), "note")
        self.assertEqual(book.rows_of("digit"), [(5,), (9,)])


class Branch(Checks):
    def test_it_is_like_the_book(self):
        book = ordinary_book()
        other = book.branch()
        self.assertIs(type(other), Book)
        self.assertIsNot(other, book)
        self.assertEqual(other, book)
        self.assertEqual(told(other), told(book))

    def test_they_are_apart(self):
        book = ordinary_book()
        before = told(book)
        other = book.branch()
        other.forget("digit")
        other.note("falling", (1, 1, 1, 0, 0))
        self.assertEqual(told(book), before)
        after = told(other)
        book.shrink("digit")
        book.put("new", DIGIT, SMALL)
        self.assertEqual(told(other), after)
        self.assertEqual(other.undo(), "note")
        self.assertEqual(other.undo(), "forget")
        self.assertEqual(told(other), before)

    def test_what_can_be_taken_back(self):
        book = ordinary_book()
        other = book.branch()
        self.assertEqual([other.undo() for _ in range(6)], ["note", "put", "note", "note", "put", False])
        self.assertEqual(told(other), told(Book()))
        self.assertEqual(told(book), told(ordinary_book()))
        self.assertEqual(book.undo(), "note")


class Equal(Checks):
    def check(self, book, other, wanted):
        self.assertIs(book == other, wanted)
        self.assertIs(other == book, wanted)
        self.assertIs(book != other, not wanted)

    def test_names_tests_and_rows(self):
        self.check(ordinary_book(), ordinary_book(), True)
        for deed, arguments in [("put", ("new", DIGIT, SMALL)), ("put", ("digit", DIGIT, ALWAYS)), ("note", ("digit", (7,))),
                                ("put", ("digit", ("int", 0, 10), SMALL)), ("forget", ("digit",)), ("shrink", ("digit",))]:
            book = ordinary_book()
            getattr(book, deed)(*arguments)
            self.check(book, ordinary_book(), False)
            book.undo()
            self.check(book, ordinary_book(), True)

    def test_deeds_may_be_others(self):
        book, other = Book(), Book()
        book.put("a", DIGIT, SMALL)
        book.put("b", DIGIT, ALWAYS)
        book.note("a", (9,))
        book.note("a", (7,))
        other.put("b", DIGIT, NEVER)
        other.put("a", DIGIT, SMALL)
        other.note("a", (7,))
        other.note("a", (9,))
        self.check(book, other, False)
        other.put("b", DIGIT, ALWAYS)
        self.check(book, other, True)
        self.assertNotEqual(book.log, other.log)

    def test_rows_under_other_names(self):
        book, other = Book(), Book()
        book.put("a", DIGIT, SMALL)
        other.put("b", DIGIT, SMALL)
        self.check(book, other, False)
        book.put("b", DIGIT, SMALL)
        other.put("a", DIGIT, SMALL)
        self.check(book, other, True)
        book.note("a", (9,))
        other.note("b", (9,))
        self.check(book, other, False)

    def test_other_values(self):
        book = ordinary_book()
        for value in [None, 0, "digit", (), [], {}, book.names, book.log, DIGIT]:
            self.assertIs(book.__eq__(value), NotImplemented)
            self.check(book, value, False)
        self.assertIs(Book().__eq__(Book()), True)

    def test_no_hash(self):
        with self.assertRaises(TypeError):
            hash(Book())


class Replayed(Checks):
    def test_deeds_on_a_new_book(self):
        book = ordinary_book()
        book.shrink("falling")
        book.forget("digit")
        book.put("digit", DIGIT, ALWAYS)
        book.undo()
        log = book.log
        other = replayed(log)
        self.assertIs(type(other), Book)
        self.assertIsNot(other, book)
        self.assertEqual(other, book)
        self.assertEqual(told(other), told(book))
        self.assertEqual(log, book.log)
        self.assertEqual(other.undo(), "forget")
        self.assertEqual(other.rows_of("digit"), [(5,), (9,)])
        self.assertEqual(book.names, ["falling"])

    def test_no_deeds(self):
        self.assertEqual(replayed([]), Book())
        self.assertEqual(replayed([]).log, [])

    def test_deeds_that_cannot_be_done(self):
        put = ("put", "a", DIGIT, SMALL)
        for what, log in [
            ("unknown", [("note", "a", (9,))]), ("unknown", [("forget", "a")]), ("unknown", [put, ("shrink", "b")]),
            ("wrong name", [("put", "A", DIGIT, SMALL)]), ("wrong test", [("put", "a", DIGIT, ("rising",))]),
            ("does not fail", [put, ("note", "a", (3,))]), ("known", [put, ("note", "a", (9,)), ("note", "a", (9,))]),
            ("full", [("put", name, DIGIT, SMALL) for name in ELEVEN]), ("unknown", [put, ("forget", "a"), ("shrink", "a")]),
        ]:
            before = repr(log)
            with self.assertRaises(BookError) as held:
                replayed(log)
            self.assertEqual(held.exception.what, what)
            self.assertEqual(repr(log), before)


if __name__ == "__main__":
    unittest.main()
