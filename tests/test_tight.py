import itertools

from helper import APART, Case, Look, all_books, all_forests, all_standings, either, some_books, stands
from nestsay.books import keeps
from nestsay.errors import BadBook, BadRooms, BadSaying, TooMany, Unlike
from nestsay.follows import against
from nestsay.solver import form
from nestsay.tight import alike, implies, parting, possible, tight

ROOMS = (1, 1, 1)
INSIDE = (ROOMS, ((2, 0, (("in", 0),)), (2, 1, (("in", 0),))))
EITHER = (ROOMS, (either(0, 2, ROOMS), either(1, 2, ROOMS)))
BARRED = (ROOMS, ((0, 1, ()),))
IN = (("in", 0),)
AROUND = (("around", 0),)


class Possible(Case):

    def test_fewer_than_let(self):
        self.assertEqual(possible(INSIDE, 0, 1), IN + AROUND)
        self.assertEqual(possible(INSIDE, 1, 0), IN + AROUND)
        self.assertEqual(possible(y=2, x=0, book=INSIDE), AROUND)
        self.assertEqual(possible(INSIDE, 2, 0), IN)

    def test_without_sayings_all_are_possible(self):
        for rooms in ((2, 1, 0), (4, 4), (0, 0)):
            for x, y in itertools.permutations(range(len(rooms)), 2):
                self.assertEqual(possible((rooms, ()), x, y), tuple(all_standings(rooms, x, y)))

    def test_a_book_that_cannot_be_kept(self):
        for x, y in itertools.permutations(range(3), 2):
            self.assertEqual(possible(BARRED, x, y), ())
        self.assertEqual(possible(((0, 0), (either(0, 1, (0, 0)),)), 0, 1), ())

    def test_400_sayings(self):
        self.assertEqual(possible((ROOMS, INSIDE[1] * 200), 0, 1), IN + AROUND)

    def test_errors_and_their_order(self):
        self.asks_book(possible, None, None)
        self.asks_things(possible, EITHER)
        self.asks_things(possible, BARRED)


class Tight(Case):

    def test_example(self):
        told = (IN + AROUND, AROUND, AROUND)
        self.assertEqual(tight(INSIDE), told)
        self.assertEqual(tight(book=INSIDE), told)

    def test_few_things(self):
        for rooms in ((), (0,), (4,)):
            self.assertEqual(tight((rooms, ())), ())
        self.assertEqual(tight(((0, 0), ())), ((APART,),))
        self.assertEqual(tight(((1, 2), ((1, 0, (APART,)),))), ((APART,),))

    def test_a_book_that_cannot_be_kept(self):
        self.assertEqual(tight(BARRED), ((), (), ()))
        self.assertEqual(tight(((0, 0), ((0, 1, ()),))), ((),))

    def test_the_order_of_the_two_things(self):
        rooms = (1, 2, 1, 0)
        book = (rooms, ((1, 0, IN), (3, 1, (("in", 1),)), (2, 3, (APART,)), (2, 0, (APART,))))
        self.assertEqual(tight(book), (AROUND, (APART,), AROUND, (APART,), (("around", 1),), (APART,)))
        self.assertEqual(tight(book), tuple(possible(book, x, y) for x in range(4) for y in range(x + 1, 4)))

    def test_ten_things_and_more(self):
        self.assertEqual(tight(((1,) * 10, ())), ((APART,) + IN + AROUND,) * 45)
        for many in (11, 12, 24):
            self.refused(TooMany, many, tight, ((1,) * many, ()))
            self.refused(TooMany, many, tight, ((0,) * many, ((0, 1, ()),)))

    def test_errors_and_their_order(self):
        self.asks_book(tight)
        self.refused(BadSaying, 0, tight, ((1,) * 11, (None,)))

    def test_small_books_beside_their_forms(self):
        for rooms in ((1, 1), (2, 1), (0, 3), (2, 1, 0), (1, 1, 1)):
            self.check(rooms, all_books(rooms))
        for rooms, many, seed in (((2, 1, 2), 100, 51), ((1, 1, 1, 1), 60, 52), ((1, 2, 0, 1), 60, 53)):
            self.check(rooms, some_books(rooms, many, seed))

    def check(self, rooms, books):
        forests = all_forests(rooms)
        told_by = {}
        pairs = list(itertools.combinations(range(len(rooms)), 2))
        for book in books:
            forms = Look(book).forms(forests)
            table = tuple(tuple(each for each in all_standings(rooms, x, y)
                                if any(stands(forest, x, y) == each for forest in forms)) for x, y in pairs)
            self.assertEqual(tight(book), table, book)
            # The same forms exactly if the same table.
            self.assertEqual(told_by.setdefault(table, forms), forms)
            x, y = pairs[-1]
            self.assertEqual(possible(book, y, x), tuple(each for each in all_standings(rooms, y, x)
                                                         if any(stands(forest, y, x) == each for forest in forms)))
        seen = list(told_by.values())
        self.assertEqual(len(seen), len({tuple(forms) for forms in seen}))


class SideBySide(Case):

    def test_implies(self):
        more = (ROOMS, EITHER[1] + ((0, 1, (APART,)),))
        self.assertIs(implies(more, EITHER), True)
        self.assertIs(implies(EITHER, more), False)
        self.assertIs(implies(two=EITHER, one=more), True)
        self.assertIs(implies(INSIDE, (ROOMS, ((0, 1, IN + AROUND),))), True)
        self.assertIs(implies(EITHER, EITHER), True)
        self.assertIs(implies((ROOMS, ()), EITHER), False)
        self.assertIs(implies(EITHER, (ROOMS, ())), True)

    def test_what_cannot_be_kept_implies_each_book(self):
        for book in (EITHER, INSIDE, BARRED, (ROOMS, ()), (ROOMS, ((0, 2, ()),))):
            self.assertIs(implies(BARRED, book), True)
        self.assertIs(implies(EITHER, BARRED), False)
        self.assertIs(alike(BARRED, (ROOMS, ((0, 2, ()),))), True)
        self.assertIsNone(parting(BARRED, (ROOMS, ((0, 2, ()),))))

    def test_alike(self):
        self.assertIs(alike(INSIDE, (ROOMS, INSIDE[1] + ((1, 0, IN + AROUND),))), True)
        self.assertIs(alike(two=INSIDE, one=EITHER), False)
        self.assertIs(alike(EITHER, (ROOMS, EITHER[1][::-1] * 2)), True)
        self.assertIs(alike(((), ()), ((), ())), True)
        self.assertIs(alike(((3,), ()), ((3,), ())), True)

    def test_parting(self):
        self.assertIsNone(parting(EITHER, EITHER))
        self.assertIsNone(parting(((), ()), ((), ())))
        self.assertIsNone(parting(((3,), ()), ((3,), ())))
        # The first saying of the second book that does not follow from the first one is broken.
        more = (ROOMS, (EITHER[1][0], (0, 1, (APART,) + IN), (1, 2, IN)))
        form_told = (None, (0, 0), (1, 0))
        self.assertEqual(parting(EITHER, more), (0, form_told))
        self.assertEqual(form_told, against(EITHER, (more[1][1],)))
        self.assertEqual(parting(more, EITHER), (1, form_told))
        self.assertEqual(parting(two=BARRED, one=EITHER), (0, form(EITHER)))
        self.assertEqual(parting(BARRED, EITHER), (1, form(EITHER)))

    def test_each_has_a_form_that_the_other_has_not(self):
        one, two = (ROOMS, ((0, 1, IN),)), (ROOMS, ((0, 1, AROUND),))
        self.assertEqual(parting(one, two), (0, ((1, 0), None, None)))
        self.assertEqual(parting(two, one), (0, (None, (0, 0), None)))

    def test_400_sayings_and_one_more(self):
        many = (ROOMS, EITHER[1] * 200)
        self.assertIs(implies(many, many), True)
        self.assertIs(alike(many, EITHER), True)
        self.assertEqual(parting(many, (ROOMS, EITHER[1] + ((0, 1, (APART,)),))), (0, (None, (0, 0), (1, 0))))

    def test_errors_and_their_order(self):
        for function in (implies, alike, parting):
            self.asks_book(function, None)
            self.asks_book(lambda book: function(EITHER, book))
            self.refused(Unlike, 0, function, EITHER, ((1, 1, 0), ()))
            self.refused(Unlike, 0, function, EITHER, ((1, 1), ()))
            self.refused(Unlike, 0, function, ((), ()), ((0,), ()))
            self.refused(Unlike, 0, function, BARRED, ((2, 1, 1), BARRED[1]))
            self.refused(BadSaying, 0, function, EITHER, ((1, 1), (None,)))
            self.refused(BadSaying, 0, function, ((1, 1), (None,)), EITHER)
            self.refused(BadBook, -1, function, ((1, 1), None), ((5,), None))
            self.refused(BadRooms, 0, function, ((1, 1), ()), ((5,), None))

    def test_small_books_beside_their_forms(self):
        for rooms in ((1, 1), (2, 1)):
            self.check(rooms, list(itertools.product(all_books(rooms), repeat=2)))
        for rooms, seed in (((1, 1, 1), 54), ((2, 1, 0), 55), ((1, 2, 0, 1), 56)):
            books = list(some_books(rooms, 60, seed)) + [(rooms, ())]
            self.check(rooms, list(itertools.product(books[-21:], books[-21:])) + list(zip(books, books[1:])))

    def check(self, rooms, pairs):
        forests = all_forests(rooms)
        looks = {book: Look(book) for pair in pairs for book in pair}
        forms_of = {book: looks[book].forms(forests) for book in looks}
        for one, two in pairs:
            within = set(forms_of[one]) <= set(forms_of[two])
            same = forms_of[one] == forms_of[two]
            self.assertIs(implies(one, two), within)
            self.assertIs(alike(one, two), same)
            self.assertEqual(parting(one, two), self.told(one, two, looks, forms_of))
            if not same:
                at, forest = parting(one, two)
                self.assertIs(keeps((one, two)[at], forest), True)
                self.assertIs(keeps((one, two)[1 - at], forest), False)

    def told(self, one, two, looks, forms_of):
        """What parting has to return."""
        for at, (this, other) in enumerate(((one, two), (two, one))):
            for x, y, lets in other[1]:
                broken = [forest for forest in forms_of[this] if stands(forest, x, y) not in lets]
                if broken:
                    rest = tuple(each for each in all_standings(this[0], x, y) if each not in lets)
                    return at, Look((this[0], this[1] + ((x, y, rest),))).walk(looks[this].things)[0]
        return None
