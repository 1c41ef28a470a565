from helper import ODD, Case, changed, nested, of_parts
from nestsay.errors import BadWorld, TooMany
from nestsay.worlds import is_world, made_world, rooms_of

RESERVED = """
    in around with apart any never not and or sure may thing say back undo redo where whose form book barred
""".split()
LETTERS = "abcdefghijklmnopqrstuvwxyz"
WORLD = (("cap", "bag", "left"), ((), ("left", "right"), ("cap", "left", "b", "z9")))
ODD_TEXTS = ODD + ("a", "in", "A", "a b", "abcdefghijkl", "abcdefghijklm", ("a",), ("a", "a"), (("a",), ((),)))


def is_name(thing):
    if type(thing) is not str or thing in RESERVED or not 1 <= len(thing) <= 12:
        return False
    return thing[0] in LETTERS and set(thing) <= set(LETTERS + "0123456789")


def world_fault(thing):
    """The error, and its what, that made_world has to raise; None if it has to return."""
    if type(thing) is not tuple or len(thing) != 2 or {type(part) for part in thing} != {tuple}:
        return BadWorld, -1
    names, doors = thing
    if len(names) != len(doors):
        return BadWorld, -1
    if len(names) > 24:
        return TooMany, len(names)
    for x, name in enumerate(names):
        if not is_name(name) or names.index(name) != x or type(doors[x]) is not tuple or len(doors[x]) > 4:
            return BadWorld, x
        if not all(map(is_name, doors[x])) or len(set(doors[x])) != len(doors[x]):
            return BadWorld, x
    return None


def many_things(many, doors=()):
    return tuple("t" + str(x) for x in range(many)), (doors,) * many


class Worlds(Case):

    def check(self, thing):
        fault = world_fault(thing)
        self.assertIs(is_world(thing), fault is None, thing)
        self.as_told(fault, made_world, thing)
        self.as_told(fault, rooms_of, thing)
        if fault is None:
            self.assertIs(made_world(thing), thing)
            self.assertEqual(rooms_of(thing), tuple(map(len, thing[1])))

    def test_a_world(self):
        self.assertIs(made_world(thing=WORLD), WORLD)
        self.assertIs(is_world(thing=WORLD), True)
        self.assertEqual(rooms_of(world=WORLD), (0, 2, 4))
        self.assertIs(is_world(((), ())), True)
        self.assertEqual(rooms_of(((), ())), ())

    def test_names(self):
        good = ("a", "z", "a0", "abcdefghijkl", "a23456789012", "yes", "no", "inn", "forma", "x" * 12, "zz9z")
        wrong = ("", "0", "1a", "A", "aB", "Ab", "a_b", "a b", " a", "a ", "a-", "a.", "abcdefghijklm", "x" * 13,
                 "a\n", "\u00e9", "a\u0301", "a\u0661", "\u00aa", "a" * 20000, None, 3, True, ("a",), ())
        for names, told in ((good, True), (wrong + tuple(RESERVED), False)):
            for name in names:
                self.assertIs(is_world(((name,), ((),))), told, name)
                self.assertIs(is_world((("b",), ((name,),))), told, name)
                self.check((("b", name), ((), ())))
                self.check((("b", "c"), ((), ("d", name))))
        self.assertEqual(len(RESERVED), 21)
        for word in RESERVED:
            self.assertIs(is_world(((word + "x",), ((word + "0",),))), True)

    def test_24_and_25_things(self):
        self.check(many_things(24))
        self.check(many_things(24, ("a", "b", "c", "d")))
        self.refused(TooMany, 25, made_world, many_things(25))
        self.refused(TooMany, 25, made_world, ((None,) * 25, ((),) * 25))
        self.refused(BadWorld, -1, made_world, (many_things(25)[0], ((),) * 24))

    def test_4_and_5_rooms(self):
        self.check((("a",), (("a", "b", "c", "d"),)))
        self.refused(BadWorld, 0, made_world, (("a",), (("a", "b", "c", "d", "e"),)))

    def test_the_same_name(self):
        self.check((("a", "b"), (("a", "b"), ("a", "b"))))
        self.refused(BadWorld, 1, made_world, (("a", "a"), ((), ())))
        self.refused(BadWorld, 2, made_world, (("a", "b", "a", "b"), ((), (), (), None)))
        self.refused(BadWorld, 0, made_world, (("a", "a"), (("r", "r"), ())))

    def test_all_kinds_of_values(self):
        for thing in ODD_TEXTS + (nested(50), of_parts(10000), (of_parts(5000), of_parts(5000))):
            self.check(thing)
        for world in (WORLD, ((), ()), (("a",), (("b",),))):
            for thing in changed(world, ODD_TEXTS):
                self.check(thing)

    def test_errors(self):
        self.asks_world(made_world)
        self.asks_world(rooms_of)
