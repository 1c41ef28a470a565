"""The tests' own desk: of each hand all its deeds that may still be redone or stand, and how far they are done."""

from nestsay import errors
from nestsay.answers import answer
from nestsay.answertexts import print_answer
from nestsay.entrytexts import print_entry
from nestsay.foresttexts import print_forest
from nestsay.papers import no_paper
from nestsay.papertexts import print_paper
from nestsay.sayingtexts import print_saying
from nestsay.solver import form
from nestsay.tight import possible
from nestsay.whose import binding
from textlook import Wrong, desk_row_look, named, rooms_in
from helper import saying_fault


class OwnDesk:

    def __init__(self, world, entries=()):
        self.world = world
        # All entries that were ever said; an entry stands if the deeds about it that are done are of odd number.
        self.said = list(entries)
        self.first = len(entries)
        self.deeds, self.done, self.floor = {}, {}, {}

    def stands(self, number):
        hand = self.said[number][0]
        return (number < self.first) != (self.deeds.get(hand, [])[:self.done.get(hand, 0)].count(number) % 2 == 1)

    def entries(self):
        return tuple(entry for number, entry in enumerate(self.said) if self.stands(number))

    def book(self):
        return rooms_in(self.world), tuple(entry[2] for entry in self.entries())

    def number_of(self, hand, name):
        for number, entry in enumerate(self.said):
            if entry[:2] == (hand, name) and self.stands(number):
                return number
        return None

    def fault(self, word, hand, *told):
        """The error, and its what, that the deed has to raise, or None."""
        for each in (hand,) + (told[:1] if word in ("thing", "say", "back") else ()):
            if type(each) is not str or not named(each):
                return errors.BadName, each
        return getattr(self, word + "_fault")(hand, *told)

    def thing_fault(self, hand, name, doors):
        if name in self.world[0]:
            return errors.Twice, name
        if type(doors) is not tuple or len(doors) > 4 or not all(type(door) is str and named(door) for door in doors):
            return errors.BadDoors, doors
        if len(set(doors)) < len(doors):
            return errors.BadDoors, doors
        return (errors.TooMany, 25) if len(self.world[0]) == 24 else None

    def say_fault(self, hand, name, saying):
        if saying_fault(rooms_in(self.world), saying):
            return errors.BadSaying, 0
        if self.number_of(hand, name) is not None:
            return errors.Twice, name
        return (errors.TooMany, 401) if len(self.entries()) == 400 else None

    def back_fault(self, hand, name):
        return (errors.NoSaying, name) if self.number_of(hand, name) is None else None

    def undo_fault(self, hand):
        if self.done.get(hand, 0) == self.floor.get(hand, 0):
            return errors.NothingToUndo, hand
        return self.full_fault(self.deeds[hand][self.done[hand] - 1])

    def redo_fault(self, hand):
        if self.done.get(hand, 0) == len(self.deeds.get(hand, [])):
            return errors.NothingToRedo, hand
        return self.full_fault(self.deeds[hand][self.done[hand]])

    def full_fault(self, number):
        return (errors.TooMany, 401) if not self.stands(number) and len(self.entries()) == 400 else None

    def do(self, word, hand, *told):
        """A deed of which there is no fault."""
        if word == "thing":
            self.world = self.world[0] + told[:1], self.world[1] + told[1:]
        elif word == "say":
            self.said.append((hand,) + told)
            self.put_in(hand, len(self.said) - 1)
        elif word == "back":
            self.put_in(hand, self.number_of(hand, told[0]))
        else:
            self.done[hand] += {"undo": -1, "redo": 1}[word]

    def put_in(self, hand, number):
        done = self.done.get(hand, 0)
        self.deeds[hand] = self.deeds.get(hand, [])[:done] + [number]
        self.done[hand] = done + 1
        self.floor[hand] = max(self.floor.get(hand, 0), done + 1 - 100)

    def whose(self):
        found = binding(self.book())
        return None if found is None else tuple(self.entries()[index] for index in found)

    def row(self, text):
        """The answer of a row."""
        try:
            hand, word, place, second, told = desk_row_look(self.world, text)
        except Wrong as why:
            return "refused: {} {}".format(why.fault[0].__name__, why.fault[1])
        if word not in ("thing", "say", "back", "undo", "redo"):
            return getattr(self, "tell_" + word)(*told)
        fault = self.fault(word, hand, *told)
        if fault:
            at = second if fault[0] in (errors.Twice, errors.NoSaying) else place
            return "refused: {} {}".format(fault[0].__name__, at)
        self.do(word, hand, *told)
        return "ok" if self.whose() is None else "ok, not kept: " + self.tell_whose()

    def tell_sure(self, question):
        return print_answer(self.world, answer(self.book(), question))

    tell_may = tell_sure

    def tell_where(self, x, y):
        return print_saying(self.world, (x, y, possible(self.book(), x, y)))

    def tell_whose(self):
        whose = self.whose()
        return "none" if whose is None else ", ".join(hand + " " + name for hand, name, _ in whose)

    def tell_form(self):
        forest = form(self.book())
        if forest is None:
            return print_paper(self.world, no_paper(self.book()))
        return ("form " + print_forest(self.world, forest)).rstrip()

    def tell_book(self):
        return " ; ".join(print_entry(self.world, entry) for entry in self.entries()) or "empty"
