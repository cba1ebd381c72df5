"""A house: its things, the units that it has, and its letters to the others.

Only the owner of a thing gives units of it, does calls and counts who has
units; the other houses ask it by messages, which it takes in the order in
which each of them sent them. So no drop is ahead of a give or a call.
"""

from deathnotes.checks import MOST_THINGS, WORTHS, check_handle, check_other, check_place, check_worth
from deathnotes.counts import add_one, rising, take_one
from deathnotes.errors import BadLetter, Full, Kept, NoHold, NoLink, NoThing
from deathnotes.lines import Line
from deathnotes.things import Thing

DEAD = "dead"


class House:
    """One of 2 to 8 houses."""

    def __init__(self, number, many):
        check_place(number, many)
        self._number = number
        self._many = many
        self._made = 0
        # Own things that stand, by their numbers.
        self._things = {}
        # How many units of each handle the house itself has.
        self._units = {}
        # Lines to the other houses, but to those of whose death it was told.
        self._lines = {other: Line(number, other) for other in range(many) if other != number}
        self._asked = 0
        # Handles of the calls that are not answered.
        self._calls = {}
        self._answers = {}
        self._watched = {}
        self._notes = {}

    def make(self, worth):
        """Make a thing of which this house has a unit, and tell its number."""
        check_worth(worth)
        if self._made == MOST_THINGS:
            raise Full("all things are made")
        number = self._made
        self._made += 1
        self._things[number] = Thing(worth, self._number)
        add_one(self._units, (self._number, number))
        return number

    def count(self, handle):
        """Tell how many units of a handle the house itself has."""
        check_handle(handle, self._many)
        return self._units.get(handle, 0)

    def give(self, handle, to):
        """Let another house have a unit more."""
        check_handle(handle, self._many)
        check_other(to, self._number, self._many)
        self._check_hold(handle)
        house, thing = handle
        if house == self._number:
            self._grant(thing, to)
        else:
            self._lines[house].put(("give", thing, to))
        return self._told()

    def drop(self, handle):
        """Give up a unit."""
        check_handle(handle, self._many)
        self._check_hold(handle)
        take_one(self._units, handle)
        self._give_up([handle])
        return self._told()

    def link(self, thing, handle):
        """Hand a unit of the house's to a thing of its own."""
        self._check_thing(thing)
        check_handle(handle, self._many)
        self._check_hold(handle)
        take_one(self._units, handle)
        add_one(self._things[thing].links, handle)

    def unlink(self, thing, handle):
        """Hand a unit of a thing's back to the house."""
        self._check_thing(thing)
        check_handle(handle, self._many)
        links = self._things[thing].links
        if handle not in links:
            raise NoLink("the thing has no unit of this")
        take_one(links, handle)
        add_one(self._units, handle)

    def call(self, handle, number):
        """Ask for a number to be added to a thing's worth; tell (call, letters)."""
        check_handle(handle, self._many)
        check_worth(number)
        self._check_hold(handle)
        call = self._asked
        self._asked += 1
        house, thing = handle
        if house == self._number:
            self._answers[call] = self._done(thing, number)
        else:
            self._calls[call] = handle
            self._lines[house].put(("call", thing, number, call))
        return (call, self._told())

    def answers(self):
        """Tell (call, answer) of all calls that are answered, rising."""
        return sorted(self._answers.items())

    def watch(self, handle):
        """Ask to be told of the death of a handle's house."""
        check_handle(handle, self._many)
        self._check_hold(handle)
        self._watched[handle] = True

    def notes(self):
        """Tell the watched handles of houses that died, rising."""
        return sorted(self._notes)

    def things(self):
        """Tell (number, worth) of the own things that stand, rising."""
        return [(number, self._things[number].worth) for number in sorted(self._things)]

    def table(self):
        """Tell (units, things): what the house itself has, and what its things have."""
        things = [(number, rising(self._things[number].links)) for number in sorted(self._things)]
        return (rising(self._units), tuple(things))

    def sweep(self, things):
        """Let own things be gone, whoever has units of them."""
        for number in things:
            self._check_thing(number)
        for number in things:
            if (self._number, number) in self._units:
                raise Kept("the house itself has a unit of one")
        handles = []
        # A number may stand in the list twice.
        for number in sorted(set(things)):
            handles.extend(self._things.pop(number).linked())
            for line in self._lines.values():
                line.recall(("unit", number))
        self._give_up(handles)
        return self._told()

    def died(self, other):
        """Be told of the death of another house."""
        check_other(other, self._number, self._many)
        if other in self._lines:
            del self._lines[other]
            self._note(other)
            self._end_calls(other)
            self._lose_units(other)
            self._give_up(self._lose_holder(other))
        return self._told()

    def bring(self, letter):
        """Take a letter."""
        to, body = letter
        if to != self._number:
            raise BadLetter("the letter is to another house")
        sender = body[0]
        if sender not in self._lines:
            return []
        line = self._lines[sender]
        if body[1] == "seen":
            line.forget(body[2])
            return []
        for message in line.take(body[2], body[3]):
            self._take(message, sender)
        # Also where nothing was new: the receipt may have been lost.
        return [line.receipt()] + self._told()

    def turn(self):
        """Tell again what is not known to be seen."""
        return [line.news() for line in self._lines.values() if line.waiting]

    def _told(self):
        """Make letters to the houses for which there is something new."""
        return [line.news() for line in self._lines.values() if line.fresh]

    def _check_hold(self, handle):
        if handle not in self._units:
            raise NoHold("the house itself has no unit of this")

    def _check_thing(self, thing):
        if thing not in self._things:
            raise NoThing("no own thing that stands")

    def _take(self, message, sender):
        """Do what a message of another house asks."""
        match message:
            case ("give", thing, to):
                self._grant(thing, to)
            case ("drop", thing):
                self._give_up(self._lose(thing, sender))
            case ("call", thing, number, call):
                self._lines[sender].put(("answer", call, self._done(thing, number)))
            case ("unit", thing):
                add_one(self._units, (sender, thing))
            case ("answer", call, answer):
                del self._calls[call]
                self._answers[call] = answer
            # A blank asks nothing.

    def _grant(self, number, to):
        """Let a house have a unit of an own thing, if the thing was not swept and the house lives."""
        if number not in self._things:
            return
        if to == self._number:
            add_one(self._units, (to, number))
        elif to in self._lines:
            self._lines[to].put(("unit", number))
        else:
            return
        add_one(self._things[number].had, to)

    def _done(self, number, added):
        """Do a call of an own thing, and tell its answer."""
        if number not in self._things:
            return DEAD
        thing = self._things[number]
        thing.worth = (thing.worth + added) % WORTHS
        return thing.worth

    def _give_up(self, handles):
        """Give up a unit of each handle, and all that goes with the last units."""
        left = list(handles)
        while left:
            house, thing = left.pop()
            if house == self._number:
                left.extend(self._lose(thing, house))
            else:
                self._lines[house].put(("drop", thing))

    def _lose(self, number, house):
        """Let an own thing lose a unit that a house had; tell of what that gives up units."""
        if number not in self._things:
            return []
        self._things[number].lose(house)
        return self._gone(number)

    def _lose_holder(self, house):
        """Let the own things lose all units that a house had; tell of what that gives up units."""
        handles = []
        for number in list(self._things):
            self._things[number].lose_all(house)
            handles.extend(self._gone(number))
        return handles

    def _gone(self, number):
        """Let an own thing go if nobody has a unit of it; tell of what it had units."""
        if self._things[number].had:
            return []
        return self._things.pop(number).linked()

    def _note(self, house):
        for handle in self._watched:
            if handle[0] == house:
                self._notes[handle] = True

    def _end_calls(self, house):
        for call, handle in list(self._calls.items()):
            if handle[0] == house:
                del self._calls[call]
                self._answers[call] = DEAD

    def _lose_units(self, house):
        """Forget the units that the house and its things have of a dead house's things."""
        self._units = {handle: self._units[handle] for handle in self._units if handle[0] != house}
        for thing in self._things.values():
            thing.links = {handle: thing.links[handle] for handle in thing.links if handle[0] != house}
