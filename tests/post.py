"""What the tests share: a post between houses, which counts units and calls of its own."""

import random
from collections import Counter

from by_hand import beyond_by_hand, unfounded_by_hand
from deathnotes.errors import BadTables, NoteError
from deathnotes.houses import House
from deathnotes.notes import read, written
from deathnotes.tables import rings, why

MOST_LETTERS = 200000


def is_body(body):
    """Tell whether this is a tuple of numbers, texts, Nones and such tuples."""
    if not isinstance(body, tuple):
        return False
    return all(part is None or type(part) in (int, str) or is_body(part) for part in body)


def one_order(worth, done, maybe, last):
    """Tell whether there is an order of all done calls and some of the others.

    `done` holds (number, answer), `maybe` the numbers of calls of which
    nobody knows whether they were done; `last` is the worth behind all, or
    None where it is not known.
    """
    numbers = [number for number, _ in done] + maybe
    seen = set()
    ahead = [(worth, frozenset())]
    while ahead:
        now, used = ahead.pop()
        if used >= frozenset(range(len(done))) and last in (None, now):
            return True
        for at, number in enumerate(numbers):
            then = (now + number) % 1000
            after = used | {at}
            if at in used or after in seen or (at < len(done) and done[at][1] != then):
                continue
            seen.add(after)
            ahead.append((then, after))
    return False


class Post:
    """Houses, the letters between them, and what each house must have by the test's count.

    Every deed goes through the methods below: each does the deed, counts it,
    and looks at all houses that are up, at what point 9 says among others.
    """

    def __init__(self, test, many):
        self.test = test
        self.many = many
        self.houses = [House(number, many) for number in range(many)]
        self.up = list(range(many))
        self.told = set()
        # Letters under way, those told first ahead, and all that ever were:
        # each with the number of letters that were told ahead of it.
        self.way = []
        self.ever = []
        self.worths = {}
        self.lasts = {}
        self.made = Counter()
        self.units = [Counter() for _ in range(many)]
        self.links = [{} for _ in range(many)]
        self.given = []
        self.come = Counter()
        self.calls = {}
        self.answers = [{} for _ in range(many)]
        self.watched = [set() for _ in range(many)]
        self.noted = [set() for _ in range(many)]
        self.swept = {}

    # Deeds.

    def make(self, house, worth=0):
        thing = self.houses[house].make(worth)
        self.test.assertEqual(thing, self.made[house])
        self.made[house] += 1
        handle = (house, thing)
        self.worths[handle] = self.lasts[handle] = worth
        self.units[house][handle] += 1
        self.links[house][thing] = Counter()
        self.look(house)
        return handle

    def give(self, house, handle, to):
        self.given.append((house, handle, to))
        self.post(house, self.houses[house].give(handle, to))

    def drop(self, house, handle):
        self.units[house][handle] -= 1
        self.post(house, self.houses[house].drop(handle))

    def link(self, house, thing, handle):
        self.units[house][handle] -= 1
        self.links[house][thing][handle] += 1
        self.test.assertIsNone(self.houses[house].link(thing, handle))
        self.look(house)

    def unlink(self, house, thing, handle):
        self.links[house][thing][handle] -= 1
        self.units[house][handle] += 1
        self.test.assertIsNone(self.houses[house].unlink(thing, handle))
        self.look(house)

    def call(self, house, handle, number):
        call, letters = self.houses[house].call(handle, number)
        self.test.assertEqual(call, sum(1 for caller, _ in self.calls if caller == house))
        self.calls[house, call] = (handle, number)
        self.post(house, letters)
        return call

    def watch(self, house, handle):
        self.watched[house].add(handle)
        self.test.assertIsNone(self.houses[house].watch(handle))
        self.look(house)

    def sweep(self, house, things):
        handed = list(things)
        for thing in things:
            self.swept[house, thing] = len(self.ever)
            self.links[house].pop(thing, None)
        letters = self.houses[house].sweep(handed)
        self.test.assertEqual(handed, list(things))
        handed.clear()
        self.post(house, letters)
        self.test.assertFalse(set(things) & set(dict(self.houses[house].things())))

    def turn(self, house):
        self.post(house, self.houses[house].turn())

    def die(self, house):
        """Let a house die; nobody is told yet."""
        self.up.remove(house)

    def tell(self, house, dead):
        """Tell a house of a death."""
        self.told.add((house, dead))
        for had in [self.units[house], *self.links[house].values()]:
            for handle in [handle for handle in had if handle[0] == dead]:
                del had[handle]
        self.noted[house] |= {handle for handle in self.watched[house] if handle[0] == dead}
        self.post(house, self.houses[house].died(dead))
        calls = {call for (caller, call), (handle, _) in self.calls.items() if (caller, handle[0]) == (house, dead)}
        self.test.assertLessEqual(calls, set(dict(self.houses[house].answers())))

    def tell_all(self):
        """Tell each death to all that are up and do not know."""
        for dead in range(self.many):
            for house in list(self.up):
                if dead not in self.up and (house, dead) not in self.told:
                    self.tell(house, dead)

    # Letters.

    def post(self, house, letters):
        """Look at the letters that a deed told, and put them on the way."""
        self.test.assertIsInstance(letters, list)
        for letter in letters:
            self.test.assertIsInstance(letter, tuple)
            to, body = letter
            self.test.assertIn(to, range(self.many))
            self.test.assertNotEqual(to, house)
            self.test.assertTrue(is_body(body), body)
            self.way.append((len(self.ever), letter))
            self.ever.append(letter)
        # What is told may be changed.
        letters.clear()
        self.look(house)

    def bring(self, at=0):
        """Bring the letter that is at this place of those under way."""
        self.hand(*self.way.pop(at))

    def hand(self, when, letter):
        """Hand a letter over, whether it is under way or came already."""
        to = letter[0]
        if to not in self.up:
            return
        letters = self.houses[to].bring(letter)
        self.arrive(to, when)
        self.post(to, letters)

    def bring_all(self):
        """Bring all letters under way, those told first ahead, until there is none."""
        many = 0
        while self.way:
            many += 1
            self.test.assertLess(many, MOST_LETTERS, "letters without an end")
            self.bring()

    def lose(self):
        """Lose all letters under way."""
        self.way.clear()

    def round(self):
        """Give each house that is up a turn, bring all letters; tell how many there were."""
        many = len(self.ever)
        for house in list(self.up):
            self.turn(house)
            self.bring_all()
        return len(self.ever) - many

    def calm(self):
        """Let it be calm until it must be at rest, and look whether it is."""
        self.tell_all()
        for _ in range(sum(self.made.values()) + 10):
            self.round()
        self.test.assertEqual(self.round(), 0, "letters at rest")
        self.look_at_rest()

    # Looking.

    def arrive(self, house, when):
        """Count the units that came by a letter."""
        units = dict(self.houses[house].table()[0])
        for handle in sorted(units):
            more = units[handle] - self.units[house][handle]
            self.test.assertGreaterEqual(more, 0, handle)
            if more == 0:
                continue
            self.test.assertLess(when, self.swept.get(handle, when + 1), "a unit of a swept thing")
            self.come[house, handle] += more
            self.units[house][handle] += more
            gives = sum(1 for _, given, to in self.given if (to, given) == (house, handle))
            self.test.assertLessEqual(self.come[house, handle], gives, "more units than were given")

    def look(self, actor):
        """Look at all houses that are up: only the one that did something may have changed."""
        for house in self.up:
            self.look_at_table(house, actor)
            self.look_at_answers(house, actor)
            self.test.assertEqual(self.houses[house].notes(), sorted(self.noted[house]))
        for house in self.up:
            for had in [self.units[house], *self.links[house].values()]:
                for (owner, thing), many in had.items():
                    if many and owner in self.up and (owner, thing) not in self.swept:
                        self.test.assertIn(thing, self.links[owner], "a thing is gone of which a unit is had")

    def look_at_table(self, house, actor):
        units, things = self.houses[house].table()
        self.test.assertEqual(units, tuple(sorted((+self.units[house]).items())))
        standing = dict(things)
        self.test.assertEqual(things, tuple(sorted(standing.items())))
        if house == actor:
            for thing in [thing for thing in self.links[house] if thing not in standing]:
                del self.links[house][thing]
        self.test.assertEqual(sorted(standing), sorted(self.links[house]))
        for thing, links in things:
            self.test.assertEqual(links, tuple(sorted((+self.links[house][thing]).items())))
        worths = self.houses[house].things()
        self.test.assertEqual([thing for thing, _ in worths], sorted(standing))
        for thing, worth in worths:
            if house != actor:
                self.test.assertEqual(self.lasts[house, thing], worth)
            self.lasts[house, thing] = worth

    def look_at_answers(self, house, actor):
        told = self.houses[house].answers()
        self.test.assertEqual(told, sorted(dict(told).items()))
        answers = dict(told)
        before = self.answers[house]
        if house == actor:
            self.test.assertEqual({call: answers.get(call) for call in before}, before)
        else:
            self.test.assertEqual(answers, before)
        for call in answers:
            handle = self.calls[house, call][0] if (house, call) in self.calls else None
            if answers[call] == "dead" and handle is not None:
                self.test.assertTrue((house, handle[0]) in self.told or handle in self.swept, "dead, but by no death")
        self.answers[house] = answers

    def look_at_rest(self):
        """Look at what point 10 says of what is at rest."""
        for house in self.up:
            calls = [call for caller, call in self.calls if caller == house]
            self.test.assertEqual(sorted(calls), sorted(self.answers[house]))
        self.look_at_gives()
        had = self.all_had()
        for house in self.up:
            for thing in range(self.made[house]):
                if (house, thing) not in self.swept:
                    self.test.assertEqual(thing in self.links[house], (house, thing) in had, (house, thing))
        self.look_at_orders()
        self.look_at_tables()

    def look_at_gives(self):
        sure = Counter((to, handle) for giver, handle, to in self.given if giver in self.up)
        for to, handle in sure:
            if to in self.up and handle[0] in self.up and handle not in self.swept:
                self.test.assertGreaterEqual(self.come[to, handle], sure[to, handle], "a unit did not come")

    def all_had(self):
        """Tell the handles of which a house that is up, or a thing at one, has a unit."""
        had = set()
        for house in self.up:
            for units in [self.units[house], *self.links[house].values()]:
                had |= set(+units)
        return had

    def look_at_orders(self):
        """Look whether each thing's answers are those of one order of its calls."""
        for handle, worth in self.worths.items():
            done, maybe = [], []
            for (caller, call), (called, number) in self.calls.items():
                answer = self.answers[caller].get(call)
                if called == handle and answer is None:
                    maybe.append(number)
                elif called == handle and answer != "dead":
                    done.append((number, answer))
                elif called == handle and handle[0] not in self.up:
                    # It may have been done, and the answer died with the owner.
                    maybe.append(number)
            stands = handle[0] in self.up and handle[1] in self.links[handle[0]]
            last = self.lasts[handle] if stands or handle in self.swept else None
            self.test.assertTrue(one_order(worth, done, maybe, last), (handle, worth, done, maybe, last))

    # Tables and rings.

    def tables(self):
        """Tell the tables of all houses, None for one that died."""
        return [house.table() if number in self.up else None for number, house in enumerate(self.houses)]

    def look_at_tables(self):
        """Look at what the tables at rest tell: of what stands they tell what is come to, and by which row."""
        tables = self.tables()
        beyond, unfounded = beyond_by_hand(tables), unfounded_by_hand(tables)
        # Others keep their units of what was swept; else the tables at rest are such.
        self.test.assertTrue(unfounded is None or self.swept)
        if beyond is not None or unfounded is not None:
            with self.test.assertRaises(BadTables) as caught:
                rings(tables)
            self.test.assertEqual(caught.exception.number, unfounded if beyond is None else beyond)
            return
        found = self.come_to()
        standing = [(house, thing) for house in self.up for thing in self.links[house]]
        self.test.assertEqual(rings(tables), sorted(set(standing) - found))
        for handle in standing:
            self.look_at_row(handle, why(tables, handle), found)
        self.test.assertEqual(read(written(tables)), tables)

    def look_at_row(self, handle, row, found):
        """Look whether each step of a row is a unit that is had."""
        self.test.assertEqual(row is not None, handle in found)
        if row is not None:
            self.test.assertGreater(self.units[row[0]][row[1]], 0)
            for (owner, thing), other in zip(row[1:], row[2:]):
                self.test.assertGreater(self.links[owner][thing][other], 0)
            self.test.assertEqual(row[-1], handle)

    def come_to(self):
        """Tell the handles of the things that are come to from houses that are up, by the test's own count."""
        found = set()
        ahead = [handle for house in self.up for handle in +self.units[house]]
        while ahead:
            owner, thing = ahead.pop()
            if (owner, thing) in found or owner not in self.up or thing not in self.links[owner]:
                continue
            found.add((owner, thing))
            ahead.extend(+self.links[owner][thing])
        return found

    def sweep_rings(self, order=None, mess=None):
        """At rest, let each house sweep what rings tells of its own; tell of how many.

        The houses sweep in this order, and behind that something may be
        done with the letters, ahead of the calm.
        """
        told = rings(self.tables())
        found = self.come_to()
        units = [+had for had in self.units]
        for house in order or list(self.up):
            self.sweep(house, [thing for owner, thing in told if owner == house])
        if mess:
            mess()
        self.calm()
        for house in self.up:
            self.test.assertEqual({(house, thing) for thing in self.links[house]},
                                  {handle for handle in found if handle[0] == house})
            self.test.assertEqual(+self.units[house], units[house])
        self.test.assertEqual(rings(self.tables()), [])
        return len(told)

    def picture(self):
        """Tell all that the houses that are up tell of themselves."""
        return [(house.table(), house.things(), house.answers(), house.notes())
                for house in [self.houses[number] for number in self.up]]

    def refused(self, kind, deed, *handed):
        """Let a deed be refused by this class, with nothing changed."""
        before = self.picture()
        with self.test.assertRaises(NoteError) as caught:
            deed(*handed)
        self.test.assertIs(type(caught.exception), kind)
        self.test.assertEqual(self.picture(), before)


class Run:
    """A long run of deeds by chance, from one seed, with so many things of a house at the most."""

    def __init__(self, test, seed, many, deaths, wild, most):
        self.chance = random.Random(seed)
        self.post = Post(test, many)
        self.deaths = deaths
        self.wild = wild
        self.most = most
        self.orderly = self.chance.random() < 0.3
        self.deeds = [(self.make, 3), (self.give, 8), (self.drop, 7), (self.link, 5), (self.unlink, 2),
                      (self.call, 6), (self.watch, 1), (self.turn, 3), (self.bring, 16), (self.again, 3),
                      (self.lose, 3), (self.die, 1), (self.tell, 2), (self.sweep, 1)]

    def step(self):
        """Do one deed by chance."""
        deeds, weights = zip(*self.deeds)
        deed = self.chance.choices(deeds, weights)[0]
        deed(self.chance.choice(self.post.up))

    def pick(self, things):
        """Pick one by chance, None of none."""
        return self.chance.choice(things) if things else None

    def make(self, house):
        if self.post.made[house] < self.most:
            self.post.make(house, self.chance.choice([0, 999, self.chance.randrange(1000)]))

    def unit(self, house):
        return self.pick(sorted(+self.post.units[house]))

    def give(self, house):
        handle = self.unit(house)
        if handle:
            self.post.give(house, handle, self.pick([to for to in range(self.post.many) if to != house]))

    def drop(self, house):
        handle = self.unit(house)
        if handle:
            self.post.drop(house, handle)

    def link(self, house):
        handle, thing = self.unit(house), self.pick(sorted(self.post.links[house]))
        if handle and thing is not None:
            self.post.link(house, thing, handle)

    def unlink(self, house):
        links = self.post.links[house]
        pair = self.pick([(thing, handle) for thing in sorted(links) for handle in sorted(+links[thing])])
        if pair:
            self.post.unlink(house, *pair)

    def call(self, house):
        handle = self.unit(house)
        if handle:
            self.post.call(house, handle, self.chance.choice([0, 1, 999, self.chance.randrange(1000)]))

    def watch(self, house):
        handle = self.unit(house)
        if handle:
            self.post.watch(house, handle)

    def turn(self, house):
        self.post.turn(house)

    def bring(self, _):
        """Bring some letter that is under way, which may come again."""
        if self.post.way:
            at = 0 if self.orderly else self.chance.randrange(len(self.post.way))
            if self.chance.random() < 0.2:
                self.post.way.append(self.post.way[at])
            self.post.bring(at)

    def again(self, _):
        """Bring some letter of all that ever were."""
        if self.post.ever:
            when = self.chance.randrange(len(self.post.ever))
            self.post.hand(when, self.post.ever[when])

    def lose(self, _):
        """Lose one letter that is under way, or all."""
        if self.post.way and self.chance.random() < 0.2:
            self.post.lose()
        elif self.post.way:
            self.post.way.pop(self.chance.randrange(len(self.post.way)))

    def die(self, house):
        if self.deaths and len(self.post.up) > 1 and self.chance.random() < 0.3:
            self.post.die(house)

    def tell(self, house):
        """Tell of a death, perhaps again."""
        dead = self.pick([dead for dead in range(self.post.many) if dead not in self.post.up])
        if dead is not None:
            self.post.tell(house, dead)

    def sweep(self, house):
        """Sweep what the house has no unit of itself, whoever else may have one."""
        if self.wild:
            units = +self.post.units[house]
            things = [thing for thing in sorted(self.post.links[house]) if (house, thing) not in units]
            self.post.sweep(house, self.chance.sample(things, self.chance.randint(0, len(things))))

    def mess(self):
        """Give turns, and bring, double and lose letters for a while."""
        for _ in range(20):
            deed = self.chance.choice([self.turn, self.bring, self.bring, self.again, self.lose])
            deed(self.chance.choice(self.post.up))

    def sweep_rings(self):
        """Let houses sweep rings, in whatever order and with whatever happens to the letters."""
        order = self.chance.sample(self.post.up, len(self.post.up))
        return self.post.sweep_rings(order, self.mess)

    def run(self, steps):
        """Do deeds, let it be calm, and bring late letters, which change nothing."""
        for _ in range(steps):
            self.step()
        self.chance.shuffle(self.post.way)
        self.post.calm()
        before = self.post.picture()
        late = list(enumerate(self.post.ever))
        self.chance.shuffle(late)
        for when, letter in late[:60]:
            self.post.hand(when, letter)
        self.post.test.assertEqual(self.post.picture(), before)
        self.post.calm()
        self.post.test.assertEqual(self.post.picture(), before)
