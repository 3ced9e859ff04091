"""d3 to d7 and the interface: untold/parties.py."""

import random
import unittest
from itertools import permutations, product

from tests.oracle import fresh, has_and_made, numbers, plain_letters, plain_own, some_run
from untold.coins import coins_of
from untold.errors import BadEntry
from untold.letters import letters_of
from untold.parties import Party, carried, reached
from untold.plain import shown
from untold.runs import run

SETTING = ("setting", 7, 3, 1)
NEXT = ("next",)
PROGRAM = ("program", (("in", 1), ("in", 2), ("product", 0, 1), ("out", 2, 3)))
COINS = (1, 2, 0, 4, 1)
EACH_KIND = ("program", (
    ("in", 1), ("in", 2), ("const", 5), ("sum", 0, 2), ("less", 3, 1), ("times", 3, 4), ("product", 5, 3),
    ("out", 6, 1), ("out", 5, 2), NEXT, ("kept", 6), ("kept", 3), ("product", 10, 11), ("out", 12, 3),
))
SETTINGS = [("setting", *rest) for rest in (
    (2, 1, 0), (3, 2, 0), (5, 3, 1), (7, 3, 0), (7, 5, 1), (11, 6, 2), (11, 9, 4),
)]


class Parties(unittest.TestCase):
    def refuse(self, party, thing, place):
        before = (party.took, party.shares, party.made, party.read)
        with self.assertRaises(BadEntry, msg=repr(thing)) as caught:
            party.take(thing)
        self.assertIs(caught.exception.__class__, BadEntry)
        self.assertEqual(caught.exception.place, place, thing)
        self.assertEqual((party.took, party.shares, party.made, party.read), before)

    def hold(self, party, setting, program):
        """The party has, has made and read what d3 says of its letters."""
        right = has_and_made(setting, program, party.number, party.inputs, party.coins, party.took)
        self.assertEqual((party.shares, party.made, party.read), right, (setting, program, party.number, party.took))


class OneParty(Parties):
    def test_at_the_beginning(self):
        party = Party(SETTING, PROGRAM, 1, (2,), (1, 0))
        self.assertEqual((party.number, party.inputs, party.coins, party.took), (1, (2,), (1, 0), ()))
        self.assertEqual(party.shares, (3, None, None, None))
        self.assertEqual(party.made, (("letter", 0, 1, 2, 4), ("letter", 0, 1, 3, 5)))
        self.assertEqual(party.read, ())

    def test_letter_by_letter(self):
        # The numbers are those of test_letters.py.
        one = Party(SETTING, PROGRAM, 1, (2,), (1, 0))
        self.assertEqual(one.take(("letter", 2, 2, 1, 4)), ())
        self.assertEqual(one.shares, (3, None, None, None))
        self.assertEqual(one.take(("letter", 1, 2, 1, 5)), (("letter", 2, 1, 2, 1), ("letter", 2, 1, 3, 1)))
        self.assertEqual(one.shares, (3, 5, None, None))
        self.assertEqual(one.take(("letter", 2, 3, 1, 4)), (("letter", 3, 1, 3, 2),))
        self.assertEqual(one.shares, (3, 5, 2, None))
        self.assertEqual(one.made, (("letter", 0, 1, 2, 4), ("letter", 0, 1, 3, 5), ("letter", 2, 1, 2, 1),
                                    ("letter", 2, 1, 3, 1), ("letter", 3, 1, 3, 2)))
        self.assertEqual(one.took, (("letter", 2, 2, 1, 4), ("letter", 1, 2, 1, 5), ("letter", 2, 3, 1, 4)))

    def test_a_reader(self):
        three = Party(SETTING, PROGRAM, 3, (), (1,))
        self.assertEqual((three.shares, three.made, three.read), ((None,) * 4, (), ()))
        for letter in (("letter", 3, 2, 3, 5), ("letter", 0, 1, 3, 5), ("letter", 3, 1, 3, 2), ("letter", 2, 1, 3, 1)):
            self.assertEqual(three.take(letter), ())
        self.assertEqual(three.take(("letter", 1, 2, 3, 2)), (("letter", 2, 3, 1, 4), ("letter", 2, 3, 2, 5)))
        self.assertEqual((three.shares, three.read), ((5, 2, None, None), ()))
        self.assertEqual(three.take(("letter", 2, 2, 3, 5)), ())
        self.assertEqual((three.shares, three.read), ((5, 2, 1, None), ((3, 6),)))

    def test_a_letter_that_was_taken_changes_nothing(self):
        one = Party(SETTING, PROGRAM, 1, (2,), (1, 0))
        one.take(("letter", 2, 2, 1, 4))
        self.assertEqual(one.take(("letter", 2, 2, 1, 4)), ())
        one.take(("letter", 1, 2, 1, 5))
        for letter in (("letter", 1, 2, 1, 5), ("letter", 2, 2, 1, 4)):
            before = (one.took, one.shares, one.made, one.read)
            self.assertEqual(one.take(letter), ())
            self.assertEqual((one.took, one.shares, one.made, one.read), before)
        self.assertEqual(one.took, (("letter", 2, 2, 1, 4), ("letter", 1, 2, 1, 5)))
        self.hold(one, SETTING, PROGRAM)

    def test_a_party_alone_needs_no_letters(self):
        setting, rows = ("setting", 5, 1, 0), (("in", 1), ("product", 0, 0), NEXT, ("kept", 1), ("out", 3, 1))
        party = Party(setting, ("program", rows), 1, (3,), ())
        self.assertEqual((party.shares, party.made, party.read), ((3, 4, None, 4, None), (), ((4, 4),)))

    def test_a_row_next_holds_nothing_up(self):
        # Without its share of wire 1 the party goes on behind the mark, and a late letter is not too late.
        rows = (("in", 1), ("in", 2), NEXT, ("kept", 0), ("in", 3), NEXT, ("kept", 3), ("out", 6, 1))
        program = ("program", rows)
        party = Party(SETTING, program, 3, (6,), (1, 2, 3))
        self.assertEqual([letter[1] for letter in party.take(("letter", 0, 1, 3, 4))], [3, 3])
        self.assertEqual([letter[1] for letter in party.take(("letter", 3, 1, 3, 4))], [])
        self.assertEqual([letter[1] for letter in party.take(("letter", 3, 2, 3, 4))], [6, 6])
        self.assertEqual(party.take(("letter", 1, 2, 3, 0)), ())
        self.assertEqual(party.shares[1], 0)
        self.hold(party, SETTING, program)

    def test_what_is_told(self):
        # The share of a row kept is the old one and all that is dealt, with the party's own polynomial.
        program = ("program", (("const", 4), NEXT, ("kept", 0)))
        party = Party(SETTING, program, 2, (), (5,))
        self.assertEqual(party.made, (("letter", 2, 2, 1, 5), ("letter", 2, 2, 3, 1)))
        party.take(("letter", 2, 3, 2, 2))
        self.assertEqual(party.shares, (4, None, None))
        party.take(("letter", 2, 1, 2, 6))
        self.assertEqual(party.shares, (4, None, (4 + 10 + 2 + 6) % 7))

    def test_kinds_of_values(self):
        party = carried(SETTING, EACH_KIND, (2, 3), numbers(1, 7, coins_of(SETTING, EACH_KIND)), ())[0]
        new = party.take(party.took[0])
        for thing in (party.inputs, party.coins, party.took, party.shares, party.made, party.read, new):
            self.assertIsInstance(thing, tuple)
        self.assertIs(type(party.number), int)

    def test_properties_have_no_setters(self):
        party = Party(SETTING, PROGRAM, 1, (2,), (1, 0))
        for name in ("number", "inputs", "coins", "took", "shares", "made", "read"):
            self.assertIsInstance(Party.__dict__[name], property)
            with self.assertRaises(AttributeError):
                setattr(party, name, ())


class ByTheWords(Parties):
    def test_behind_each_letter_of_a_run_in_several_orders(self):
        for setting in SETTINGS:
            for seed in range(12):
                program, inputs, coins = some_run(seed, setting, 4 + seed)
                letters = list(plain_letters(setting, program, inputs, coins))
                # Any order: a letter may come long before what it is about is understood.
                random.Random(seed).shuffle(letters)
                parties = fresh(setting, program, inputs, coins)
                for party in parties:
                    self.hold(party, setting, program)
                for count, letter in enumerate(letters[:150]):
                    party = parties[letter[3] - 1]
                    before = party.made
                    new = party.take(letter)
                    self.assertEqual(new, tuple(sorted(set(party.made) - set(before))))
                    self.assertEqual(party.took[-1], letter)
                    if count % 3 == 0 or new:
                        self.hold(party, setting, program)

    def test_with_numbers_that_are_not_right(self):
        pick = random.Random(3)
        nothing = 0
        for setting in SETTINGS:
            for seed in range(12):
                program, inputs, coins = some_run(seed + 50, setting, 4 + seed)
                parties = fresh(setting, program, inputs, coins)
                letters = [(*letter[:4], pick.choice((letter[4], pick.randrange(setting[1]))))
                           for letter in plain_letters(setting, program, inputs, coins)]
                pick.shuffle(letters)
                for letter in letters:
                    parties[letter[3] - 1].take(letter)
                for party in parties:
                    self.hold(party, setting, program)
                    nothing += [number for _, number in party.read].count(None)
        self.assertGreater(nothing, 5)

    def test_what_is_there_stays(self):
        for seed in range(10):
            program, inputs, coins = some_run(seed, SETTING, 12)
            letters = list(plain_letters(SETTING, program, inputs, coins))
            random.Random(seed).shuffle(letters)
            parties = fresh(SETTING, program, inputs, coins)
            for letter in letters:
                party = parties[letter[3] - 1]
                shares, made, read = party.shares, party.made, party.read
                party.take(letter)
                for old, new in zip(shares, party.shares):
                    self.assertIn(old, (None, new))
                self.assertLessEqual(set(made), set(party.made))
                self.assertLessEqual(set(read), set(party.read))


class NoLetters(Parties):
    def party(self):
        party = Party(SETTING, EACH_KIND, 2, (3,), (2, 1, 0, 4, 5))
        party.take(("letter", 0, 1, 2, 6))
        return party

    def test_other_shapes(self):
        party = self.party()
        right = ("letter", 6, 1, 2, 5)
        for thing in (
            None, True, False, 0, 1, "", "letter", (), [], ("letter",), right[:4], right[1:], (*right, 0), list(right),
            (right,), [right], ("letter", right), ("letter", (6, 1, 2, 5)), ("letter", *right),
        ):
            self.refuse(party, thing, 0)
        for word in ("Letter", "letters", "", "letter ", None, 0, True, ("letter",), ["letter"], [], ()):
            self.refuse(party, (word, *right[1:]), 0)
        party.take(right)

    def test_items_that_are_no_integers(self):
        party = Party(SETTING, ("program", (("in", 1), ("in", 1), ("product", 1, 1))), 2, (), (3,))
        right = ("letter", 1, 1, 2, 1)
        for at in range(1, 5):
            for item in (True, False, None, "1", "", (1,), [1], (), []):
                self.refuse(party, right[:at] + (item,) + right[at + 1:], 0)
        party.take(right)

    def test_numbers(self):
        party = self.party()
        for x in (7, -1, 8, 10 ** 30, -7):
            self.refuse(party, ("letter", 6, 1, 2, x), 0)
            self.refuse(party, ("letter", 0, 1, 2, x), 0)
        for x in range(7):
            self.assertEqual(party.branch().take(("letter", 6, 1, 2, x)), ())

    def test_rows(self):
        party = self.party()
        for k in (2, 3, 4, 5, 9):
            for i in (1, 3):
                self.refuse(party, ("letter", k, i, 2, 1), 0)
        for k in (14, 15, -1, -2, -8, -14, 10 ** 30):
            self.refuse(party, ("letter", k, 1, 2, 1), 0)

    def test_parties(self):
        party = self.party()
        for i in (0, 2, 4, -1, -2, 10 ** 30):
            for k in (0, 1, 6, 8, 10):
                self.refuse(party, ("letter", k, i, 2, 1), 0)
        for j in (0, 1, 3, 4, -1):
            for k, i in ((6, 1), (6, 3), (0, 1), (7, 2), (13, 2)):
                self.refuse(party, ("letter", k, i, j, 1), 0)

    def test_just_what_some_party_sends(self):
        # Of all letters that can be written the party takes those of a run, with any number.
        for number in (1, 2, 3):
            own = plain_own(SETTING, EACH_KIND, (2, 3), (0,) * coins_of(SETTING, EACH_KIND), number)
            letters = plain_letters(SETTING, EACH_KIND, (2, 3), (0,) * coins_of(SETTING, EACH_KIND))
            right = {letter[1:4] for letter in letters if letter[3] == number}
            for k, i, j in product(range(-2, 16), range(-1, 5), range(-1, 5)):
                party = Party(SETTING, EACH_KIND, number, *own)
                if (k, i, j) in right:
                    party.take(("letter", k, i, j, 3))
                    self.assertEqual(party.took, (("letter", k, i, j, 3),))
                else:
                    self.refuse(party, ("letter", k, i, j, 3), 0)

    def test_another_number(self):
        party = self.party()
        for x in (0, 1, 2, 3, 4, 5):
            self.refuse(party, ("letter", 0, 1, 2, x), 1)
        party.take(("letter", 6, 3, 2, 0))
        self.refuse(party, ("letter", 6, 3, 2, 1), 1)
        self.refuse(party, ("letter", 6, 3, 2, 6), 1)
        # From another party, or about another row, it is another letter.
        party.take(("letter", 6, 1, 2, 1))
        party.take(("letter", 8, 3, 2, 1))

    def test_place_0_is_looked_at_first(self):
        party = self.party()
        for thing in (("letter", 0, 1, 2, 7), ("letter", 0, 1, 2, -1), ("letter", 0, 1, 1, 3), ("letter", 0, 3, 2, 3),
                      ["letter", 0, 1, 2, 3], ("letter", 0, 1, 2, True), ("letter", 0, True, 2, 3)):
            self.refuse(party, thing, 0)

    def test_what_is_handed_stays(self):
        party = self.party()
        thing = ("letter", [1, [2]], 1, 2, [])
        self.refuse(party, thing, 0)
        self.assertEqual(thing, ("letter", [1, [2]], 1, 2, []))

    def test_other_letters_are_taken_behind_a_refused_one(self):
        first, second = self.party(), self.party()
        for thing in (None, ("letter", 0, 1, 2, 5), ("letter", 6, 1, 2, 7)):
            self.refuse(first, thing, 1 if thing == ("letter", 0, 1, 2, 5) else 0)
        for letter in (("letter", 6, 1, 2, 3), ("letter", 6, 3, 2, 1)):
            self.assertEqual(first.take(letter), second.take(letter))
        self.assertEqual(first, second)
        self.hold(first, SETTING, EACH_KIND)


class Equality(Parties):
    def party(self, *letters, **others):
        given = {"setting": SETTING, "program": PROGRAM, "number": 1, "inputs": (2,), "coins": (1, 0), **others}
        party = Party(*[given[name] for name in ("setting", "program", "number", "inputs", "coins")])
        for letter in letters:
            party.take(letter)
        return party

    def test_any_order_of_the_letters(self):
        letters = (("letter", 1, 2, 1, 5), ("letter", 2, 2, 1, 4), ("letter", 2, 3, 1, 4))
        for order in permutations(letters):
            party = self.party(*order)
            self.assertEqual(party.took, order)
            self.assertTrue(party == self.party(*letters))
            self.assertFalse(party != self.party(*letters))
            self.assertEqual((party.shares, party.made, party.read), (
                self.party(*letters).shares, self.party(*letters).made, self.party(*letters).read))
            for many in range(3):
                self.assertFalse(party == self.party(*order[:many]))
                self.assertTrue(party != self.party(*order[:many]))

    def test_other_letters(self):
        self.assertNotEqual(self.party(("letter", 1, 2, 1, 5)), self.party(("letter", 1, 2, 1, 4)))
        self.assertNotEqual(self.party(("letter", 2, 2, 1, 5)), self.party(("letter", 2, 3, 1, 5)))
        self.assertNotEqual(self.party(("letter", 1, 2, 1, 5)), self.party(("letter", 2, 2, 1, 5)))
        self.assertEqual(self.party(("letter", 1, 2, 1, 5), ("letter", 1, 2, 1, 5)), self.party(("letter", 1, 2, 1, 5)))

    def test_all_that_they_were_made_with(self):
        self.assertEqual(self.party(), self.party())
        self.assertNotEqual(self.party(), self.party(setting=("setting", 11, 3, 1)))
        self.assertNotEqual(self.party(), self.party(setting=("setting", 7, 4, 1)))
        self.assertNotEqual(self.party(), self.party(program=("program", PROGRAM[1][:3])))
        self.assertNotEqual(self.party(), self.party(inputs=(3,)))
        self.assertNotEqual(self.party(), self.party(coins=(1, 1)))
        self.assertNotEqual(self.party(), self.party(coins=(0, 0)))
        program = ("program", (("const", 1),))
        self.assertNotEqual(self.party(program=program, inputs=(), coins=()),
                            self.party(program=program, number=2, inputs=(), coins=()))

    def test_no_party(self):
        party = self.party()
        for thing in (None, 1, "party", (), [], {}, True, SETTING, object(), Party):
            self.assertIs(party.__eq__(thing), NotImplemented)
            self.assertFalse(party == thing)
            self.assertTrue(party != thing)

    def test_no_hash(self):
        self.assertIsNone(Party.__hash__)
        with self.assertRaises(TypeError):
            hash(self.party())

    def test_branches(self):
        one = self.party(("letter", 2, 2, 1, 4))
        other = one.branch()
        self.assertIsNot(one, other)
        self.assertEqual(one, other)
        for name in ("number", "inputs", "coins", "took", "shares", "made", "read"):
            self.assertEqual(getattr(one, name), getattr(other, name))
        other.take(("letter", 1, 2, 1, 5))
        self.assertNotEqual(one, other)
        self.assertEqual(one, self.party(("letter", 2, 2, 1, 4)))
        self.hold(one, SETTING, PROGRAM)
        self.hold(other, SETTING, PROGRAM)
        one.take(("letter", 1, 2, 1, 3))
        self.hold(one, SETTING, PROGRAM)
        self.hold(other, SETTING, PROGRAM)
        self.assertEqual(other, self.party(("letter", 1, 2, 1, 5), ("letter", 2, 2, 1, 4)))

    def test_branches_on_the_way_of_a_run(self):
        for seed in range(12):
            program, inputs, coins = some_run(seed, SETTING, 10)
            letters = list(plain_letters(SETTING, program, inputs, coins))
            random.Random(seed).shuffle(letters)
            parties, old = fresh(SETTING, program, inputs, coins), []
            for letter in letters:
                at = letter[3] - 1
                old.append((parties[at], parties[at].took, parties[at].shares, parties[at].made, parties[at].read))
                parties[at] = parties[at].branch()
                parties[at].take(letter)
                self.hold(parties[at], SETTING, program)
            for party, *before in old:
                self.assertEqual([party.took, party.shares, party.made, party.read], before)


class Carried(Parties):
    def hold_run(self, setting, program, inputs, coins, order):
        parties = carried(setting, program, inputs, coins, order)
        self.assertIsInstance(parties, tuple)
        self.assertEqual([party.number for party in parties], list(range(1, setting[2] + 1)))
        letters = letters_of(setting, program, inputs, coins)
        shares = run(setting, program, inputs, coins)
        for party in parties:
            i = party.number
            self.assertEqual((party.inputs, party.coins), plain_own(setting, program, inputs, coins, i))
            self.assertEqual(party.shares, tuple(None if row is None else row[i - 1] for row in shares))
            self.assertEqual(party.made, tuple(letter for letter in letters if letter[2] == i))
            self.assertEqual(party.read, tuple((k, x) for k, j, x in shown(setting, program, inputs) if j == i))
            self.assertEqual(sorted(party.took), [letter for letter in letters if letter[3] == i])
        return parties

    def test_orders_longer_and_shorter_than_the_letters(self):
        for order in ((), (0,), (5,), (1, 1, 1), (10 ** 30, 3, 0, 7), tuple(range(12)), (4,) * 12, (3,) * 500,
                      tuple(range(1000, 0, -1))):
            self.hold_run(SETTING, PROGRAM, (2, 3), COINS, order)

    def test_each_short_order_leads_to_equal_parties(self):
        right = carried(SETTING, PROGRAM, (2, 3), COINS, ())
        took = set()
        for order in product(range(4), repeat=5):
            parties = self.hold_run(SETTING, PROGRAM, (2, 3), COINS, order)
            self.assertEqual(parties, right)
            took.add(tuple(party.took for party in parties))
        self.assertGreater(len(took), 20)

    def test_some_programs(self):
        for setting in SETTINGS:
            for seed in range(15):
                program, inputs, coins = some_run(seed, setting, 3 + seed)
                first = self.hold_run(setting, program, inputs, coins, numbers(seed, 997, 10 * seed))
                second = self.hold_run(setting, program, inputs, coins, ())
                self.assertEqual(first, second)

    def test_by_hand(self):
        # On the way at first: rows 0 and 1, from 1 to 2, 1 to 3, 2 to 1, 2 to 3.
        one, two, three = carried(SETTING, PROGRAM, (2, 3), COINS, (2, 0, 4, 1, 1, 5, 4))
        # 2: (1 2 1), on the way (0 1 2) (0 1 3) (1 2 3) (2 1 2) (2 1 3). 0: (0 1 2), behind come (2 2 1) (2 2 3).
        # Of (0 1 3) (1 2 3) (2 1 2) (2 1 3) (2 2 1) (2 2 3) 4: (2 2 1). Then 1: (1 2 3), 1: (2 1 2), and of
        # (0 1 3) (2 1 3) (2 2 3) 5 is 2: (2 2 3), and of (0 1 3) (2 1 3) 4 is 0: (0 1 3).
        self.assertEqual([letter[1:3] for letter in one.took], [(1, 2), (2, 2), (2, 3)])
        self.assertEqual([letter[1:3] for letter in two.took], [(0, 1), (2, 1), (2, 3)])
        self.assertEqual([letter[1:3] for letter in three.took], [(1, 2), (2, 2), (0, 1), (2, 1), (3, 1), (3, 2)])

    def test_the_picks_by_the_words(self):
        for seed in range(20):
            program, inputs, coins = some_run(seed, SETTING, 4 + seed)
            order = numbers(seed, 50, 3 * seed)
            parties = fresh(SETTING, program, inputs, coins)
            way = [letter for party in parties for letter in party.made]
            picks = list(order)
            while way:
                letter = way.pop(picks.pop(0) % len(way) if picks else 0)
                way += parties[letter[3] - 1].take(letter)
            self.assertEqual([party.took for party in carried(SETTING, program, inputs, coins, order)],
                             [party.took for party in parties])


class Reached(Parties):
    def right(self, setting, program, inputs, coins, lost):
        """The parties that each row reaches, by a run in which the lost letters do not come."""
        parties = fresh(setting, program, inputs, coins)
        way = [letter for party in parties for letter in party.made]
        while way:
            letter = way.pop()
            if letter[1:4] not in lost:
                way += parties[letter[3] - 1].take(letter)
        found = []
        for k, row in enumerate(program[1]):
            if row[0] == "out":
                found.append(tuple(party.number for party in parties if k in dict(party.read)))
            else:
                found.append(tuple(party.number for party in parties if party.shares[k] is not None))
        return tuple(found)

    def test_nothing_lost(self):
        every = (1, 2, 3)
        self.assertEqual(reached(SETTING, EACH_KIND, ()), (
            every, every, every, every, every, every, every, (1,), (2,), (), every, every, every, (3,)))

    def test_each_kind_by_hand(self):
        every = (1, 2, 3)
        for lost, right in (
            (((0, 1, 2),), ((1, 3), every, every, (1, 3), (1, 3), (1, 3), (), (), (), (), (), (), (), ())),
            (((1, 2, 3),), (every, (1, 2), every, every, (1, 2), (1, 2), (), (), (), (), (), every, (), ())),
            (((6, 3, 1),), (every, every, every, every, every, every, (2, 3), (), (2,), (), (), every, (), ())),
            (((7, 3, 1),), (every, every, every, every, every, every, every, (), (2,), (), every, every, every, (3,))),
            (((10, 1, 3),), (every, every, every, every, every, every, every, (1,), (2,), (), (1, 2), every, (), ())),
            (((11, 1, 3), (11, 2, 3)), (every,) * 7 + ((1,), (2,), (), every, (1, 2), (), ())),
            (((12, 2, 1),), (every,) * 7 + ((1,), (2,), (), every, every, (2, 3), ())),
            (((12, 2, 3),), (every,) * 7 + ((1,), (2,), (), every, every, (1, 2), ())),
            (((13, 1, 3),), (every,) * 7 + ((1,), (2,), (), every, every, every, ())),
        ):
            self.assertEqual(reached(SETTING, EACH_KIND, lost), right, lost)

    def test_triples_that_are_no_letters(self):
        right = reached(SETTING, EACH_KIND, ())
        for lost in (((0, 2, 1),), ((0, 1, 1),), ((2, 1, 2),), ((9, 1, 2),), ((7, 1, 2),), ((99, 1, 2),), ((-1, 1, 3),),
                     ((0, 0, 2),), ((0, 1, 4),), ((0, -1, 2), (10 ** 30, 1, 2), (6, 1, 1), (6, 4, 1), (6, 1, 0))):
            self.assertEqual(reached(SETTING, EACH_KIND, lost), right, lost)
        self.assertEqual(reached(SETTING, EACH_KIND, ((0, 2, 1), (6, 3, 1), (6, 3, 1))),
                         reached(SETTING, EACH_KIND, ((6, 3, 1),)))

    def test_each_letter_lost_by_itself(self):
        for setting in SETTINGS[:5]:
            for seed in range(6):
                program, inputs, coins = some_run(seed, setting, 8)
                for letter in letters_of(setting, program, inputs, coins):
                    lost = (letter[1:4],)
                    answer = reached(setting, program, lost)
                    self.assertEqual(answer, self.right(setting, program, inputs, coins, lost), (program, lost))

    def test_some_letters_lost(self):
        pick = random.Random(8)
        for setting in SETTINGS:
            for seed in range(25):
                program, inputs, coins = some_run(seed, setting, 4 + seed)
                letters = letters_of(setting, program, inputs, coins)
                lost = tuple(letter[1:4] for letter in letters if pick.random() < 0.05)
                answer = reached(setting, program, lost + ((3, 1, 1), (0, 0, 0)))
                self.assertEqual(answer, self.right(setting, program, inputs, coins, lost))
                self.assertIsInstance(answer, tuple)
                self.assertTrue(all(isinstance(row, tuple) for row in answer))

    def test_a_party_alone(self):
        program = ("program", (("in", 1), ("product", 0, 0), NEXT, ("kept", 1), ("out", 3, 1)))
        self.assertEqual(reached(("setting", 5, 1, 0), program, ((0, 1, 1), (1, 1, 1))), ((1,), (1,), (), (1,), (1,)))
