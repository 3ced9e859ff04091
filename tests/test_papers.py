"""e1 to e4 and the interface: untold/papers.py."""

import random
import unittest

from tests.oracle import (
    fresh, numbers, plain_letters, plain_own, plain_view, similar_inputs, some_run, some_watchers,
)
from untold.coins import coins_of
from untold.errors import BadEntry
from untold.matching import matched
from untold.papers import read_paper, seen, write_paper
from untold.parties import Party, carried
from untold.programs import epochs

SETTING = ("setting", 7, 3, 1)
NEXT = ("next",)
PROGRAM = ("program", (("in", 1), ("in", 2), ("product", 0, 1), ("out", 2, 3), ("in", 1)))
EACH_KIND = ("program", (
    ("in", 1), ("in", 2), ("const", 5), ("sum", 0, 2), ("less", 3, 1), ("times", 3, 4), ("product", 5, 3),
    ("out", 6, 1), ("out", 5, 2), NEXT, ("kept", 6), ("kept", 3), ("product", 10, 11), ("out", 12, 3), ("in", 3),
))
SETTINGS = [("setting", *rest) for rest in (
    (2, 1, 0), (3, 2, 0), (5, 3, 1), (7, 5, 2), (11, 6, 2), (11, 9, 4), (10007, 9, 4),
)]
PAPER = ("party 1", "inputs 2 6", "coins 1 0 5", "got 2 3 4", "got 1 2 5", "got 2 2 4")


def text_of(*lines):
    return "".join(line + "\n" for line in lines)


class Papers(unittest.TestCase):
    def refuse(self, text, line, setting=SETTING, program=PROGRAM):
        with self.assertRaises(BadEntry, msg=repr(text)) as caught:
            read_paper(setting, program, text)
        self.assertIs(caught.exception.__class__, BadEntry)
        self.assertEqual(caught.exception.place, line, text)

    def refuse_line(self, line, *others):
        """Each of these in the place of a line of the paper, with wrong lines behind it or none."""
        for other in others:
            self.refuse(text_of(*PAPER[:line - 1], other, *PAPER[line:]), line)
            self.refuse(text_of(*PAPER[:line - 1], other, "", "x"), line)
            if other:
                self.refuse(text_of(*PAPER[:line - 1], other)[:-1], line)


class Writing(Papers):
    def test_by_hand(self):
        party = Party(SETTING, PROGRAM, 1, (2, 6), (1, 0, 5))
        self.assertEqual(write_paper(party), text_of(*PAPER[:3]))
        for letter in (("letter", 2, 3, 1, 4), ("letter", 1, 2, 1, 5), ("letter", 2, 2, 1, 4)):
            party.take(letter)
        self.assertEqual(write_paper(party), text_of(*PAPER))

    def test_without_inputs_and_coins(self):
        self.assertEqual(write_paper(Party(SETTING, PROGRAM, 3, (), (4,))), "party 3\ninputs\ncoins 4\n")
        self.assertEqual(write_paper(Party(("setting", 7, 3, 0), PROGRAM, 3, (), ())), "party 3\ninputs\ncoins\n")
        self.assertEqual(write_paper(Party(("setting", 2, 1, 0), ("program", (("in", 1),)), 1, (1,), ())),
                         "party 1\ninputs 1\ncoins\n")

    def test_the_order_in_which_the_letters_were_taken(self):
        for seed in range(10):
            program, inputs, coins = some_run(seed, SETTING, 9)
            for party in carried(SETTING, program, inputs, coins, numbers(seed, 100, 60)):
                lines = write_paper(party).split("\n")
                self.assertEqual(lines[0], f"party {party.number}")
                self.assertEqual(lines[1].split(" "), ["inputs", *[str(number) for number in party.inputs]])
                self.assertEqual(lines[2].split(" "), ["coins", *[str(number) for number in party.coins]])
                self.assertEqual(lines[3:], [f"got {k} {i} {x}" for _, k, i, _, x in party.took] + [""])

    def test_writing_changes_nothing(self):
        party = carried(SETTING, PROGRAM, (2, 3, 6), (1, 2, 0, 4, 1, 5), ())[0]
        before = party.branch()
        self.assertEqual(write_paper(party), write_paper(party))
        self.assertEqual((party, party.took), (before, before.took))


class ThereAndBack(Papers):
    def test_by_hand(self):
        for text in (text_of(*PAPER), "\n".join(PAPER)):
            party = read_paper(SETTING, PROGRAM, text)
            self.assertIsInstance(party, Party)
            self.assertEqual((party.number, party.inputs, party.coins), (1, (2, 6), (1, 0, 5)))
            self.assertEqual(party.took, (("letter", 2, 3, 1, 4), ("letter", 1, 2, 1, 5), ("letter", 2, 2, 1, 4)))
            self.assertEqual(party.shares[:3], (3, 5, 2))
            self.assertEqual(write_paper(party), text_of(*PAPER))

    def test_three_lines(self):
        for text in ("party 3\ninputs\ncoins 4\n", "party 3\ninputs\ncoins 4"):
            self.assertEqual(read_paper(SETTING, PROGRAM, text), Party(SETTING, PROGRAM, 3, (), (4,)))
        setting = ("setting", 7, 3, 0)
        self.assertEqual(read_paper(setting, PROGRAM, "party 3\ninputs\ncoins"), Party(setting, PROGRAM, 3, (), ()))

    def test_some_parties(self):
        for setting in SETTINGS:
            for seed in range(12):
                program, inputs, coins = some_run(seed, setting, 4 + seed)
                letters = list(plain_letters(setting, program, inputs, coins))
                random.Random(seed).shuffle(letters)
                for number in range(1, setting[2] + 1):
                    party = Party(setting, program, number, *plain_own(setting, program, inputs, coins, number))
                    mine = [letter for letter in letters if letter[3] == number]
                    for letter in mine[:seed * len(mine) // 8]:
                        party.take(letter)
                    text = write_paper(party)
                    for paper in (text, text[:-1]):
                        again = read_paper(setting, program, paper)
                        self.assertEqual(again, party)
                        self.assertEqual((again.took, again.shares, again.made, again.read),
                                         (party.took, party.shares, party.made, party.read))

    def test_a_letter_with_a_wrong_number_is_read(self):
        text = text_of(*PAPER[:3], "got 2 3 0", "got 1 2 6", "got 2 2 6")
        self.assertEqual(write_paper(read_paper(SETTING, PROGRAM, text)), text)


class WrongLines(Papers):
    def test_the_party(self):
        self.refuse_line(
            1, "party", "party 0", "party 4", "party 99999", "party 01", "party 1 1", "party 1 2", "party -1",
            "party a",
            "Party 1", "partys 1", "part 1", " party 1", "party 1 ", "party  1", "party\t1", "party1", "1", "1 party",
            "",
            " ", "inputs 2 6", "coins 1 0 5", "got 2 3 4", "party 100000", "party 1.0", "party \u0661", "party +1",
            "\t",
            "party True", "party 1\r", "party ",
        )

    def test_the_inputs(self):
        self.refuse_line(
            2, "inputs", "inputs 2", "inputs 2 6 0", "inputs 2 7", "inputs 7 6", "inputs 99999 1", "inputs 2 06",
            "inputs 2 -1", "inputs 2 a", "Inputs 2 6", "input 2 6", " inputs 2 6", "inputs 2 6 ", "inputs  2 6",
            "inputs 2  6", "inputs 2,6", "inputs 2\t6", "", "2 6", "coins 2 6", "party 1", "inputs 2 00", "inputs 26",
            "inputs 2 100000", "inputs 2 \u0666", "inputs 2 6.0", "inputs 2 6 2 6", "inputs 2 ", "got 2 3 4",
        )
        self.refuse("party 3\ninputs 0\ncoins 4\n", 2)
        self.refuse("party 3\ninputs \ncoins 4\n", 2)
        self.refuse("party 2\ninputs 1 1\ncoins 4 4\n", 2)

    def test_the_coins(self):
        self.refuse_line(
            3, "coins", "coins 1", "coins 1 0", "coins 1 0 5 0", "coins 1 0 7", "coins 7 0 5", "coins 1 00 5",
            "coins 1 0 -5", "coins 1 0 x", "Coins 1 0 5", "coin 1 0 5", " coins 1 0 5", "coins 1 0 5 ", "coins  1 0 5",
            "coins 1 0  5", "", "1 0 5", "inputs 1 0 5", "inputs 2 6", "coins 1 0 12345", "coins 1 0 123456",
            "coins 105",
            "coins 1 0 \u0665", "coins 1 0 05", "got 2 3 4",
        )
        self.refuse("party 3\ninputs\ncoins\n", 3)
        self.refuse("party 3\ninputs\ncoins 4 4\n", 3)
        self.refuse("party 3\ninputs\ncoins 0\n", 3, ("setting", 7, 3, 0))

    def test_letters_that_are_none(self):
        for line in (4, 5, 6):
            self.refuse_line(
                line, "got", "got 0", "got 0 2", "got 1 2", "got 1 2 5 1", "got 1 2 5 5", "Got 1 2 5", "get 1 2 5",
                " got 1 2 5", "got 1 2 5 ", "got  1 2 5", "got 1  2 5", "got 1 2 -5", "got 1 2 7", "got 1 2 99999",
                "got 01 2 5", "got 1 02 5", "got 1 2 05", "got 1 2 x", "got 1 2 123456", "1 2 5", "", " ", "party 1",
                "coins 1 0 5", "letter 1 2 5", "got 1 2 \u0665",
                # Rows and parties about which nobody sends party 1 a letter.
                "got 0 1 1", "got 0 2 1", "got 0 3 1", "got 4 2 1", "got 1 3 1", "got 1 1 1", "got 2 1 1", "got 3 2 1",
                "got 3 1 1", "got 5 2 1", "got 99999 2 1", "got 2 0 1", "got 2 4 1", "got 1 0 1",
            )

    def test_letters_that_were_taken(self):
        self.refuse(text_of(*PAPER, "got 1 2 5"), 7)
        self.refuse(text_of(*PAPER, "got 2 3 4"), 7)
        self.refuse(text_of(*PAPER[:4], PAPER[3], *PAPER[4:]), 5)
        self.refuse(text_of(*PAPER, "got 1 2 4"), 7)
        self.refuse(text_of(*PAPER[:4], "got 2 3 0", *PAPER[4:]), 5)

    def test_fewer_than_three_lines(self):
        self.refuse("", 1)
        self.refuse("party 1", 2)
        self.refuse("party 1\n", 2)
        self.refuse("party 1\ninputs 2 6", 3)
        self.refuse("party 1\ninputs 2 6\n", 3)
        self.refuse("party 3\ninputs\n", 3)
        # What is there is looked at first.
        self.refuse("\n", 1)
        self.refuse("party", 1)
        self.refuse("inputs 2 6\ncoins 1 0 5", 1)
        self.refuse("party 1\n\n", 2)
        self.refuse("party 1\ncoins 1 0 5", 2)
        self.refuse("party 1\ninputs 2 6\n\n", 3)

    def test_empty_lines(self):
        self.refuse(text_of(*PAPER) + "\n", 7)
        self.refuse("\n" + text_of(*PAPER), 1)
        self.refuse(text_of(*PAPER[:3], "", *PAPER[3:]), 4)

    def test_lines_in_another_order(self):
        self.refuse(text_of(PAPER[1], PAPER[0], *PAPER[2:]), 1)
        self.refuse(text_of(PAPER[0], PAPER[2], PAPER[1], *PAPER[3:]), 2)
        self.refuse(text_of(*PAPER[:2], PAPER[3], PAPER[2]), 3)

    def test_the_paper_of_another_program(self):
        self.refuse(text_of(*PAPER), 2, program=("program", PROGRAM[1][:4]))
        self.refuse(text_of(*PAPER), 3, ("setting", 7, 5, 2))
        self.refuse(text_of(*PAPER), 2, ("setting", 5, 3, 1))
        self.refuse(text_of("party 1", "inputs 2 1", *PAPER[2:]), 3, ("setting", 5, 3, 1))
        self.refuse(text_of("party 1", "inputs 2 1", "coins 1 0 4", *PAPER[3:]), 5, ("setting", 5, 3, 1))


class Seen(Papers):
    def hold(self, setting, program, inputs, coins, watchers, order=()):
        parties = carried(setting, program, inputs, coins, order)
        some = sorted({party for watched in watchers for party in watched})
        papers = [write_paper(parties[party - 1]) for party in some]
        random.Random(len(order)).shuffle(papers)
        right = plain_view(setting, program, inputs, coins, watchers)
        self.assertEqual(seen(setting, program, tuple(papers), watchers), right, (setting, program, watchers))
        self.assertEqual(seen(setting, program, tuple(reversed(papers)), watchers), right)

    def test_by_hand(self):
        # The view of the document's example.
        rows = ("program", PROGRAM[1][:4])
        paper = text_of("party 3", "inputs", "coins 0", "got 0 1 5", "got 1 2 2", "got 2 1 1", "got 2 2 0", "got 3 1 6",
                        "got 3 2 6")
        self.assertEqual(seen(SETTING, rows, (paper,), ((3,),)),
                         (("sent", (5,)), ("sent", (2,)), ((1,), (0,), (0,)), (6, 6, 6)))

    def test_each_kind_of_row(self):
        coins = numbers(2, 7, coins_of(SETTING, EACH_KIND))
        for first in ((), (1,), (2,), (3,)):
            for second in ((), (1,), (2,), (3,)):
                self.hold(SETTING, EACH_KIND, (2, 3, 4), coins, (first, second))

    def test_some_programs_and_orders(self):
        for setting in SETTINGS:
            for seed in range(20):
                program, inputs, coins = some_run(seed, setting, 4 + seed)
                watchers = some_watchers(seed, setting, program, setting[3])
                self.hold(setting, program, inputs, coins, watchers, numbers(seed, 1000, 20 * seed))

    def test_nobody_is_watched(self):
        self.assertEqual(seen(SETTING, PROGRAM, (), ((),)),
            (("sent", ()), ("sent", ()), ((), (), ()), (), ("sent", ())))

    def test_kinds_of_values(self):
        coins = numbers(2, 7, coins_of(SETTING, EACH_KIND))
        paper = write_paper(carried(SETTING, EACH_KIND, (2, 3, 4), coins, ())[0])
        answer = seen(SETTING, EACH_KIND, (paper,), ((1,), (1,)))
        self.assertEqual(repr(answer), repr(plain_view(SETTING, EACH_KIND, (2, 3, 4), coins, ((1,), (1,)))))


class TheSamePapers(Papers):
    def steps(self, setting, program, inputs, coins, order, watched):
        """The papers of the watched parties behind each letter of a run; order picks as carried does."""
        parties = fresh(setting, program, inputs, coins)
        way = [letter for party in parties for letter in party.made]
        picks, found = list(order), []
        while way:
            found.append([letter[:4] for letter in way])
            found.append([write_paper(parties[i - 1]) for i in watched])
            letter = way.pop(picks.pop(0) % len(way) if picks else 0)
            way += parties[letter[3] - 1].take(letter)
        return found + [[write_paper(parties[i - 1]) for i in watched]]

    def test_watchers_who_stay(self):
        others = 0
        for setting in SETTINGS[:5]:
            for seed in range(25):
                program, first, coins = some_run(seed, setting, 4 + seed % 12)
                watched = tuple(sorted(random.Random(seed).sample(range(1, setting[2] + 1), setting[3])))
                watchers = (watched,) * epochs(program)
                order = numbers(seed, 1000, 30)
                right = self.steps(setting, program, first, coins, order, watched)
                for second in similar_inputs(setting, program, first, watchers)[:4]:
                    others += second != first
                    other = matched(setting, program, first, second, coins, watchers)
                    self.assertEqual(self.steps(setting, program, second, other, order, watched), right)
        self.assertGreater(others, 30)

    def test_other_coins_give_other_papers(self):
        order = (3, 1, 4)
        first = self.steps(SETTING, PROGRAM, (2, 3, 6), (1, 2, 0, 4, 1, 5), order, (3,))
        self.assertEqual(first, self.steps(SETTING, PROGRAM, (2, 3, 6), (1, 2, 0, 4, 1, 5), order, (3,)))
        self.assertNotEqual(first, self.steps(SETTING, PROGRAM, (2, 4, 6), (1, 2, 0, 4, 1, 5), order, (3,)))
