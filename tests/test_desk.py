"""Point 78: desks and their commands."""

import itertools
import unittest

from fewestpours.desk import Desk
from fewestpours.errandtexts import errand_text
from fewestpours.errors import InvalidCommand, InvalidQuestion, InvalidText
from fewestpours.houses import House
from fewestpours.livingchanges import is_change
from helpers import WRONG_VALUES, drawn_errand, rng_of

TEXT = "rooms 2; size 2; block 0: 0 1; block 1: 2; block 2: ; wish: 0 1 0; pour 0 1: 0 2, 1; done"
COUNTS = {"come": 2, "go": 1, "wish": 2, "swap": 2, "pour": 1, "shorten": 0, "bounds": 0, "block": 1, "undo": 0}


def told_by(desk):
    """All that matters of a desk."""
    house = desk.house
    return house if house is None else (house, house.life(), len(house), house.bounds(), house.reads())


class DeskTest(unittest.TestCase):
    def setUp(self):
        self.desk = Desk()

    def say_all(self, *said):
        """Say commands, each followed by what is to be told."""
        for command, told in zip(said[::2], said[1::2]):
            self.assertEqual(self.desk.say(command), told, command)

    def fails(self, error, at, command):
        """A command fails, and nothing changes."""
        ahead = told_by(self.desk)
        with self.assertRaises(error) as caught:
            self.desk.say(command)
        self.assertIs(type(caught.exception), error)
        if at is not None:
            self.assertEqual(caught.exception.at, at)
        self.assertEqual(told_by(self.desk), ahead)

    def test_load(self):
        self.assertIsNone(self.desk.house)
        self.assertEqual(self.desk.load(TEXT), "ok")
        self.assertIsInstance(self.desk.house, House)
        self.assertEqual(self.desk.house.life(), House(TEXT).life())
        self.desk.say("go 0")
        house = self.desk.house
        for value in WRONG_VALUES + ("", TEXT + ";", TEXT[:-4]):
            try:
                House(value)
                self.fail(value)
            except InvalidText as error:
                at = error.at
            ahead = told_by(self.desk)
            with self.assertRaises(InvalidText) as caught:
                self.desk.load(value)
            self.assertEqual((caught.exception.at, told_by(self.desk)), (at, ahead))
            self.assertIs(self.desk.house, house)
        # A new house, not the one there was.
        self.assertEqual(self.desk.load(text=TEXT), "ok")
        self.assertIsNot(self.desk.house, house)
        self.assertEqual(len(self.desk.house), 0)

    def test_commands_ahead_of_any_load(self):
        for command in ("come 0 0", "go 0", "wish 0 0", "swap 0 0", "pour 1", "shorten", "bounds", "block 0", "undo", "", "go", None, "load"):
            self.fails(InvalidCommand, None, command)
        with self.assertRaises(InvalidText):
            self.desk.load("rooms")
        self.assertIsNone(self.desk.house)
        self.fails(InvalidCommand, None, "bounds")

    def test_commands(self):
        self.desk.load(TEXT)
        self.say_all("bounds", "1 needed, 1 planned", "block 0", "0 1", "block 1", "2", "block 2", "empty", "undo", "nothing",
                     "come 2 1", "ok", "block 2", "3", "bounds", "1 needed, 2 planned", "swap 0 1", "ok", "wish 0 2", "ok", "go 1", "ok",
                     "block 0", "0", "block 1", "1", "block 2", "2")
        self.assertEqual(len(self.desk.house), 4)
        self.say_all("undo", "ok", "undo", "ok", "undo", "ok", "undo", "ok", "undo", "nothing", "bounds", "1 needed, 1 planned")
        self.say_all("pour 0", "0", "pour 99999", "1", "block 0", "0 2", "block 1", "1", "pour 5", "0", "bounds", "0 needed, 0 planned",
                     "shorten", "0", "undo", "ok", "undo", "ok", "undo", "ok", "block 0", "0 1", "undo", "ok", "undo", "nothing")
        self.desk.load(TEXT.replace("pour 0", "pour 0 1: 2, 0 1; pour 0"))
        self.say_all("bounds", "1 needed, 2 planned", "shorten", "1", "bounds", "1 needed, 1 planned", "undo", "ok", "pour 1", "1", "block 1", "0 1")

    def test_as_the_house_does(self):
        rng = rng_of(78)
        for _ in range(25):
            text = errand_text(drawn_errand(rng, many=3))
            house = House(text)
            self.desk.load(text)
            for _ in range(20):
                word = rng.choice(list(COUNTS))
                numbers = [rng.choice((0, 1, 2, 3, 5, 99999)) for _ in range(COUNTS[word])]
                command = " ".join(map(str, [word, *numbers]))
                if word in ("come", "go", "wish", "swap"):
                    if not is_change(house.life(), (word, *numbers)):
                        self.fails(InvalidQuestion, 1, command)
                        continue
                    house.do((word, *numbers))
                    told = "ok"
                elif word in ("pour", "shorten"):
                    told = str(house.pour_on(*numbers) if word == "pour" else house.shorten())
                elif word == "bounds":
                    told = "{} needed, {} planned".format(*house.bounds())
                elif word == "undo":
                    told = "ok" if house.undo() else "nothing"
                elif numbers[0] >= len(house.life()[0][1]):
                    self.fails(InvalidCommand, None, command)
                    continue
                else:
                    told = " ".join(map(str, house.life()[0][1][numbers[0]])) or "empty"
                self.assertEqual(self.desk.say(command=command), told)
                self.assertEqual((self.desk.house.life(), len(self.desk.house)), (house.life(), len(house)))

    def test_other_commands(self):
        self.desk.load(TEXT)
        self.desk.say("come 2 1")
        for value in WRONG_VALUES + (["undo"], ("undo",), b"undo", ("go", 0)):
            self.fails(InvalidCommand, None, value)
        for command in ("undo ", " undo", "undo\n", "\nundo", "un do", "Undo", "UNDO", "undo 0", "load", "help", "life", "do", "len", "within",
                        "go", "go 0 1", "go  0", "go 0 ", " go 0", "go 0\n", "go\n0", "go\t0", "go 00", "go 01", "go +0", "go -0", "go -1", "go 0.0",
                        "go 0_0", "go a", "go 100000", "go 000000", "go 123456", "come 0", "come 0 0 0", "come 0  0", "come", "come a 0", "come 0 b",
                        "wish 0", "wish 0 0 0", "swap 0", "swap 0 1 2", "pour", "pour 1 1", "pour x", "pour 100000", "pour 00", "pour -1",
                        "shorten 1", "bounds 1", "block", "block 0 0", "block 3", "block 64", "block 99999", "block 100000", "block 00",
                        "go \u0661", "go \u00b2", "block \u0660", "go 0\r", "go 0\u00a0", "\u0261o 0"):
            self.fails(InvalidCommand, None, command)
        # Five digits are read; what is then refused is refused by the house.
        for command in ("go 99999", "go 4", "wish 0 3", "wish 99999 0", "swap 0 4", "come 0 0", "come 3 0", "come 0 99999"):
            self.fails(InvalidQuestion, 1, command)
        self.say_all("pour 99999", "2", "undo", "ok", "undo", "ok", "undo", "nothing")

    def test_desks_are_unlike(self):
        other = Desk()
        self.desk.load(TEXT)
        self.assertIsNone(other.house)
        self.assertFalse(self.desk == other or self.desk == self.desk.house)


if __name__ == "__main__":
    unittest.main()
