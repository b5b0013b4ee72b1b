"""A desk, at which a house is spoken with in commands."""

from fewestpours.errors import InvalidCommand
from fewestpours.houses import House
from fewestpours.tokens import number_told

# How many numbers stand behind each word.
COUNTS = {"come": 2, "go": 1, "wish": 2, "swap": 2, "pour": 1, "shorten": 0, "bounds": 0, "block": 1, "undo": 0}
CHANGES = ("come", "go", "wish", "swap")
MOST_DIGITS = 5


def command_told(command):
    """The word of a command, any value, and the numbers behind it."""
    if not isinstance(command, str):
        raise InvalidCommand()
    word, *tokens = command.split(" ")
    if word not in COUNTS or len(tokens) != COUNTS[word]:
        raise InvalidCommand()
    numbers = [number_told(token, MOST_DIGITS) for token in tokens]
    if None in numbers:
        raise InvalidCommand()
    return word, numbers


class Desk:
    """A house, if one is loaded, that does what it is told."""

    def __init__(self):
        self.house = None

    def load(self, text):
        """Begin with a new house, of a text that may be any value."""
        self.house = House(text)
        return "ok"

    def say(self, command):
        """Do a command, which may be any value, and tell what comes of it."""
        word, numbers = command_told(command)
        if self.house is None:
            raise InvalidCommand()
        if word in CHANGES:
            self.house.do((word, *numbers))
            return "ok"
        if word == "pour":
            return str(self.house.pour_on(numbers[0]))
        if word == "shorten":
            return str(self.house.shorten())
        if word == "undo":
            return "ok" if self.house.undo() else "nothing"
        if word == "bounds":
            needed, planned = self.house.bounds()
            return f"{needed} needed, {planned} planned"
        return self.block_told(numbers[0])

    def block_told(self, at):
        """The records in a block."""
        blocks = self.house.life()[0][1]
        if at >= len(blocks):
            raise InvalidCommand()
        if not blocks[at]:
            return "empty"
        return " ".join([str(record) for record in blocks[at]])
