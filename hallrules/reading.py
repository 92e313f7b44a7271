"""The grammar of rules' texts: what stands in a text, or the first place where no text goes on."""

from hallrules.refusals import TextFault

# A cell's number is ROW * y + x on every ground, however wide it is.
ROW = 13

LEAST_SIZE = 5
SIZES = ("5", "6", "7", "8", "9", "10", "11", "12", "13")
LONGEST_NAME = 16
GREATEST_LIMIT = 60000

GROUND_SIGNS = ".SX#"
START_SIGNS = ".hmK"

# The words of a choice stand in the order of the numbers by which they are told, so these lines
# give the facts from "first" to "thrice" one behind another.
LINES = (
    ("first", (("hunters", "king"),)),
    ("king", (("steps", "slides"), ("bare", "armed"), ("two", "four"))),
    ("seat", (("barred", "passed"), ("quiet", "hunters", "men", "all"))),
    ("exits", (("quiet", "hunters", "men", "all"),)),
    ("goal", (("edge", "exits"),)),
    ("thrice", (("drawn", "hunters", "king"),)),
)


class Sheet:
    """What stands in a text of the grammar, right or not.

    ground and start list (place, cell's number, sign) in the text's order;
    marks lists (place, number) of each word of LINES.
    """

    def __init__(self, name, wide, high):
        self.name = name
        self.wide = wide
        self.high = high
        self.ground = []
        self.start = []
        self.marks = []
        self.limit = 0
        self.length = 0


class Reader:
    """Goes through a text; place is how many bytes have been taken."""

    def __init__(self, codes):
        self.codes = codes
        self.place = 0

    def peek(self):
        """The byte at the place; -1, which is no byte, at the text's end."""
        if self.place < len(self.codes):
            return self.codes[self.place]
        return -1

    def take_choice(self, words):
        """Take one of some words, none of which begins another; answer which one it is."""
        left = list(range(len(words)))
        offset = 0
        # As none begins another, none has ended while several are left.
        while offset < len(words[left[0]]):
            byte = self.peek()
            left = [k for k in left if ord(words[k][offset]) == byte]
            if not left:
                raise TextFault(1, self.place)
            self.place += 1
            offset += 1
        return left[0]

    def take_word(self, word):
        self.take_choice((word,))

    def take_name(self):
        name = []
        while len(name) < LONGEST_NAME:
            byte = self.peek()
            if not is_letter(byte) and not (name and is_digit(byte)):
                break
            name.append(byte)
            self.place += 1
        if not name:
            raise TextFault(1, self.place)
        return name

    def take_limit(self):
        limit = 0
        while is_digit(self.peek()):
            longer = 10 * limit + self.peek() - ord("0")
            # A longer number of 0 has a 0 in front.
            if longer == 0 or longer > GREATEST_LIMIT:
                break
            limit = longer
            self.place += 1
        if limit == 0:
            raise TextFault(1, self.place)
        return limit

    def take_board(self, wide, high, signs):
        board = []
        for y in reversed(range(high)):
            for x in range(wide):
                place = self.place
                board.append((place, ROW * y + x, signs[self.take_choice(signs)]))
            self.take_word("\n")
        return board

    def take_lines(self):
        marks = []
        for head, choices in LINES:
            self.take_word(head)
            for words in choices:
                self.take_word(" ")
                place = self.place
                marks.append((place, self.take_choice(words)))
            self.take_word("\n")
        return marks

    def take_end(self):
        if self.place < len(self.codes):
            raise TextFault(1, self.place)


def is_size(number):
    return LEAST_SIZE <= number < LEAST_SIZE + len(SIZES)


def is_letter(byte):
    return ord("A") <= byte <= ord("Z") or ord("a") <= byte <= ord("z")


def is_digit(byte):
    return ord("0") <= byte <= ord("9")


def read_head(reader):
    reader.take_word("tafl ")
    name = reader.take_name()
    reader.take_word(" ")
    wide = LEAST_SIZE + reader.take_choice(SIZES)
    reader.take_word(" ")
    high = LEAST_SIZE + reader.take_choice(SIZES)
    reader.take_word("\n")
    return Sheet(name, wide, high)


def read_sheet(codes):
    """The sheet of a text, given as its bytes; raises a fault of kind 1 if the grammar doesn't have it."""
    reader = Reader(codes)
    sheet = read_head(reader)
    reader.take_word("ground\n")
    sheet.ground = reader.take_board(sheet.wide, sheet.high, GROUND_SIGNS)
    reader.take_word("start\n")
    sheet.start = reader.take_board(sheet.wide, sheet.high, START_SIGNS)
    sheet.marks = reader.take_lines()
    reader.take_word("limit ")
    sheet.limit = reader.take_limit()
    reader.take_word("\n")
    reader.take_end()
    sheet.length = len(codes)
    return sheet
