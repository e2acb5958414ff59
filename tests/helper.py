"""What the tests share: texts as lists of bytes, and tops reckoned anew from the document's words.

The reckoning here is another one than the program's: quarters are triangles with corners, sides and
middles, and every line is tried, so that a slip in the program is not made here a second time.
"""

import re

FIRST_AT = -8
LAST_AT = 14

SQUARE = r"[A-Za-z](?:[/\\][A-Za-z]|[A-Za-z]{3})?"

WINDMILL = "a a b\nd e b\nd c c\n"

EVERY_QUARTER = "abcd abcd abcd abcd abcd abcd\n" * 6
EVERY_SQUARE = "a b a b a b\nb a b a b a\n" * 3


def numbers(words):
    return [ord(sign) for sign in words]


def is_block(text):
    """Whether a list of bytes is a block's text."""
    words = "".join(chr(number) for number in text)
    for wide in range(1, 7):
        row = SQUARE + (" " + SQUARE) * (wide - 1) + r"\n"
        if re.fullmatch("(?:" + row + "){1,6}", words):
            return True
    return False


class Top:
    """A top as triangles: corners are in halves of a square, middles in sixths."""

    def __init__(self, words):
        squares = [row.split(" ") for row in words[:-1].split("\n")]
        self.wide = len(squares[0])
        self.high = len(squares)
        self.letters = []
        self.corners = []
        for y, row in enumerate(squares):
            for x, square in enumerate(row):
                self.letters.extend(self.quarter_letters(square))
                self.corners.extend(self.quarter_corners(2 * x, 2 * y))
        self.patches = self.number_patches()
        self.known = {}
        self.known_plans = {}

    def quarter_letters(self, square):
        if len(square) == 1:
            return list(square * 4)
        if "/" in square:
            first, second = square.split("/")
            return [first, second, second, first]
        if "\\" in square:
            first, second = square.split("\\")
            return [first, first, second, second]
        return list(square)

    def quarter_corners(self, x, y):
        ring = [(x, y), (x + 2, y), (x + 2, y + 2), (x, y + 2)]
        return [{ring[d], ring[(d + 1) % 4], (x + 1, y + 1)} for d in range(4)]

    def number_patches(self):
        patches = list(range(len(self.letters)))
        changed = True
        while changed:
            changed = False
            for one, letter in enumerate(self.letters):
                for other in range(one):
                    same = letter == self.letters[other] and len(self.corners[one] & self.corners[other]) == 2
                    if same and patches[one] != patches[other]:
                        lower = min(patches[one], patches[other])
                        patches[one] = patches[other] = lower
                        changed = True
        return patches

    def quarters(self):
        return frozenset(range(len(self.letters)))

    def is_before(self, quarter, direction, at):
        x = sum(corner[0] for corner in self.corners[quarter])
        y = sum(corner[1] for corner in self.corners[quarter])
        return (x, y, x - y, x + y)[direction] < 6 * at

    def sides(self, quarters, direction, at):
        """What lies before and what behind a line that parts; None of a line that doesn't."""
        before = frozenset(q for q in quarters if self.is_before(q, direction, at))
        behind = quarters - before
        if not before or not behind:
            return None
        if {self.patches[q] for q in before} & {self.patches[q] for q in behind}:
            return None
        return before, behind

    def partings(self, quarters):
        found = []
        for direction in range(4):
            for at in range(FIRST_AT, LAST_AT + 1):
                both = self.sides(quarters, direction, at)
                if both:
                    found.append((direction, at, both))
        return found

    def is_sewn(self, quarters):
        if quarters not in self.known:
            one_patch = len({self.patches[q] for q in quarters}) == 1
            self.known[quarters] = one_patch or any(
                self.is_sewn(both[0]) and self.is_sewn(both[1]) for _, _, both in self.partings(quarters)
            )
        return self.known[quarters]

    def patch_numbers(self, quarters):
        """The numbers of the patches that some quarters are of, rising."""
        firsts = sorted(set(self.patches))
        return sorted({firsts.index(self.patches[q]) for q in quarters})

    def plans(self, quarters):
        """All plans: a patch as 4 and its number; a seam as direction, at, the plan before it, that behind it.

        By Python's own order of tuples they stand as plans do: the first of them is their min.
        """
        if quarters not in self.known_plans:
            patches = self.patch_numbers(quarters)
            found = [(4, patches[0])] if len(patches) == 1 else []
            for direction, at, both in self.partings(quarters):
                behind = self.plans(both[1])
                found.extend((direction, at, one, other) for one in self.plans(both[0]) for other in behind)
            self.known_plans[quarters] = found
        return self.known_plans[quarters]

    def all_plans(self):
        return self.plans(self.quarters())

    def locking(self, quarters):
        """The quarters of what locks; None if nothing does."""
        partings = self.partings(quarters)
        if not partings:
            return quarters if len(self.patch_numbers(quarters)) > 1 else None
        before, behind = partings[0][2]
        return self.locking(before) or self.locking(behind)

    def words(self, painted, letter):
        """The top's text with some quarters in another letter, each square as four letters."""
        signs = [letter if q in painted else own for q, own in enumerate(self.letters)]
        squares = ["".join(signs[k:k + 4]) for k in range(0, len(signs), 4)]
        rows = [" ".join(squares[k:k + self.wide]) for k in range(0, len(squares), self.wide)]
        return "\n".join(rows) + "\n"


def row_of(told):
    """The row of a plan that is told as Top.plans tells it."""
    if told[0] == 4:
        return [4, told[1]]
    return [told[0], told[1] + 64] + row_of(told[2]) + row_of(told[3])


def days_of(told):
    """The days of a plan that is told as Top.plans tells it."""
    if told[0] == 4:
        return 0
    return 1 + max(days_of(told[2]), days_of(told[3]))


def small_tops(count, seed):
    """Each of some made up tops that has at most 10 patches, so that all its plans can be gone through."""
    tops = [(words, Top(words)) for words in made_up_tops(count, seed)]
    return [(words, top) for words, top in tops if len(set(top.patches)) <= 10]


def drawer(seed):
    """A function that draws a number below its limit; the same ones every time."""
    state = seed

    def draw(limit):
        nonlocal state
        state = (state * 1103515245 + 12345) % 2 ** 31
        return (state >> 12) % limit

    return draw


def made_up_tops(count, seed):
    """The texts of some tops of up to 3 by 3 squares, in all four forms; the same ones every time."""
    draw = drawer(seed)
    texts = []

    def letter(letters):
        return "abAB"[draw(letters)]

    def square(letters):
        form = draw(5)
        if form < 2:
            return letter(letters)
        if form < 4:
            return letter(letters) + "/\\"[form - 2] + letter(letters)
        return "".join(letter(letters) for _ in range(4))

    while len(texts) < count:
        wide = 1 + draw(3)
        high = 1 + draw(3)
        letters = 2 + draw(3)
        rows = [" ".join(square(letters) for _ in range(wide)) for _ in range(high)]
        texts.append("\n".join(rows) + "\n")
    return texts


def sewn_tops(count, seed):
    """Some tops of up to 5 by 4 squares and 10 patches that can be sewn, as they are made by cutting along lines."""
    draw = drawer(seed)
    tops = []
    while len(tops) < count:
        wide = 1 + draw(5)
        high = 1 + draw(4)
        blank = Top("\n".join([" ".join("a" * wide)] * high) + "\n")
        pieces = [blank.quarters()]
        wanted = 3 + draw(8)
        for _ in range(200):
            piece = pieces[draw(len(pieces))]
            direction, at = draw(4), FIRST_AT + draw(LAST_AT - FIRST_AT + 1)
            before = frozenset(q for q in piece if blank.is_before(q, direction, at))
            if len(pieces) < wanted and before and before != piece:
                pieces.remove(piece)
                pieces.extend([before, piece - before])
        for number, piece in enumerate(pieces):
            for quarter in piece:
                blank.letters[quarter] = "abcdefghij"[number]
        words = blank.words((), "")
        tops.append((words, Top(words)))
    return tops
