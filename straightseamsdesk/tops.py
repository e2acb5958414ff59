"""Tops told by a block's text: which can be sewn by straight seams, by which, in how many days, and what locks.

A patch is kept as its four spans, one a direction: the lowest and the highest strip it lies in.
Strip k of a direction is what lies between its lines k and k + 1. As no line cuts a quarter, the
spans say all that a line has to know of a patch.
A piece is a list of patches' numbers: a line that parts cuts no patch, so all that taking apart
comes to is whole patches. Its numbers always rise.
A parting is a line that parts a piece: direction, at, the piece before it, the piece behind it.
"""

MOST_BYTES = 1024
MOST_SQUARES = 6
MOST_PATCHES_BY_DAYS = 10
ROW_END = 10
BLANK = 32
SLASH = 47
BACKSLASH = 92

NO_SUCH_DIRECTION = -1
TOO_LONG = -2
CANNOT_BE_SEWN = -5
CAN_BE_SEWN = -5
AT_FAULT = -6
TOO_MANY_PATCHES = -8

UPPER = 0
RIGHT = 1
LOWER = 2
LEFT = 3

UPRIGHT = 0
LEVEL = 1
FALLING = 2
RISING = 3
DIRECTIONS = 4
AT_SHIFT = 64

# In a plan's row this stands where a seam has its direction.
PATCH = 4


def split_at(numbers, mark):
    """The stretches between the marks; one more than there are marks."""
    stretches = [[]]
    for number in numbers:
        if number == mark:
            stretches.append([])
        else:
            stretches[-1].append(number)
    return stretches


def is_letter(number):
    return 65 <= number <= 90 or 97 <= number <= 122


def spread_square(square):
    """Upper, right, lower, left as the square's form tells them, letters or not; [] if it has no form."""
    if len(square) == 1:
        return [square[0], square[0], square[0], square[0]]
    if len(square) == 3 and square[1] == SLASH:
        return [square[0], square[2], square[2], square[0]]
    if len(square) == 3 and square[1] == BACKSLASH:
        return [square[0], square[0], square[2], square[2]]
    if len(square) == 4:
        return list(square)
    return []


def read_square(square):
    """The letters of a square's four quarters; [] if it is at fault."""
    quarters = spread_square(square)
    if all([is_letter(number) for number in quarters]):
        return quarters
    return []


def read_row(row):
    """The letters of a row's quarters; [] if it is at fault."""
    squares = split_at(row, BLANK)
    if len(squares) > MOST_SQUARES:
        return []
    letters = []
    for square in squares:
        quarters = read_square(square)
        if len(quarters) == 0:
            return []
        letters.extend(quarters)
    return letters


def read_rows(text):
    """The letters of the top's quarters, row by row; [] if the text is at fault."""
    stretches = split_at(text, ROW_END)
    # Byte 10 stands behind each row, the last one too: nothing may be left over behind it.
    left_over = stretches.pop()
    if len(left_over) > 0 or len(stretches) == 0 or len(stretches) > MOST_SQUARES:
        return []
    rows = [read_row(stretch) for stretch in stretches]
    length = len(rows[0])
    if length == 0 or any([len(row) != length for row in rows]):
        return []
    return rows


def refusal(text):
    """What every call refuses first, or 0."""
    if len(text) > MOST_BYTES:
        return TOO_LONG
    if len(read_rows(text)) == 0:
        return AT_FAULT
    return 0


def side_by_side(quarter, wide, count):
    """The quarters that share a side with this one, in a top of count quarters."""
    square = quarter // 4
    side = quarter % 4
    near = [4 * square + (side + 1) % 4, 4 * square + (side + 3) % 4]
    if side == UPPER and square >= wide:
        near.append(4 * (square - wide) + LOWER)
    if side == RIGHT and (square + 1) % wide != 0:
        near.append(4 * (square + 1) + LEFT)
    if side == LOWER and 4 * (square + wide) < count:
        near.append(4 * (square + wide) + UPPER)
    if side == LEFT and square % wide != 0:
        near.append(4 * (square - 1) + RIGHT)
    return near


def patch_around(start, letters, wide):
    """The quarters of the patch that a quarter is of."""
    patch = [start]
    reached = {start: True}
    done = 0
    while done < len(patch):
        for quarter in side_by_side(patch[done], wide, len(letters)):
            if letters[quarter] == letters[start] and quarter not in reached:
                reached[quarter] = True
                patch.append(quarter)
        done += 1
    return patch


def find_patches(letters, wide):
    """The patches as lists of quarters, in the order of their numbers."""
    patches = []
    taken = {}
    for start in range(len(letters)):
        if start not in taken:
            patch = patch_around(start, letters, wide)
            patches.append(patch)
            for quarter in patch:
                taken[quarter] = True
    return patches


def strip_of(quarter, direction, wide):
    """The strip a quarter lies in: it is before a line just if its strip is below the line's at."""
    square = quarter // 4
    side = quarter % 4
    x = square % wide
    y = square // wide
    if direction == UPRIGHT:
        return x
    if direction == LEVEL:
        return y
    if direction == FALLING:
        return x - y if side == UPPER or side == RIGHT else x - y - 1
    return x + y if side == UPPER or side == LEFT else x + y + 1


def spans_of_patch(patch, wide):
    """The patch's lowest and highest strip in each direction."""
    spans = []
    for direction in range(DIRECTIONS):
        strips = [strip_of(quarter, direction, wide) for quarter in patch]
        spans.append((min(strips), max(strips)))
    return spans


def read_spans(text):
    """The spans of each patch of a good text's top, in the order of the patches' numbers."""
    rows = read_rows(text)
    wide = len(rows[0]) // 4
    letters = []
    for row in rows:
        letters.extend(row)
    return [spans_of_patch(patch, wide) for patch in find_patches(letters, wide)]


def whole_top(spans):
    """The piece that all patches make."""
    return list(range(len(spans)))


def both_sides(spans, piece, direction, at):
    """What's before the line and what's behind it; [] if it doesn't part the piece."""
    before = [patch for patch in piece if spans[patch][direction][1] < at]
    behind = [patch for patch in piece if spans[patch][direction][0] >= at]
    # A patch that the line cuts is on neither side.
    cut = len(before) + len(behind) < len(piece)
    if cut or len(before) == 0 or len(behind) == 0:
        return []
    return [before, behind]


def partings(spans, piece):
    """All partings of the piece, in lines' order."""
    found = []
    for direction in range(DIRECTIONS):
        lowest = min([spans[patch][direction][0] for patch in piece])
        highest = max([spans[patch][direction][1] for patch in piece])
        # Lines outside these have the whole piece on one side.
        for at in range(lowest + 1, highest + 1):
            sides = both_sides(spans, piece, direction, at)
            if len(sides) > 0:
                found.append((direction, at, sides[0], sides[1]))
    return found


def take_apart(spans, most):
    """Each piece that taking the top apart comes to, with its first parting or None.

    A piece stands ahead of what's before its line, and that ahead of what's behind it.
    most: None, or the most days: then what would take more is left out. That holds for the whole top, so
    that a side with days to spare has its first plan within them, not the first of its own fewest days.
    No line that parts is wrong (B1), so no line is taken back.
    """
    steps = []
    known = {}
    # Pieces with how many seams lie around each: those are days too.
    waiting = [(whole_top(spans), 0)]
    while len(waiting) > 0:
        told = waiting.pop()
        found = partings(spans, told[0])
        if most is not None:
            found = [parting for parting in found if told[1] + days_by(spans, parting, known) <= most]
        steps.append((told[0], found[0] if len(found) > 0 else None))
        if len(found) > 0:
            # What comes off the list first is what was put there last.
            waiting.append((found[0][3], told[1] + 1))
            waiting.append((found[0][2], told[1] + 1))
    return steps


def stuck_pieces(steps):
    """The pieces that lock, in the order they are come to: none just if the top can be sewn."""
    return [piece for piece, parting in steps if parting is None and len(piece) > 1]


def row_of(steps):
    """The row of the plan by which a top was taken apart that never got stuck."""
    row = []
    for piece, parting in steps:
        if parting is None:
            row.extend([PATCH, piece[0]])
        else:
            row.extend([parting[0], parting[1] + AT_SHIFT])
    return row


def seams_and_days(spans, row):
    """How many seams and how many days the plan has that the row tells; [] if it's no plan of the top."""
    seams = 0
    longest = 0
    place = 0
    # Pieces with how many seams lie around each: a plan's days are the most that lie around a patch.
    waiting = [(whole_top(spans), 0)]
    while len(waiting) > 0 and place + 1 < len(row):
        told = waiting.pop()
        if row[place] == PATCH and told[0] == [row[place + 1]]:
            longest = max(longest, told[1])
        elif row[place] <= RISING:
            sides = both_sides(spans, told[0], row[place], row[place + 1] - AT_SHIFT)
            if len(sides) == 0:
                return []
            seams += 1
            waiting.append((sides[1], told[1] + 1))
            waiting.append((sides[0], told[1] + 1))
        else:
            return []
        place += 2
    if len(waiting) > 0 or place < len(row):
        return []
    return [seams, longest]


def fewest_days(spans, piece, known):
    """The fewest days of all plans of a piece that can be sewn.

    Many ways lead to one piece: known has the days of those that were come to, and is filled.
    Calls stand within one another no deeper than a few for each of at most 10 patches.
    """
    if len(piece) == 1:
        return 0
    key = tuple(piece)
    if key not in known:
        known[key] = min([days_by(spans, parting, known) for parting in partings(spans, piece)])
    return known[key]


def days_by(spans, parting, known):
    """The fewest days of the plans that begin with a parting."""
    before = fewest_days(spans, parting[2], known)
    behind = fewest_days(spans, parting[3], known)
    return 1 + max(before, behind)


def can(text):
    """0, and 1 if the top can be sewn, else 0; or a refusal."""
    refused = refusal(text)
    if refused != 0:
        return [refused]
    stuck = stuck_pieces(take_apart(read_spans(text), None))
    return [0, 1 if len(stuck) == 0 else 0]


def line(direction, at64, text):
    """0, and 1 if the line parts the top, else 0; or a refusal."""
    refused = refusal(text)
    if refused != 0:
        return [refused]
    if direction > RISING:
        return [NO_SUCH_DIRECTION]
    spans = read_spans(text)
    sides = both_sides(spans, whole_top(spans), direction, at64 - AT_SHIFT)
    return [0, 1 if len(sides) > 0 else 0]


def plan(text):
    """0, and the row of the first plan; or a refusal."""
    refused = refusal(text)
    if refused != 0:
        return [refused]
    steps = take_apart(read_spans(text), None)
    if len(stuck_pieces(steps)) > 0:
        return [CANNOT_BE_SEWN]
    # Whichever line is first, there are plans of both its sides (B1): so the first plan has it.
    return [0] + row_of(steps)


def lock(text):
    """0, and the patches that lock, rising; or a refusal."""
    refused = refusal(text)
    if refused != 0:
        return [refused]
    stuck = stuck_pieces(take_apart(read_spans(text), None))
    if len(stuck) == 0:
        return [CAN_BE_SEWN]
    return [0] + stuck[0]


def check(text, row):
    """0, and 1, how many seams and how many days if the row is a plan of the top, else 0; or a refusal."""
    refused = refusal(text)
    if refused != 0:
        return [refused]
    told = seams_and_days(read_spans(text), row)
    return [0, 1] + told if len(told) > 0 else [0, 0]


def refusal_by_days(text):
    """What is refused where the fewest days are asked for, or 0."""
    refused = refusal(text)
    if refused != 0:
        return refused
    spans = read_spans(text)
    if len(spans) > MOST_PATCHES_BY_DAYS:
        return TOO_MANY_PATCHES
    if len(stuck_pieces(take_apart(spans, None))) > 0:
        return CANNOT_BE_SEWN
    return 0


def days(text):
    """0, and the fewest days of all plans; or a refusal."""
    refused = refusal_by_days(text)
    if refused != 0:
        return [refused]
    spans = read_spans(text)
    return [0, fewest_days(spans, whole_top(spans), {})]


def dayplan(text):
    """0, and the row of the first of the plans of the fewest days; or a refusal."""
    refused = refusal_by_days(text)
    if refused != 0:
        return [refused]
    spans = read_spans(text)
    fewest = fewest_days(spans, whole_top(spans), {})
    return [0] + row_of(take_apart(spans, fewest))
