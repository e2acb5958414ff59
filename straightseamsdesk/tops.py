"""Tops told by a block's text: which can be sewn by straight seams, by which seams, and what locks.

A patch is kept as its four spans, one a direction: the lowest and the highest strip it lies in.
Strip k of a direction is what lies between its lines k and k + 1. As no line cuts a quarter, the
spans say all that a line has to know of a patch.
A piece is a list of patches' numbers: a line that parts cuts no patch, so all that taking apart
comes to is whole patches. Its numbers always rise.
"""

MOST_BYTES = 1024
MOST_SQUARES = 6
ROW_END = 10
BLANK = 32
SLASH = 47
BACKSLASH = 92

NO_SUCH_DIRECTION = -1
TOO_LONG = -2
CANNOT_BE_SEWN = -5
CAN_BE_SEWN = -5
AT_FAULT = -6

UPPER = 0
RIGHT = 1
LOWER = 2
LEFT = 3

UPRIGHT = 0
LEVEL = 1
FALLING = 2
RISING = 3
DIRECTIONS = 4
AT_SHIFT = 64

# In a plan's row this stands where a seam has its direction.
PATCH = 4


def split_at(numbers, mark):
    """The stretches between the marks; one more than there are marks."""
    stretches = [[]]
    for number in numbers:
        if number == mark:
            stretches.append([])
        else:
            stretches[-1].append(number)
    return stretches


def is_letter(number):
    return 65 <= number <= 90 or 97 <= number <= 122


def spread_square(square):
    """Upper, right, lower, left as the square's form tells them, letters or not; [] if it has no form."""
    if len(square) == 1:
        return [square[0], square[0], square[0], square[0]]
    if len(square) == 3 and square[1] == SLASH:
        return [square[0], square[2], square[2], square[0]]
    if len(square) == 3 and square[1] == BACKSLASH:
        return [square[0], square[0], square[2], square[2]]
    if len(square) == 4:
        return list(square)
    return []


def read_square(square):
    """The letters of a square's four quarters; [] if it is at fault."""
    quarters = spread_square(square)
    if all([is_letter(number) for number in quarters]):
        return quarters
    return []


def read_row(row):
    """The letters of a row's quarters; [] if it is at fault."""
    squares = split_at(row, BLANK)
    if len(squares) > MOST_SQUARES:
        return []
    letters = []
    for square in squares:
        quarters = read_square(square)
        if len(quarters) == 0:
            return []
        letters.extend(quarters)
    return letters


def read_rows(text):
    """The letters of the top's quarters, row by row; [] if the text is at fault."""
    stretches = split_at(text, ROW_END)
    # Byte 10 stands behind each row, the last one too: nothing may be left over behind it.
    left_over = stretches.pop()
    if len(left_over) > 0 or len(stretches) == 0 or len(stretches) > MOST_SQUARES:
        return []
    rows = [read_row(stretch) for stretch in stretches]
    length = len(rows[0])
    if length == 0 or any([len(row) != length for row in rows]):
        return []
    return rows


def refusal(text):
    """What every call refuses first, or 0."""
    if len(text) > MOST_BYTES:
        return TOO_LONG
    if len(read_rows(text)) == 0:
        return AT_FAULT
    return 0


def side_by_side(quarter, wide, count):
    """The quarters that share a side with this one, in a top of count quarters."""
    square = quarter // 4
    side = quarter % 4
    near = [4 * square + (side + 1) % 4, 4 * square + (side + 3) % 4]
    if side == UPPER and square >= wide:
        near.append(4 * (square - wide) + LOWER)
    if side == RIGHT and (square + 1) % wide != 0:
        near.append(4 * (square + 1) + LEFT)
    if side == LOWER and 4 * (square + wide) < count:
        near.append(4 * (square + wide) + UPPER)
    if side == LEFT and square % wide != 0:
        near.append(4 * (square - 1) + RIGHT)
    return near


def patch_around(start, letters, wide):
    """The quarters of the patch that a quarter is of."""
    patch = [start]
    reached = {start: True}
    done = 0
    while done < len(patch):
        for quarter in side_by_side(patch[done], wide, len(letters)):
            if letters[quarter] == letters[start] and quarter not in reached:
                reached[quarter] = True
                patch.append(quarter)
        done += 1
    return patch


def find_patches(letters, wide):
    """The patches as lists of quarters, in the order of their numbers."""
    patches = []
    taken = {}
    for start in range(len(letters)):
        if start not in taken:
            patch = patch_around(start, letters, wide)
            patches.append(patch)
            for quarter in patch:
                taken[quarter] = True
    return patches


def strip_of(quarter, direction, wide):
    """The strip a quarter lies in: it is before a line just if its strip is below the line's at."""
    square = quarter // 4
    side = quarter % 4
    x = square % wide
    y = square // wide
    if direction == UPRIGHT:
        return x
    if direction == LEVEL:
        return y
    if direction == FALLING:
        return x - y if side == UPPER or side == RIGHT else x - y - 1
    return x + y if side == UPPER or side == LEFT else x + y + 1


def spans_of_patch(patch, wide):
    """The patch's lowest and highest strip in each direction."""
    spans = []
    for direction in range(DIRECTIONS):
        strips = [strip_of(quarter, direction, wide) for quarter in patch]
        spans.append((min(strips), max(strips)))
    return spans


def read_spans(text):
    """The spans of each patch of a good text's top, in the order of the patches' numbers."""
    rows = read_rows(text)
    wide = len(rows[0]) // 4
    letters = []
    for row in rows:
        letters.extend(row)
    return [spans_of_patch(patch, wide) for patch in find_patches(letters, wide)]


def whole_top(spans):
    """The piece that all patches make."""
    return list(range(len(spans)))


def those_before(spans, piece, direction, at):
    return [patch for patch in piece if spans[patch][direction][1] < at]


def those_behind(spans, piece, direction, at):
    return [patch for patch in piece if spans[patch][direction][0] >= at]


def parts(spans, piece, direction, at):
    """Whether the line parts the piece: a patch that it cuts is neither before nor behind it."""
    before = len(those_before(spans, piece, direction, at))
    behind = len(those_behind(spans, piece, direction, at))
    return before > 0 and behind > 0 and before + behind == len(piece)


def first_line(spans, piece):
    """Direction and at of the first line that parts the piece, None if no line does."""
    for direction in range(DIRECTIONS):
        lowest = min([spans[patch][direction][0] for patch in piece])
        highest = max([spans[patch][direction][1] for patch in piece])
        # Lines outside these have the whole piece on one side.
        for at in range(lowest + 1, highest + 1):
            if parts(spans, piece, direction, at):
                return (direction, at)
    return None


def take_apart(spans, piece):
    """Each part that taking the piece apart comes to, with the first line that parts it or None.

    A part stands ahead of what's before its line, and that ahead of what's behind it. No line that
    parts is wrong (B1), so the first one is taken each time and no other is tried.
    """
    steps = []
    waiting = [piece]
    while len(waiting) > 0:
        part = waiting.pop()
        found = first_line(spans, part)
        steps.append((part, found))
        if found is not None:
            # What comes off the list first is what was put there last.
            waiting.append(those_behind(spans, part, found[0], found[1]))
            waiting.append(those_before(spans, part, found[0], found[1]))
    return steps


def stuck_parts(steps):
    """The parts that lock, in the order they are come to: none just if the piece is sewn by straight seams."""
    return [part for part, found in steps if found is None and len(part) > 1]


def first_row(steps):
    """The row of the first plan of what was taken apart and never got stuck.

    Whichever line is first, there are plans of both its sides (B1): so the first plan has it.
    """
    row = []
    for part, found in steps:
        if found is None:
            row.extend([PATCH, part[0]])
        else:
            row.extend([found[0], found[1] + AT_SHIFT])
    return row


def can(text):
    """0, and 1 if the top can be sewn, else 0; or a refusal."""
    refused = refusal(text)
    if refused != 0:
        return [refused]
    spans = read_spans(text)
    steps = take_apart(spans, whole_top(spans))
    return [0, 1 if len(stuck_parts(steps)) == 0 else 0]


def line(direction, at64, text):
    """0, and 1 if the line parts the top, else 0; or a refusal."""
    refused = refusal(text)
    if refused != 0:
        return [refused]
    if direction > RISING:
        return [NO_SUCH_DIRECTION]
    spans = read_spans(text)
    return [0, 1 if parts(spans, whole_top(spans), direction, at64 - AT_SHIFT) else 0]


def plan(text):
    """0, and the row of the first plan; or a refusal."""
    refused = refusal(text)
    if refused != 0:
        return [refused]
    spans = read_spans(text)
    steps = take_apart(spans, whole_top(spans))
    if len(stuck_parts(steps)) > 0:
        return [CANNOT_BE_SEWN]
    return [0] + first_row(steps)


def lock(text):
    """0, and the patches that lock, rising; or a refusal."""
    refused = refusal(text)
    if refused != 0:
        return [refused]
    spans = read_spans(text)
    stuck = stuck_parts(take_apart(spans, whole_top(spans)))
    if len(stuck) == 0:
        return [CAN_BE_SEWN]
    return [0] + stuck[0]
