"""Frames: a body put into its frame, and taken out of it again."""

from escaperow.errors import BadBody, BadSigns
from escaperow.ranks import rank_of, row_of
from escaperow.ways import first_unsigned, need_way, plain_signs, unturned

MOST_BODY = 60
MOST_SIGNS = 400
# Sixty codes of four signs, and the end.
LONGEST_FRAME = 241


def framed(way, body):
    """The frame of the body."""
    need_way(way)
    need_body(way, body)
    return frame_of(way, body)


def body_of(way, signs):
    """The body of which the signs are the frame, None if they are none's."""
    need_way(way)
    need_signs(way, signs)
    return taken_out(way, signs)


def need_body(way, body):
    """Refuse with BadBody what is no body."""
    if len(body) > MOST_BODY:
        raise BadBody(MOST_BODY)
    at = first_unsigned(body, top_of(way))
    if at is not None:
        raise BadBody(at)


def need_signs(way, signs):
    """Refuse with BadSigns what is no list of signs, or too long a one."""
    at = first_unsigned(signs[:MOST_SIGNS], top_of(way))
    if at is not None:
        raise BadSigns(at)
    if len(signs) > MOST_SIGNS:
        raise BadSigns(MOST_SIGNS)


def top_of(way):
    """The top of the way's signs."""
    inner = unturned(way)[1]
    return inner[1]


def frame_of(way, body):
    """The frame of a list of signs, of any number of them."""
    turnings, inner = unturned(way)
    put_together = FRAMERS[inner[0]]
    return put_together(inner, exchanged(turnings, body)) + [inner[2]]


def exchanged(turnings, body):
    """The body behind all exchanges, the outermost first."""
    turned = body
    for signs in turnings:
        turned = [signs[sign] for sign in turned]
    return turned


def taken_out(way, signs):
    """The body of which the signs, of any number, are the frame, None if they are none's."""
    turnings, inner = unturned(way)
    end = inner[2]
    if len(signs) > LONGEST_FRAME or signs.count(end) != 1 or signs[-1] != end:
        return None
    take_apart = READERS[inner[0]]
    body = take_apart(inner, signs[:-1])
    if body is None or len(body) > MOST_BODY:
        return None
    for turning in reversed(turnings):
        body = [turning.index(sign) for sign in body]
    # Taking apart is lenient: it finds a frame's body, but also makes one of much that is no frame.
    return body if frame_of(way, body) == signs else None


def by_codes(way, body):
    """The body's frame without its end, by codes."""
    codes = way[3]
    return [sign for letter in body for sign in codes[letter]]


def from_codes(way, row):
    """The body of a frame without its end, by codes; None if a code is not whole."""
    letters = {code: letter for letter, code in enumerate(way[3])}
    body = []
    begun = ()
    for sign in row:
        begun = (*begun, sign)
        if begun in letters:
            body.append(letters[begun])
            begun = ()
    return None if begun else body


def by_escapes(way, body):
    """The body's frame without its end, by escapes."""
    mark, pairs = way[3:]
    codes = {sign: code for sign, code in pairs}
    frame = []
    for sign in body:
        if sign in codes:
            frame.extend([mark, codes[sign]])
        else:
            frame.append(sign)
    return frame


def from_escapes(way, row):
    """The body of a frame without its end, by escapes; None if a mark has no code behind it."""
    mark, pairs = way[3:]
    signs = {code: sign for sign, code in pairs}
    body = []
    marked = False
    for sign in row:
        if marked and sign not in signs:
            return None
        if marked:
            body.append(signs[sign])
            marked = False
        elif sign == mark:
            marked = True
        else:
            body.append(sign)
    return None if marked else body


def by_counts(way, body):
    """The body's frame without its end, by counts."""
    _, top, end, limit = way
    counts = plain_signs(top, end)[:limit]
    rows = rows_between(body, end)
    frame = []
    for row in rows:
        frame.extend(grouped(row, counts))
    last = rows[-1]
    if last and len(last) % (limit - 1) == 0:
        frame.pop()
    return frame


def rows_between(body, end):
    """The rows into which the ends in the body cut it."""
    rows = [[]]
    for sign in body:
        if sign == end:
            rows.append([])
        else:
            rows[-1].append(sign)
    return rows


def grouped(row, counts):
    """The row in groups behind their counts, the last group shorter than a whole one."""
    whole = len(counts) - 1
    groups = []
    left = row
    while len(left) >= whole:
        groups.append(counts[-1])
        groups.extend(left[:whole])
        left = left[whole:]
    groups.append(counts[len(left)])
    groups.extend(left)
    return groups


def from_counts(way, row):
    """The body of a frame without its end, by counts."""
    _, top, end, limit = way
    plain = plain_signs(top, end)
    body = []
    at = 0
    row_is_over = False
    while at < len(row):
        if row_is_over:
            body.append(end)
        count = plain.index(row[at]) + 1
        body.extend(row[at + 1:at + count])
        row_is_over = count < limit
        at += count
    return body


def by_ranks(way, body):
    """The body's frame without its end, by ranks."""
    _, top, end = way
    return row_of(rank_of(body, list(range(top))), plain_signs(top, end))


def from_ranks(way, row):
    """The body of a frame without its end, by ranks."""
    _, top, end = way
    return row_of(rank_of(row, plain_signs(top, end)), list(range(top)))


FRAMERS = {"codes": by_codes, "escapes": by_escapes, "counts": by_counts, "ranks": by_ranks}
READERS = {"codes": from_codes, "escapes": from_escapes, "counts": from_counts, "ranks": from_ranks}
