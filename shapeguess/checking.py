"""Whether a version is right (S7.5)."""

from shapeguess.errors import BadVersion
from shapeguess.factparts import registers_in
from shapeguess.plainlives import Lives
from shapeguess.quick import WITH_END_AND_POINT, end_of, has_end, piece, row_of_point, rows_behind_row, steps_of
from shapeguess.quickforms import Forms, quick_registers_in
from shapeguess.quickrows import quick_read_by, quick_written_by
from shapeguess.values import are_different_words, is_number

POINT_FACTS_BEHIND = ("kind", "is", "same", "unlike")


def check_version(program, version):
    """Raise BadVersion for the first thing that is wrong in a version, each part of which may be anything."""
    lives = Lives(program)
    if not lives.has_function(version.function()):
        raise BadVersion(("function",))
    names = version.names()
    if not isinstance(names, list) or not are_different_words(tuple(names)):
        raise BadVersion(("names",))
    if not is_number(version.registers()):
        raise BadVersion(("registers",))
    check_forms(Forms(lives, version), version)
    check_ways(version)
    check_pieces(version)
    for number, row in enumerate(version.rows()):
        if row[0] in WITH_END_AND_POINT and not is_right_call(lives, version, row):
            raise BadVersion(("call", number))
    check_reads(version)


def check_forms(forms, version):
    """Raise BadVersion for the first watched fact, point, row or end that has not its form."""
    watched = version.watched()
    points = version.points()
    rows = version.rows()
    if not isinstance(watched, list):
        raise BadVersion(("watched", 0))
    for number, fact in enumerate(watched):
        if not forms.is_right_watched(fact):
            raise BadVersion(("watched", number))
    if not isinstance(points, list) or not points:
        raise BadVersion(("point", 0))
    for number, point in enumerate(points):
        if not forms.is_point(point):
            raise BadVersion(("point", number))
    if not isinstance(rows, list) or not rows:
        raise BadVersion(("row", 0))
    for number, row in enumerate(rows):
        if not forms.is_row(row):
            raise BadVersion(("row", number))
    for number, row in enumerate(rows):
        if has_end(row) and not forms.is_end(end_of(row)):
            raise BadVersion(("end", number))


def check_ways(version):
    """Raise BadVersion for the first row that is followed by what may not follow, or point without its row."""
    rows = version.rows()
    if rows[0][0] != "point":
        raise BadVersion(("next", 0))
    for number in range(len(rows)):
        for behind in steps_of(version, number):
            if behind >= len(rows) or rows[behind][0] == "point":
                raise BadVersion(("next", number))
    for k in range(len(version.points())):
        if rows.count(("point", k)) != 1:
            raise BadVersion(("points", k))


def check_pieces(version):
    """Raise BadVersion for the first row that can follow itself, or that belongs to two pieces."""
    many = len(version.rows())
    for number in range(many):
        if number in rows_behind_row(version, number):
            raise BadVersion(("ring", number))
    owners = [0] * many
    for k in range(len(version.points())):
        for number in piece(version, k):
            owners[number] = owners[number] + 1
    for number in range(many):
        if owners[number] > 1:
            raise BadVersion(("shared", number))


def is_right_call(lives, version, row):
    """Return whether the end and the point of a call or method row fit."""
    frames = end_of(row)[1]
    if len(frames) != 1:
        return False
    name, number, told = frames[0]
    plain = lives.row(name, number)
    if not is_plain_call(row, plain):
        return False
    behind, facts, pairs = version.point(row[-1])
    if behind != number + 1:
        return False
    for fact in facts:
        if fact[0] not in POINT_FACTS_BEHIND or row[1] in registers_in(fact):
            return False
    return are_places_behind(row[1], plain[1], told, pairs)


def is_plain_call(row, plain):
    """Return whether a plain row calls in the same way as a quick call or method row."""
    if row[0] == "method":
        return plain[0] == "method" and plain[3] == row[3] and len(plain[4]) == len(row[4])
    if plain[0] == "method":
        return len(plain[4]) == len(row[3]) - 1
    return plain[0] == "call" and len(plain[3]) == len(row[3])


def are_places_behind(q, result, told, pairs):
    """Return whether the places behind a call are those that its end tells, but q for the plain result register."""
    places = {number: place for number, place in told}
    for number, place in pairs:
        if number == result:
            if place != ("reg", q):
                return False
        elif place == ("reg", q) or place != places.get(number):
            return False
    return True


def check_reads(version):
    """Raise BadVersion for the first row of a piece that reads a register which it may not read."""
    # Each register that is read gets a bit of its own, so that a number can tell which ones are known.
    bits = {}
    for row in version.rows():
        for place in quick_read_by(row, version.points()):
            bits.setdefault(place, 1 << len(bits))
    wrong = []
    for k in range(len(version.points())):
        wrong.extend(wrong_reads(version, bits, k))
    if wrong:
        raise BadVersion(("read", min(wrong)))


def wrong_reads(version, bits, k):
    """Return the list of the rows of a piece that read a register which may not have been written."""
    rows = piece(version, k)
    points = version.points()
    # For each row: the registers that are known there on every way; -1 has all bits.
    known = {number: -1 for number in rows}
    known[row_of_point(version, k) + 1] = sum_of_bits(bits, quick_registers_in(points[k][2]))
    # The rows form no ring, so that as many rounds as there are rows reach all of them.
    for _ in rows:
        for number in rows:
            behind = known[number] | sum_of_bits(bits, quick_written_by(version.row(number)))
            for step in steps_of(version, number):
                known[step] = known[step] & behind
    wrong = []
    for number in rows:
        read = sum_of_bits(bits, quick_read_by(version.row(number), points))
        if read & known[number] != read:
            wrong.append(number)
    return wrong


def sum_of_bits(bits, places):
    """Return the number that has the bits of these registers, as far as they have one."""
    found = 0
    for place in places:
        found = found | bits.get(place, 0)
    return found
