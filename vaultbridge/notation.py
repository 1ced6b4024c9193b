"""Values as texts: an integer, a text, or a tuple of values. Each value has one written form."""

from vaultbridge.errors import BadNotation
from vaultbridge.kinds import is_text
from vaultbridge.letters import is_letter

MOST_DIGITS = 40
MOST_LENGTH_DIGITS = 9
DEEPEST = 10

PIECE_DIGITS = 64
PIECE = 10 ** 64


def write(value):
    """Returns the written form of a value."""
    written = []
    # the parts that are left, the next one last, since tuples may be nested deeper than calls
    left = [(value, False)]
    while left:
        part, is_sign = left.pop()
        if is_sign:
            written.append(part)
        elif isinstance(part, tuple):
            written.append("(")
            left.append((")", True))
            left.extend(parted(part))
        elif isinstance(part, str):
            written.append(f"{len(part)}:{part}")
        else:
            written.append(written_integer(part))
    return "".join(written)


def written_integer(number):
    """An integer in decimal digits, with `-` in front if it is negative."""
    sign = "-" if number < 0 else ""
    return sign + digits_of(abs(number))


def digits_of(number):
    """The decimal digits of an integer of at least 0."""
    if number < PIECE:
        return str(number)
    # Python turns no integer of thousands of digits into a text at once, so it is halved until its pieces are short
    powers = []
    power = PIECE
    while power <= number:
        powers.append(power)
        power = power * power
    pieces = [number]
    for middle in reversed(powers):
        pieces = [half for piece in pieces for half in divmod(piece, middle)]
    digits = "".join([str(piece).zfill(PIECE_DIGITS) for piece in pieces])
    return digits.lstrip("0")


def parted(parts):
    """The parts of a tuple with commas between them, the first one last."""
    found = []
    for part in reversed(parts):
        if found:
            found.append((",", True))
        found.append((part, False))
    return found


def read(text):
    """Returns the value whose written form the text is."""
    if not is_text(text):
        raise BadNotation("a written form has no such characters")
    value, end = read_value(text, 0, 0)
    if end != len(text):
        raise BadNotation("something stands behind the value")
    return value


def read_letter(text):
    """Returns the letter whose written form the text is."""
    value = read(text)
    if not is_letter(value):
        raise BadNotation("the value is no well formed letter")
    return value


def read_value(text, start, depth):
    """Reads the value that begins at a place, within `depth` tuples; returns it and the place behind it."""
    sign = sign_at(text, start)
    if sign == "(":
        return read_tuple(text, start, depth + 1)
    if sign == "-":
        digits = digits_at(text, start + 1, MOST_DIGITS)
        if digits == "0":
            raise BadNotation("zero is not negative")
        return (-int(digits), start + 1 + len(digits))
    digits = digits_at(text, start, MOST_DIGITS)
    end = start + len(digits)
    if sign_at(text, end) == ":":
        return read_text(text, digits, end + 1)
    return (int(digits), end)


def read_text(text, digits, start):
    """Reads the text that begins behind its length."""
    if len(digits) > MOST_LENGTH_DIGITS:
        raise BadNotation("a length has too many digits")
    end = start + int(digits)
    if end > len(text):
        raise BadNotation("a text is cut off")
    return (text[start:end], end)


def read_tuple(text, start, depth):
    """Reads the tuple that begins at a place; it is the `depth`-th one around its parts."""
    if depth > DEEPEST:
        raise BadNotation("the tuples are nested too deep")
    if sign_at(text, start + 1) == ")":
        return ((), start + 2)
    part, end = read_value(text, start + 1, depth)
    parts = [part]
    while sign_at(text, end) == ",":
        part, end = read_value(text, end + 1, depth)
        parts.append(part)
    if sign_at(text, end) != ")":
        raise BadNotation("a tuple does not end")
    return (tuple(parts), end + 1)


def sign_at(text, place):
    """The character at a place, empty behind the end."""
    return text[place:place + 1]


def digits_at(text, start, most):
    """The digits that stand at a place: at least one, at most `most`, and no zero before another one."""
    end = start
    while sign_at(text, end).isdigit():
        end += 1
    digits = text[start:end]
    if not 1 <= len(digits) <= most:
        raise BadNotation("there are no digits or too many")
    if digits != "0" and digits[0] == "0":
        raise BadNotation("a number begins with a zero")
    return digits
