"""Whole numbers told and read by their digits, however many these are."""

# int and str refuse a number of too many digits. How many that is can be set, but never below 640,
# so pieces of this width, and a number of one digit more, are always taken.
WIDTH = 600


def piece_bound():
    return int("1" + "0" * WIDTH)


def text_of(number):
    if number < 0:
        return "-" + text_of(-number)
    bound = piece_bound()
    pieces = []
    rest = number
    while rest >= bound:
        parts = divmod(rest, bound)
        pieces.append(str(parts[1]).zfill(WIDTH))
        rest = parts[0]
    pieces.append(str(rest))
    return "".join(reversed(pieces))


def without_sign(word):
    if word.startswith("+") or word.startswith("-"):
        return word[1:]
    return word


def pieces_of(digits):
    # Noughts ahead make every piece as wide as the others, so that one bound serves them all.
    padded = "0" * (-len(digits) % WIDTH) + digits
    return [padded[start:start + WIDTH] for start in range(0, len(padded), WIDTH)]


def piece_number(piece):
    try:
        return int(piece)
    except ValueError:
        return None


def number_of(word):
    # The same words are numbers as for int: a sign may stand ahead, and a single _ between digits.
    parts = without_sign(word).split("_")
    # int would take a + or a - at the head of every piece, so nothing but digits may come to it.
    if not all([part.isdigit() for part in parts]):
        return None
    bound = piece_bound()
    number = 0
    for piece in pieces_of("".join(parts)):
        # A raised two and its like are digits for isdigit, but not for int.
        value = piece_number(piece)
        if value is None:
            return None
        number = number * bound + value
    if word.startswith("-"):
        return -number
    return number
