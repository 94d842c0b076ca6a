"""Private: numbers in texts, and texts cut into lines."""

PIECE = 18
PIECE_END = 1000000000000000000


def is_figures(word):
    """Whether the word is figures 0 to 9 without a 0 ahead, or 0."""
    return word.isascii() and word.isdigit() and (word == "0" or word[0] != "0")


def number_text(number):
    """The number in figures."""
    # Piece by piece: Python itself tells and reads no number of some thousand figures.
    left, pieces = abs(number), []
    while left >= PIECE_END:
        left, piece = divmod(left, PIECE_END)
        pieces.append(str(piece).zfill(PIECE))
    pieces.append(str(left))
    return ("-" if number < 0 else "") + "".join(pieces[::-1])


def number_read(word):
    """The number that has this text, or None."""
    below = word.startswith("-")
    figures = word[1:] if below else word
    if not is_figures(figures) or word == "-0":
        return None
    ahead = len(figures) % PIECE
    number = int("0" + figures[:ahead])
    for at in range(ahead, len(figures), PIECE):
        number = number * PIECE_END + int(figures[at:at + PIECE])
    return -number if below else number


def lines_of(text):
    """The lines of the text; the empty one has none."""
    return [] if text == "" else text.split("\n")
