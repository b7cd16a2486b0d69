"""Texts as lists of bytes, and the bytes that more than one file needs."""

BLANK = 32
COMMA = 44
DASH = 45


def written(letters):
    return [ord(letter) for letter in letters]


# The stretches of the text that lie before, between and behind the places of the byte.
def pieces_between(text, byte):
    pieces = []
    piece = []
    for each in text:
        if each == byte:
            pieces.append(piece)
            piece = []
        else:
            piece.append(each)
    pieces.append(piece)
    return pieces
