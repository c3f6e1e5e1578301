"""Rights written as lines."""


def rights_text(rights):
    """The text that writes the rights, a line end between two lines."""
    turn, floor, rows = rights
    return "\n".join([f"{turn} {floor}"] + [row_line(row) for row in rows])


def row_line(row):
    """The line that writes a row."""
    (one, other), (turn, number), place, giver, rise, free, here = row
    word = "here" if here else "away"
    return f"{hand_word(one)} {hand_word(other)} {turn} {number} {place} {giver} {rise} {free} {word}"


def hand_word(hand):
    """The word that writes a hand."""
    town, word = hand
    return f"{town}.{word}"
