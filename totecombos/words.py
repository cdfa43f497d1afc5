"""A text's lines and words, and which words are names and which are numbers."""

LETTERS = "abcdefghijklmnopqrstuvwxyz"
DIGITS = "0123456789"

# No word of a card has this sign, so a text with a byte that no card has is found out wherever that byte stands.
FOREIGN = "?"

MOST_NAME_BYTES = 12

# No number of a card has more digits (twice the greatest unit is 20,000); longer rows of digits are not worked out.
MOST_DIGITS = 5


def sign_of(byte):
    """The sign that a byte of a card stands for; FOREIGN for all other bytes."""
    if 97 <= byte <= 122:
        return LETTERS[byte - 97]
    if 48 <= byte <= 57:
        return DIGITS[byte - 48]
    if byte == 32:
        return " "
    if byte == 10:
        return "\n"
    return FOREIGN


def lines_of(text):
    """The words of each line. An empty text has no lines; one whose last line isn't ended is told as having none."""
    rows = "".join([sign_of(byte) for byte in text]).split("\n")
    if rows[-1] != "":
        return []
    # A blank too many leaves an empty word, which is no name, no number and no word of the grammar.
    return [row.split(" ") for row in rows[:-1]]


def is_name(word):
    """Whether the word is a name. Its signs are those of sign_of, so there are no letters but a to z."""
    return 1 <= len(word) <= MOST_NAME_BYTES and word.isalnum() and word[0].isalpha()


def is_number(word, low, high):
    """Whether the word is a number from low to high."""
    if not word.isdigit() or len(word) > MOST_DIGITS:
        return False
    if len(word) > 1 and word[0] == "0":
        return False
    return low <= int(word) <= high
