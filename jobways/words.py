"""The lines of a text, their words, and the forms of single words."""

LETTERS = "abcdefghijklmnopqrstuvwxyz"
NAME_SIGNS = "abcdefghijklmnopqrstuvwxyz0123456789-"
VALUE_SIGNS = "abcdefghijklmnopqrstuvwxyz0123456789-."
KNOWN_SIGNS = "abcdefghijklmnopqrstuvwxyz0123456789-.=()# "
LONGEST_WORD = 12
LINE_END = 10


def lines_of(text):
    """Give the lines of a text of bytes, each a list of bytes without its end."""
    lines = []
    line = []
    for byte in text:
        if byte == LINE_END:
            lines.append(line)
            line = []
        else:
            line.append(byte)
    if len(line) > 0:
        lines.append(line)
    return lines


def has_wrong_byte(line):
    return any([byte < 32 or byte > 126 for byte in line])


def known_signs():
    signs = {}
    for sign in KNOWN_SIGNS:
        signs[ord(sign)] = sign
    return signs


def words_of(line):
    """Give the words of a line without wrong bytes, as texts.

    A byte that no well-formed word has becomes a question mark, which no well-formed word has either.
    """
    signs = known_signs()
    row = "".join([signs.get(byte, "?") for byte in line])
    return row.replace("(", " ( ").replace(")", " ) ").split()


def is_name(word):
    if len(word) == 0 or len(word) > LONGEST_WORD or word[0] not in LETTERS:
        return False
    return all([sign in NAME_SIGNS for sign in word])


def is_value(word):
    if len(word) == 0 or len(word) > LONGEST_WORD:
        return False
    return all([sign in VALUE_SIGNS for sign in word])


def pair_of(word):
    """Give what stands before and behind the first equals sign of a word."""
    parts = word.partition("=")
    return (parts[0], parts[2])


def is_pair(word):
    pair = pair_of(word)
    return is_name(pair[0]) and is_value(pair[1])
