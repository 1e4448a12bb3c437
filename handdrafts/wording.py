"""Which bytes are a line of a poem."""

BLANK = 32
LETTER_A = 97
LETTER_Z = 122
MOST_WORDS = 24
MOST_LETTERS = 24


def split_at_blanks(row):
    words = [[]]
    for sign in row:
        if sign == BLANK:
            words.append([])
        else:
            words[-1].append(sign)
    return words


def is_word(signs):
    if len(signs) < 1 or len(signs) > MOST_LETTERS:
        return False
    return all([LETTER_A <= sign <= LETTER_Z for sign in signs])


def is_line(row):
    # Split, no bytes at all would be one word without letters; but they are a line without words.
    if len(row) == 0:
        return True
    words = split_at_blanks(row)
    return len(words) <= MOST_WORDS and all([is_word(word) for word in words])
