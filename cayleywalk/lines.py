"""Lines of text: their words, names, numbers, and the texts of words over generators."""

from cayleywalk.errors import NotWord
from cayleywalk.letters import check_word

PERCENT_SIGN = 37
LONGEST_NAME = 12
NAME_LETTERS = "abcdefghijklmnopqrstuvwxyz"
DIGITS = "0123456789"
EMPTY_TEXT = "-"


def is_plain(text):
    """Return True if all characters are from the space to `~`, and none is the percent sign."""
    return all([" " <= sign <= "~" and ord(sign) != PERCENT_SIGN for sign in text])


def words_of(line):
    """Return the list of the words of a line, or None if it is malformed."""
    words = line.split(" ")
    if "" in words or not is_plain(line):
        return None
    return words


def is_name(word):
    """Return True if the word is 1 to 12 small letters."""
    return 1 <= len(word) <= LONGEST_NAME and all([sign in NAME_LETTERS for sign in word])


def number_in(word):
    """Return the integer from 0 to 99 whose decimal form the word is, or None."""
    if len(word) not in (1, 2) or not all([sign in DIGITS for sign in word]):
        return None
    if len(word) == 2 and word[0] == "0":
        return None
    return int(word)


def text_of(word):
    """Return the text of a word over three generators."""
    check_word(3, word)
    if word == "":
        return EMPTY_TEXT
    return word


def word_in(text):
    """Return the word over three generators with this text."""
    if text == EMPTY_TEXT:
        return ""
    if text == "":
        raise NotWord("the text of the empty word is not empty")
    check_word(3, text)
    return text
