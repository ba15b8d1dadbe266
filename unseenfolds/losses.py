"""Pieces that get lost or come again: whether this is noticed, at one length and at all."""

from unseenfolds.kinds import alike, kind_named
from unseenfolds.plans import first_failing, joined_word


def unnoticed(kind, plan, number, length):
    """Returns True if the loss of the piece is unnoticed. Raises NoPiece and BadLength."""
    checked_piece(kind, plan, number)
    return hides_loss(kind, plan.words_at(length), number)


def unnoticed_again(kind, plan, number, length):
    """Returns True if the repeat of the piece is unnoticed. Raises NoPiece and BadLength."""
    checked_piece(kind, plan, number)
    return hides_repeat(kind, plan.words_at(length), number)


def noticed(kind, plan, number):
    """Returns the least length at which the loss of the piece is noticed, or None. Raises NoPiece and TooLarge."""
    checked_piece(kind, plan, number)
    return first_failing(plan, lambda words: hides_loss(kind, words, number))


def noticed_again(kind, plan, number):
    """Returns the least length at which the repeat of the piece is noticed, or None. Raises NoPiece and TooLarge."""
    checked_piece(kind, plan, number)
    return first_failing(plan, lambda words: hides_repeat(kind, words, number))


def checked_piece(kind, plan, number):
    """Returns the number of a piece. Raises BadKind, then NoPiece."""
    kind_named(kind)
    return plan.checked(number)


def hides_loss(kind, words, number):
    """Returns True if the words joined, with and without the one of this number, are alike."""
    return alike(kind, joined_word(words[:number] + words[number + 1:]), joined_word(words))


def hides_repeat(kind, words, number):
    """Returns True if the words joined, with and without the one of this number at the very end, are alike."""
    return alike(kind, joined_word(words + [words[number]]), joined_word(words))
