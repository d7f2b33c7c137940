"""Heaps and a plan as a text, and back."""

from heapsdouble.checks import FEWEST_HEAPS, GREATEST, LONGEST_PLAN, MOST_HEAPS, check_heaps, check_plan
from heapsdouble.errors import InvalidText

HEAPS_WORD = "heaps"
STEP_WORD = "step"


def write_plan(heaps, plan):
    """Return the text of the heaps and the plan, whether or not its steps can be made."""
    check_heaps(heaps)
    check_plan(len(heaps), plan)
    lines = [line_of(HEAPS_WORD, heaps)]
    for step in plan:
        lines.append(line_of(STEP_WORD, step))
    return "\n".join(lines)


def read_plan(text):
    """Return (heaps, plan) of a text as write_plan gives it, but for spaces."""
    lines = text.split("\n")
    heaps = read_heaps(words_of(lines[0]))
    plan = []
    for index, line in enumerate(lines[1:]):
        words = words_of(line)
        wrong = 1 if index >= LONGEST_PLAN else wrong_in_step(len(heaps), words)
        if wrong is not None:
            raise InvalidText(index + 2, wrong)
        plan.append(numbers_behind(words))
    return (heaps, tuple(plan))


def line_of(word, numbers):
    """Return the line of a word and the numbers behind it."""
    return " ".join([word] + [str(number) for number in numbers])


def words_of(line):
    """Return the list of the words of a line."""
    # Only spaces part words: split without an argument would part them by tabs and others, too.
    return [word for word in line.split(" ") if word != ""]


def numbers_behind(words):
    """Return the tuple of the numbers behind the first word of a line."""
    return tuple([int(word) for word in words[1:]])


def read_heaps(words):
    """Return the heaps of the first line."""
    wrong = wrong_in_heaps(words)
    if wrong is not None:
        raise InvalidText(1, wrong)
    return numbers_behind(words)


def wrong_in_heaps(words):
    """Return which word of a line of heaps is the first one that cannot stand there, counted from 1, or None."""
    if len(words) == 0 or words[0] != HEAPS_WORD:
        return 1
    for index, word in enumerate(words[1:]):
        if index >= MOST_HEAPS or not is_number(word, GREATEST):
            return index + 2
    if len(words) - 1 < FEWEST_HEAPS:
        return len(words) + 1
    # Until the last word there could have been one behind it that is not 0.
    return len(words) if sum(numbers_behind(words)) == 0 else None


def wrong_in_step(many, words):
    """Return which word of a line of a step of so many heaps is the first one that cannot stand there, or None."""
    if len(words) == 0 or words[0] != STEP_WORD:
        return 1
    if len(words) < 2 or not is_number(words[1], many - 1):
        return 2
    if len(words) < 3 or not is_number(words[2], many - 1) or words[1] == words[2]:
        return 3
    return 4 if len(words) > 3 else None


def is_number(word, greatest):
    """Tell whether word is an integer from 0 to greatest as Python writes it."""
    # The length comes first, as int fails for words of thousands of figures.
    if len(word) > len(str(greatest)) or not word.isascii() or not word.isdigit():
        return False
    return str(int(word)) == word and int(word) <= greatest
