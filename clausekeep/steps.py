"""The lines of steps."""

from clausekeep.errors import NoStep
from clausekeep.words import number_in


def shown(step):
    """The line of a step."""
    if step[0] == "drop":
        words = ["drop"] + ended_words(step[1])
    else:
        words = [str(step[1])] + ended_words(step[2]) + ended_words(step[3])
    return " ".join(words)


def ended_words(numbers):
    """The words of numbers and the 0 behind them."""
    return [str(number) for number in numbers] + ["0"]


def step_in(line):
    """The step that a line writes; NoStep."""
    words = line.split(" ")
    numbers = [number_in(word) for word in words[1:]]
    if words[0] == "drop":
        step = drop_in(numbers)
    else:
        step = add_in(number_in(words[0]), numbers)
    if step is None:
        raise NoStep("the line writes no step")
    return step


def drop_in(numbers):
    """The step that drops, of the numbers behind its first word, or None."""
    if numbers == [] or numbers[-1] != 0:
        return None
    dropped = tuple(numbers[:-1])
    return ("drop", dropped) if all([is_from_one(number) for number in dropped]) else None


def add_in(number, numbers):
    """The step that adds, of its number and the numbers behind it, or None."""
    if not is_from_one(number) or None in numbers:
        return None
    if numbers.count(0) != 2 or numbers[-1] != 0:
        return None
    place = numbers.index(0)
    return ("add", number, tuple(numbers[:place]), tuple(numbers[place + 1:-1]))


def is_from_one(number):
    """Whether there is a number, and it is one from 1 on."""
    return number is not None and number >= 1
