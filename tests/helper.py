"""Writes calls by their names, and reads the answers apart again."""

from primering.differences import answers

NAMES = (
    "begin put take kept move times grow leads of common "
    "into rounds differ who inner group greatest steps told"
).split()
ARGUMENT_COUNTS = dict(
    begin=1, put=1, take=1, kept=0, move=1, times=1, grow=0, leads=2, of=1, common=2,
    into=2, rounds=1, differ=1, who=0, inner=0, group=0, greatest=0, steps=2, told=0,
)
GREATEST = 4294967295


def line(text):
    """The list of calls that a text such as "begin 7, put 3, kept" stands for."""
    calls = []
    for call in text.split(","):
        words = call.split()
        given = [int(word) for word in words[1:]]
        if len(given) != ARGUMENT_COUNTS[words[0]]:
            raise ValueError(call)
        calls += [NAMES.index(words[0])] + given
    return calls


def apart(numbers):
    """The answers, one list each, of a list that `answers` gave back."""
    rows = []
    at = 0
    while at < len(numbers):
        end = at + 1 + numbers[at]
        if numbers[at] < 1 or end > len(numbers):
            raise ValueError("answers that don't come out even", numbers)
        rows.append(numbers[at + 1:end])
        at = end
    return rows


def ask(text):
    return apart(answers(line(text)))


def last(text):
    return ask(text)[-1]


def keeping(prime, points):
    """The beginning of a line by this prime with these points kept."""
    return ", ".join([f"begin {prime}"] + [f"put {point}" for point in points])
