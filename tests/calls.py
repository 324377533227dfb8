"""Calls written as tests read them, and the answers that the program gives to them."""

from bentwords.forms import answers

BEGIN = [0]


def row(text):
    signs = list(text.encode("latin-1")) if isinstance(text, str) else list(text)
    return [len(signs)] + signs


def rule(kind, slot, text):
    return [1, kind, slot] + row(text)


def word(kind, text):
    return [2, kind] + row(text)


def odd(number, slot, text):
    return [3, number, slot] + row(text)


def form(number, slot):
    return [4, number, slot]


def found(text, k):
    return [5, k] + row(text)


def near(text, k):
    return [6, k] + row(text)


def check(text, start):
    return [7, start] + row(text)


def line(*calls):
    return [number for call in calls for number in call]


def ask(*calls):
    """What a new object answers to begin and these calls, one number each, begin's left out."""
    told = answers(line(BEGIN, *calls))
    if len(told) != 2 * len(calls) + 2 or set(told[0::2]) != {1}:
        raise AssertionError(f"not one number a call: {told}")
    if told[1] != 0:
        raise AssertionError(f"begin answered {told[1]}")
    return told[3::2]


def split(told):
    """The answers, a list each, without the counts before them."""
    parts = []
    at = 0
    while at < len(told):
        parts.append(told[at + 1:at + 1 + told[at]])
        if len(parts[-1]) != told[at] or told[at] == 0:
            raise AssertionError(f"a count that is none: {told}")
        at += 1 + told[at]
    return parts


def replies(*calls):
    """What a new object answers to begin and these calls, a list each, begin's left out."""
    told = split(answers(line(BEGIN, *calls)))
    if len(told) != len(calls) + 1 or told[0] != [0]:
        raise AssertionError(f"not an answer a call: {told}")
    return told[1:]


def last_replies(before, *calls):
    """What is answered to these calls behind those before."""
    return replies(*before, *calls)[len(before):]


def one(text):
    """The answer that tells a row of letters."""
    return [1] + list(text.encode())


def spell(number):
    """A row of four letters, another one for each number below 456,976."""
    letters = []
    for _ in range(4):
        number, letter = divmod(number, 26)
        letters.append("abcdefghijklmnopqrstuvwxyz"[letter])
    return "".join(letters)
