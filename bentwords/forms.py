"""The calls on one object, read from one list of whole numbers, and their answers."""

from bentwords.lexicon import Lexicon

BEGIN = 0
RULE = 1
WORD = 2
ODD = 3
FORM = 4
FOUND = 5
NEAR = 6

# By the call's number: how many numbers stand before t, the count of t's own among them.
HEAD_SIZES = (1, 4, 3, 4, 3, 3, 3, 3)


def answers(calls):
    lexicon = Lexicon()
    told = []
    at = 0
    while at < len(calls):
        size = call_size(calls, at)
        answer = answer_call(lexicon, calls[at:at + size])
        told.append(len(answer))
        told.extend(answer)
        at += size
    return told


def call_size(calls, at):
    head = HEAD_SIZES[calls[at]]
    # These have no t.
    if calls[at] == BEGIN or calls[at] == FORM:
        return head
    return head + calls[at + head - 1]


def answer_call(lexicon, call):
    signs = call[HEAD_SIZES[call[0]]:]
    if call[0] == BEGIN:
        return lexicon.begin()
    if call[0] == RULE:
        return lexicon.rule(call[1], call[2], signs)
    if call[0] == WORD:
        return lexicon.word(call[1], signs)
    if call[0] == ODD:
        return lexicon.odd(call[1], call[2], signs)
    if call[0] == FORM:
        return lexicon.form(call[1], call[2])
    if call[0] == FOUND:
        return lexicon.found(signs, call[1])
    if call[0] == NEAR:
        return lexicon.near(signs, call[1])
    return lexicon.check(signs, call[1])
