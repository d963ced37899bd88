"""Conditions: read from words, written as text, asked whether they hold.

A token is three texts: its kind, a name, a value; the name is there for a pair and a flag, the value for a pair.
The steps of a condition are its tokens without brackets, each operator behind all that it works on, so that
a loop with a stack goes through them, however deep the condition is nested.
"""

from jobways.words import is_name, is_pair, pair_of

# How close an operator binds; a bracket without its partner yet holds back all that stands before it.
RANKS = {"(": 0, "or": 1, "and": 2, "not": 3}
LOOSEST_RANK = 1
NOT_RANK = 3
SINGLE_RANK = 4
PLAIN_WORDS = ("ok", "bad", "always", "not", "and", "or", "(", ")")
BEFORE_WORDS = ("not", "(")
BETWEEN_WORDS = ("and", "or")
OK_ALONE = (("ok", "", ""),)


def tokens_of(words):
    """Give the tokens of a row of words, or None if a word can't stand in any condition."""
    tokens = []
    place = 0
    while place < len(words):
        word = words[place]
        if word in PLAIN_WORDS:
            tokens.append((word, "", ""))
        elif word == "flag" and place + 1 < len(words) and is_name(words[place + 1]):
            # The word behind flag is a name, even one like ok or not.
            place += 1
            tokens.append(("flag", words[place], ""))
        elif is_pair(word):
            pair = pair_of(word)
            tokens.append(("pair", pair[0], pair[1]))
        else:
            return None
        place += 1
    return tokens


def are_in_order(tokens):
    """Tell if conditions and what stands between them take turns, and each bracket has its partner."""
    depth = 0
    is_due = True
    for token in tokens:
        kind = token[0]
        is_behind = kind == ")" or kind in BETWEEN_WORDS
        if is_due == is_behind:
            return False
        if kind == "(":
            depth += 1
        elif kind == ")":
            depth -= 1
        if depth < 0:
            return False
        is_due = kind in BEFORE_WORDS or kind in BETWEEN_WORDS
    return depth == 0 and not is_due


def is_condition(words):
    tokens = tokens_of(words)
    return tokens is not None and are_in_order(tokens)


def release(waiting, steps, rank):
    """Move the waiting operators that bind at least as close as rank, last first, to the steps."""
    while len(waiting) > 0 and RANKS[waiting[-1][0]] >= rank:
        steps.append(waiting.pop())


def steps_of(words):
    """Give the steps of a condition, told as a row of words that is one."""
    steps = []
    waiting = []
    for token in tokens_of(words):
        kind = token[0]
        if kind in BEFORE_WORDS:
            waiting.append(token)
        elif kind in BETWEEN_WORDS:
            release(waiting, steps, RANKS[kind])
            waiting.append(token)
        elif kind == ")":
            release(waiting, steps, LOOSEST_RANK)
            waiting.pop()
        else:
            steps.append(token)
    release(waiting, steps, LOOSEST_RANK)
    return steps


def is_ok_alone(steps):
    return tuple(steps) == OK_ALONE


def flags_with(flags, steps):
    """Give the flags and behind them those that only the steps name, each once, in order."""
    named = list(flags)
    for kind, name, value in steps:
        if kind == "flag" and name not in named:
            named.append(name)
    return named


def single_text(token):
    if token[0] == "flag":
        return "flag " + token[1]
    if token[0] == "pair":
        return token[1] + "=" + token[2]
    return token[0]


def bracketed(part, rank):
    """Give the text of a part, in brackets if it binds less close than rank."""
    if part[1] < rank:
        return "(" + part[0] + ")"
    return part[0]


def condition_text(steps):
    parts = []
    for token in steps:
        kind = token[0]
        if kind == "not":
            inner = parts.pop()
            parts.append(("not " + bracketed(inner, NOT_RANK), NOT_RANK))
        elif kind in BETWEEN_WORDS:
            right = parts.pop()
            left = parts.pop()
            rank = RANKS[kind]
            # Of the same operators in a row the first are taken together, so only the right one needs brackets.
            row = bracketed(left, rank) + " " + kind + " " + bracketed(right, rank + 1)
            parts.append((row, rank))
        else:
            parts.append((single_text(token), SINGLE_RANK))
    return parts[0][0]


def single_holds(token, simple, pairs, flags_up):
    if token[0] == "flag":
        return token[1] in flags_up
    if token[0] == "pair":
        return (token[1], token[2]) in pairs
    return simple[token[0]]


def holds(steps, simple, pairs, flags_up):
    """Tell if a condition holds.

    simple tells of ok, bad and always, by these words, if they hold; pairs are the instance's; flags_up the names
    of the flags that are up.
    """
    found = []
    for token in steps:
        kind = token[0]
        if kind == "not":
            found.append(not found.pop())
        elif kind in BETWEEN_WORDS:
            right = found.pop()
            left = found.pop()
            found.append((left and right) if kind == "and" else (left or right))
        else:
            found.append(single_holds(token, simple, pairs, flags_up))
    return found[0]
