"""Texts of SETUPs and of EVENTs, written and read."""

from frontjobs.errors import BadQuestion, BadText
from frontjobs.events import KIND_WORDS, JOB_WORDS, LONE_WORDS, is_event
from frontjobs.setups import MOST_KINDS, SCRIPTS, are_rules, is_kind, is_script, need_setup

MOST_NUMBER = 999
MOST_FIGURES = 3
FIGURES = "0123456789"


def line_text(word, words):
    """A line: a word, and others behind it."""
    return " ".join([word] + list(words))


def setup_text(setup):
    """The text of the SETUP."""
    kinds, rules, shell = need_setup(setup)
    lines = [line_text("kind", kind) for kind in kinds]
    lines.append(line_text("rules", rules))
    lines.extend([line_text(word, script) for word, script in zip(SCRIPTS, shell)])
    return "\n".join(lines)


def words_behind(line, word):
    """The tuple of the words behind this first word of a line; None if it has another first word."""
    words = line.split(" ")
    if words[0] != word:
        return None
    return tuple(words[1:])


def kinds_in(lines):
    """The KINDs that the first lines tell."""
    kinds = []
    for line in lines[:MOST_KINDS]:
        kind = words_behind(line, "kind")
        if not is_kind(kind):
            break
        kinds.append(kind)
    return tuple(kinds)


def need_line(lines, at, word, check):
    """The words behind this first word of the line with this number, of which the check holds; BadText of others."""
    words = words_behind(lines[at], word) if at < len(lines) else None
    if not check(words):
        raise BadText(at)
    return words


def read_setup(string):
    """The SETUP that a text tells; BadText of anything else."""
    if not isinstance(string, str):
        raise BadText(None)
    lines = string.split("\n")
    kinds = kinds_in(lines)
    at = len(kinds)
    if at == 0:
        raise BadText(0)
    rules = need_line(lines, at, "rules", are_rules)
    shell = []
    for word in SCRIPTS:
        at += 1
        shell.append(need_line(lines, at, word, is_script))
    if at + 1 < len(lines):
        raise BadText(at + 1)
    return (kinds, rules, tuple(shell))


def is_short_event(thing):
    """Whether anything is an EVENT by its form, with a number that may stand in a text."""
    return is_event(thing) and (len(thing) == 1 or 0 <= thing[1] <= MOST_NUMBER)


def play_text(play):
    """The text of a tuple of EVENTs; BadQuestion of anything else."""
    if not isinstance(play, tuple) or not all([is_short_event(event) for event in play]):
        raise BadQuestion("no tuple of EVENTs")
    return ", ".join([" ".join([str(part) for part in event]) for event in play])


def read_number(text):
    """The number that a text tells: one to three figures without a needless 0; None if it tells none."""
    if not 1 <= len(text) <= MOST_FIGURES or not all([sign in FIGURES for sign in text]):
        return None
    if len(text) > 1 and text[0] == "0":
        return None
    return int(text)


def read_event(text):
    """The EVENT that a text tells, or None if it tells none."""
    if text in LONE_WORDS:
        return (text,)
    word, space, rest = text.partition(" ")
    number = read_number(rest)
    if word not in KIND_WORDS + JOB_WORDS or number is None:
        return None
    return (word, number)


def read_play(string):
    """The tuple of EVENTs that a text tells; BadText of anything else."""
    if not isinstance(string, str):
        raise BadText(None)
    events = []
    pieces = string.split(", ") if string else []
    for at, piece in enumerate(pieces):
        event = read_event(piece)
        if event is None:
            raise BadText(at)
        events.append(event)
    return tuple(events)
