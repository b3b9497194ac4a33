"""The answers of a map room to lines."""

from lostland.claims import claim_text, read_saying
from lostland.errors import MapError, Missing, NothingLeft
from lostland.exact import fraction_text
from lostland.hands import hand
from lostland.joints import blocks, joint
from lostland.judging import judge
from lostland.points import read_point
from lostland.spare import spare
from lostland.where import where
from lostland.whole import stands
from lostland.wrong import suspects

# How many words stand behind the first word of a line; judge has one or more.
_BEHIND = {"stands": 0, "freedoms": 0, "sheets": 0, "marks": 0, "where": 2, "joint": 2, "blocks": 0,
           "hand": 1, "spare": 0, "suspects": 0, "told": 0, "undo": 0, "redo": 0, "begin": 0,
           "keep": 0, "drop": 0}


def answer_of(maproom, line):
    """The answer of a map room to a line, which may also be something to be done."""
    parts = line.split(" ")
    word, words = parts[0], parts[1:]
    if "" in words or "\n" in line or not _is_question(word, words):
        return "unknown"
    try:
        return _answer(maproom, word, words)
    except (MapError, Missing, NothingLeft) as error:
        return f"error {error.code}"


def _is_question(word, words):
    """Whether so many words may stand behind the first word of a line."""
    if word == "judge":
        return words != []
    return word in _BEHIND and len(words) == _BEHIND[word]


def _answer(maproom, word, words):
    """The answer to a line that is a question, or something to be done."""
    if word in ("undo", "redo", "begin", "keep", "drop"):
        return _answer_by_doing(maproom, word)
    if word == "judge":
        return _answer_by_judging(maproom.space(), " ".join(words))
    if words == []:
        return _answer_on_all(maproom, word)
    return _answer_on_some(maproom.space(), word, words)


def _answer_by_doing(maproom, word):
    """The answer where the history or the drafts change."""
    if word == "undo":
        maproom.undo()
    elif word == "redo":
        maproom.redo()
    elif word == "begin":
        maproom.begin()
    elif word == "keep":
        maproom.keep()
    else:
        maproom.drop()
    return "done"


def _answer_by_judging(space, text):
    """The word of the saying with a text."""
    return judge(space, read_saying(space.room, text))


def _answer_on_all(maproom, word):
    """The answer to a single word."""
    space = maproom.space()
    if word == "stands":
        return "yes" if stands(space) else "no"
    if word == "freedoms":
        return str(space.freedoms)
    if word == "sheets":
        return _text_of(space.room.names(), " ")
    if word == "marks":
        return _text_of(space.room.marks(), " ")
    if word == "blocks":
        return _text_of([" ".join(names) for names in blocks(space)], "; ")
    if word == "told":
        return _text_of([claim_text(claim) for claim in maproom.told()], "; ")
    pairs = spare(space) if word == "spare" else suspects(space)
    return _text_of([f"{name} {mark}" for name, mark in pairs], "; ")


def _answer_on_some(space, word, words):
    """The answer on sheets and points that are named."""
    if word == "hand":
        return hand(space, words[0])
    if word == "joint":
        return joint(space, words[0], words[1]).word
    spot = where(space, read_point(space.room, words[0]), on=words[1])
    return "open" if spot is None else f"{fraction_text(spot[0])} {fraction_text(spot[1])}"


def _text_of(parts, between):
    """The parts with a text between them, or none."""
    return "none" if parts == [] else between.join(parts)
