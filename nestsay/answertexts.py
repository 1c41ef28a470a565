"""Answers as texts."""

from nestsay.answers import MOST_ROWS
from nestsay.checks import is_number
from nestsay.errors import BadAnswer
from nestsay.forests import is_forest
from nestsay.foresttexts import forest_in, forest_text
from nestsay.papertexts import fits_paper, paper_in, paper_text
from nestsay.words import Words
from nestsay.worlds import made_world, rooms_in

ANSWERS = ("yes", "no")
NUMBERS = ("0", "1", "2", "3", "4", "5", "6", "7")


def read_answer(world, text):
    """The answer about the things of the world that the text tells."""
    made_world(world)
    words = Words(text)
    told = words.pick(ANSWERS)
    sign = words.pick((":",) + NUMBERS)
    if sign == ":":
        return (told, _papers_in(words, world))
    words.pick((":",))
    return (told, int(sign), forest_in(words, world))


def print_answer(world, answer):
    """The text of an answer about the things of the world."""
    made_world(world)
    if not _fits_answer(rooms_in(world), answer):
        raise BadAnswer(0)
    return answer_text(world, answer)


def answer_text(world, answer):
    """The same as print_answer, of what is known to be a world and an answer."""
    if len(answer) == 3:
        word, index, forest = answer
        return f"{word} {index}: {forest_text(world, forest)}"
    word, papers = answer
    return word + ": " + " & ".join([paper_text(world, paper) for paper in papers])


def _papers_in(words, world):
    papers = []
    while not papers or words.word() == "&":
        if papers:
            words.skip()
        ends = ("&", "") if len(papers) < MOST_ROWS - 1 else ("",)
        papers.append(paper_in(words, world, ends))
    return tuple(papers)


def _fits_answer(rooms, answer):
    if not isinstance(answer, tuple) or len(answer) not in (2, 3) or answer[0] not in ANSWERS:
        return False
    if len(answer) == 3:
        return is_number(answer[1]) and 0 <= answer[1] < MOST_ROWS and is_forest(rooms, answer[2])
    return _are_papers(rooms, answer[1])


def _are_papers(rooms, papers):
    if not isinstance(papers, tuple) or not 1 <= len(papers) <= MOST_ROWS:
        return False
    for paper in papers:
        if not fits_paper(rooms, paper):
            return False
    return True
