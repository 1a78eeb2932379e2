"""The desk, which answers rows of words."""

from stephall.calls import calls_of, waits_of
from stephall.checks import are_figures, short_number
from stephall.errors import NoRow, NotSo
from stephall.figures import dialled
from stephall.halls import AT_SEEKERS
from stephall.kept import Keeper
from stephall.plans import read_plan

# The word for the seekers; no group's prefix is written so.
SEEKERS_WORD = "-"
NONE_WORD = "none"

# What stands behind the first word of each row.
ROWS = {
    "lift": ("LINE",),
    "hang": ("LINE",),
    "pulse": ("LINE",),
    "gap": ("LINE",),
    "stick": ("WHERE", "K"),
    "mend": ("WHERE", "K"),
    "dial": ("LINE", "FIGURES"),
    "way": ("LINE",),
    "figures": ("LINE",),
    "other": ("LINE",),
    "holds": ("LINE",),
    "why": ("LINE",),
    "paper": ("WHERE",),
    "shares": ("WHERE",),
    "waiting": (),
    "steps": (),
    "back": (),
    "again": (),
    "calls": (),
    "waits": (),
}


def read_words(row):
    """The words of a row that is listed, or NoRow."""
    if not isinstance(row, str):
        raise NoRow("a row is a text")
    words = row.split(" ")
    if words[0] not in ROWS:
        raise NoRow(f"no row begins with {words[0]!r}")
    kinds = ROWS[words[0]]
    if len(words) != 1 + len(kinds) or "" in words:
        raise NoRow(f"a row {words[0]!r} has {1 + len(kinds)} words with one blank between each two")
    for kind, word in zip(kinds, words[1:]):
        check_word(kind, word)
    return words


def check_word(kind, word):
    """NoRow where a word is not of its kind."""
    if kind == "K" and short_number(word) is None:
        raise NoRow(f"{word!r} is no number of one or two figures")
    if kind == "FIGURES" and not are_figures(word):
        raise NoRow(f"{word!r} holds what is no figure")


def where_of(word):
    """The where that a word tells."""
    return AT_SEEKERS if word == SEEKERS_WORD else word


def parts_of(things):
    """The things as words; in the place of a tuple within stand its own parts."""
    words = []
    for thing in things:
        if isinstance(thing, tuple):
            words.extend(parts_of(thing))
        else:
            words.append(str(thing))
    return words


def written(things):
    """The things as words with blanks between, `none` where there are none."""
    return " ".join(parts_of(things)) if things else NONE_WORD


def written_comes(answer):
    """What comes of deeds, `ok` where nothing does."""
    return "; ".join([written(come) for come in answer]) if answer else "ok"


def written_rows(rows):
    """Calls or waits, `none` where there are none."""
    if not rows:
        return NONE_WORD
    return "; ".join([written([dashed(part) for part in row]) for row in rows])


def dashed(part):
    """A part of a call or of a wait, `-` for None and for figures that are none."""
    return "-" if part is None or part == "" else part


def deed_at_line(keeper, words):
    """Answers `lift`, `hang`, `pulse` and `gap`."""
    return written_comes(keeper.do((words[0], words[1])))


def deed_at_switch(keeper, words):
    """Answers `stick` and `mend`."""
    return written_comes(keeper.do((words[0], where_of(words[1]), int(words[2]))))


def dial(keeper, words):
    """Answers `dial`: the deeds that dial the figures, as long as the line dials, or NoLine, then NotSo."""
    line = words[1]
    if keeper.own_hall.way(line) != "dials":
        raise NotSo(f"line {line!r} does not dial")
    comes = []
    for deed in dialled(line, words[2]):
        if keeper.own_hall.way(line) != "dials":
            break
        comes.extend(keeper.do(deed))
    return written_comes(comes)


def ask_way(keeper, words):
    """Answers `way`."""
    return keeper.own_hall.way(words[1])


def ask_figures(keeper, words):
    """Answers `figures`."""
    return keeper.own_hall.figures(words[1]) or NONE_WORD


def ask_other(keeper, words):
    """Answers `other`."""
    return keeper.own_hall.other(words[1]) or NONE_WORD


def ask_holds(keeper, words):
    """Answers `holds`."""
    pairs = keeper.own_hall.holds(words[1])
    return written([f"{where or SEEKERS_WORD}:{k}" for where, k in pairs])


def ask_why(keeper, words):
    """Answers `why`."""
    return written(keeper.own_hall.told_paper(words[1]))


def ask_paper(keeper, words):
    """Answers `paper`."""
    return written(keeper.own_hall.paper(where_of(words[1])))


def ask_shares(keeper, words):
    """Answers `shares`."""
    return written(keeper.own_hall.shares(where_of(words[1])))


def ask_waiting(keeper, words):
    """Answers `waiting`."""
    return written(keeper.own_hall.waiting())


def ask_steps(keeper, words):
    """Answers `steps`."""
    return written(keeper.own_hall.steps())


def take_back(keeper, words):
    """Answers `back`, or NothingLeft."""
    keeper.back()
    return "ok"


def do_again(keeper, words):
    """Answers `again`, or NothingLeft."""
    return written_comes(keeper.again())


def ask_calls(keeper, words):
    """Answers `calls`."""
    return written_rows(calls_of(keeper.plan, keeper.deeds()))


def ask_waits(keeper, words):
    """Answers `waits`."""
    return written_rows(waits_of(keeper.plan, keeper.deeds()))


# By which function each row is answered; all of them take the keeper and the row's words.
ANSWERS = {
    "lift": deed_at_line,
    "hang": deed_at_line,
    "pulse": deed_at_line,
    "gap": deed_at_line,
    "stick": deed_at_switch,
    "mend": deed_at_switch,
    "dial": dial,
    "way": ask_way,
    "figures": ask_figures,
    "other": ask_other,
    "holds": ask_holds,
    "why": ask_why,
    "paper": ask_paper,
    "shares": ask_shares,
    "waiting": ask_waiting,
    "steps": ask_steps,
    "back": take_back,
    "again": do_again,
    "calls": ask_calls,
    "waits": ask_waits,
}


class Desk:
    """A keeper of a plan that is told by a text, asked and led by rows."""

    def __init__(self, text):
        self.keeper = Keeper(read_plan(text))

    def say(self, row):
        """The answer to a row, or NoRow, or refused as the hall or the keeper does."""
        words = read_words(row)
        answer = ANSWERS[words[0]]
        return answer(self.keeper, words)
