"""Plans of an exchange, and how they are written and read."""

from stephall.checks import are_figures, short_number, within
from stephall.errors import BadPlan, NoText

LEAST_LONG = 2
MOST_LONG = 4
MOST_LINES = 60
MOST_SEEKERS = 60
MOST_GROUPS = 40
MOST_SWITCHES = 10

# The kinds of rows, and how many words each has.
WORDS = {"long": 2, "seekers": 2, "line": 2, "group": 3}


class Plan:
    """How long numbers are, which lines there are, how many seekers, and which groups."""

    def __init__(self, long, lines, seekers, groups):
        # long is checked first, since lines and groups are measured by it.
        check_counts(long, seekers)
        check_lines(long, lines)
        check_groups(long, groups)
        self.long = long
        self.lines = tuple(sorted(lines))
        self.seekers = seekers
        self.groups = tuple(sorted(groups))


def check_counts(long, seekers):
    """BadPlan where long or seekers is out of bounds."""
    if not within(long, LEAST_LONG, MOST_LONG):
        raise BadPlan("numbers of lines have 2 to 4 figures")
    if not within(seekers, 1, MOST_SEEKERS):
        raise BadPlan("there are 1 to 60 seekers")


def check_lines(long, lines):
    """BadPlan where these are no lines of a plan."""
    if not within(len(lines), 1, MOST_LINES):
        raise BadPlan("there are 1 to 60 lines")
    for number in lines:
        if len(number) != long or not are_figures(number):
            raise BadPlan(f"{number!r} is no number of {long} figures")
    if len(set(lines)) != len(lines):
        raise BadPlan("a line is told twice")


def check_groups(long, groups):
    """BadPlan where these are no groups of a plan."""
    if len(groups) > MOST_GROUPS:
        raise BadPlan("there are 0 to 40 groups")
    for prefix, many in groups:
        if not within(len(prefix), 1, long - 2) or not are_figures(prefix):
            raise BadPlan(f"{prefix!r} is no prefix where numbers have {long} figures")
        if not within(many, 0, MOST_SWITCHES):
            raise BadPlan("a group has 0 to 10 switches")
    if len({prefix for prefix, many in groups}) != len(groups):
        raise BadPlan("a group is told twice")


def plan_text(plan):
    """A plan written as rows."""
    rows = [f"long {plan.long}", f"seekers {plan.seekers}"]
    rows.extend([f"line {number}" for number in plan.lines])
    rows.extend([f"group {prefix} {many}" for prefix, many in plan.groups])
    return "\n".join(rows)


def read_plan(text):
    """The plan that a text tells, or NoText, then BadPlan."""
    told = {kind: [] for kind in WORDS}
    for row in text.split("\n"):
        words = row.split(" ")
        check_row(words)
        told[words[0]].append(read_row(words))
    if len(told["long"]) != 1 or len(told["seekers"]) != 1:
        raise NoText("long and seekers are told once each")
    # Only now, so that a text with any wrong row is refused as a text.
    return Plan(told["long"][0], told["line"], told["seekers"][0], told["group"])


def check_row(words):
    """NoText where a row is of none of the four kinds, or has not that kind's words."""
    kind = words[0]
    if kind not in WORDS:
        raise NoText(f"no row begins with {kind!r}")
    if len(words) != WORDS[kind] or "" in words:
        raise NoText(f"a row {kind!r} has {WORDS[kind]} words with one blank between each two")


def read_row(words):
    """What a row tells behind its first word, or NoText."""
    if words[0] == "line":
        return words[1]
    if words[0] == "group":
        return (words[1], read_number(words[2]))
    return read_number(words[1])


def read_number(word):
    """The number that a word tells, or NoText."""
    number = short_number(word)
    if number is None:
        raise NoText(f"{word!r} is no number of one or two figures")
    return number
