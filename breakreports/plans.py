"""Plain steps by which a small machine tells a report's lines."""

from breakreports.errors import BadPlan, BadSize
from breakreports.lines import foot_lines
from breakreports.reports import (
    DETAIL, FIELDS, HEADS, KEYS, TESTS, check_report, check_rows, holds, is_number, row_key,
)

MOST_STEPS = 80
MOST_DONE = 5000

# What stands behind each word of a step; "deep" is a level from 1 on.
FORMS = {
    "next": ("goal",),
    "test": ("test", "goal"),
    "same": ("deep", "goal"),
    "first": ("goal",),
    "go": ("goal",),
    "keep": (),
    "add": (),
    "begin": ("level",),
    "row": (),
    "head": ("level",),
    "foot": ("level",),
    "end": (),
}
WORDS_OF_ROWS = ("test", "same", "keep", "add", "row")


def step_bounds(report, plan):
    """Tell from where to where the numbers in the plan's steps may go."""
    last = len(report[KEYS])
    return {
        "goal": (0, len(plan) - 1),
        "test": (0, len(report[TESTS]) - 1),
        "deep": (1, last),
        "level": (0, last),
    }


def is_step(thing, bounds):
    """Tell whether it is a step whose numbers are within the bounds."""
    if not isinstance(thing, tuple) or not thing:
        return False
    word = thing[0]
    if not isinstance(word, str) or word not in FORMS or len(thing) != len(FORMS[word]) + 1:
        return False
    for kind, number in zip(FORMS[word], thing[1:]):
        least, most = bounds[kind]
        if not is_number(number, least, most):
            return False
    return True


def check_plan(report, plan):
    """Refuse what is no plan for the report."""
    if not isinstance(plan, tuple):
        raise BadPlan(0)
    bounds = step_bounds(report, plan)
    for number, step in enumerate(plan):
        if number >= MOST_STEPS or not is_step(step, bounds):
            raise BadPlan(number)


class Machine:
    """What there is while a plan's steps are done: a row taken, keys kept, rows added, lines told."""

    def __init__(self, report, rows):
        self.report = report
        self.rows = rows
        # The number of the row taken; below 0 there is none.
        self.taken = -1
        # None is not (): the keys of a report without any may be kept too.
        self.kept = None
        self.added = [[] for head in report[HEADS]]
        self.told = []

    def take_next(self):
        """Take the next row, and tell whether there was one."""
        if self.taken + 1 >= len(self.rows):
            return False
        self.taken += 1
        return True

    def taken_key(self):
        """Tell the keys of the row taken."""
        return row_key(self.rows[self.taken], self.report[KEYS])

    def kept_key(self, level):
        """Tell the first so many of the kept keys."""
        return () if self.kept is None else self.kept[:level]

    def goes(self, step):
        """Do a step that has a goal, and tell whether the machine goes there."""
        word = step[0]
        if word == "next":
            return not self.take_next()
        if word == "test":
            field, tested, number = self.report[TESTS][step[1]]
            return not holds(self.rows[self.taken][field], tested, number)
        if word == "same":
            # Its level is 1 or more, so that the empty key, where none is kept, is never the same.
            return self.taken_key()[:step[1]] == self.kept_key(step[1])
        if word == "first":
            return self.kept is None
        return True

    def does(self, step):
        """Do a step that has no goal."""
        word = step[0]
        if word == "keep":
            self.kept = self.taken_key()
        elif word == "add":
            for level in range(len(self.added)):
                self.added[level].append(self.rows[self.taken])
        elif word == "row":
            self.told.append(("row", self.taken))
        elif word == "begin":
            self.added[step[1]] = []
        else:
            self.tells(word, step[1])

    def tells(self, word, level):
        """Tell the level's head or foot."""
        key = self.kept_key(level)
        if word == "head":
            self.told.append(("head", level, key))
        else:
            self.told.extend(foot_lines(self.report, level, key, self.added[level]))

    def place_behind(self, step, place):
        """Do the step of this place, and tell the place of the one that is done behind it."""
        if "goal" not in FORMS[step[0]]:
            self.does(step)
        elif self.goes(step):
            return step[-1]
        return place + 1


def done(report, plan, rows, most):
    """Do at most so many of the plan's steps, and tell (lines, how it ended)."""
    check_report(report)
    check_plan(report, plan)
    check_rows(rows, report[FIELDS])
    if not is_number(most, 0, MOST_DONE):
        raise BadSize("from 0 to 5000 steps are done")
    machine = Machine(report, rows)
    place = 0
    for turn in range(most):
        if place >= len(plan):
            return (machine.told, "behind")
        step = plan[place]
        if step[0] == "end":
            return (machine.told, "end")
        if step[0] in WORDS_OF_ROWS and machine.taken < 0:
            return (machine.told, "none")
        place = machine.place_behind(step, place)
    return (machine.told, "")


def head_steps(report, level):
    """Tell the step of the level's head, none if the report has no head there."""
    return [("head", level)] if report[HEADS][level] else []


def turn_steps(last):
    """Tell the steps that find how deep the keys turn, and tell the feet of all groups that end."""
    steps = [("first", "level 1")]
    for level in range(last, 0, -1):
        steps.extend([("same", level, f"level {level + 1}"), ("foot", level)])
    return steps


def plan_pieces(report):
    """Tell the plan in pieces (name, steps), goals told by the names of the pieces."""
    last = len(report[KEYS])
    pieces = [
        ("start", head_steps(report, 0)),
        ("take", [("next", "close")] + [("test", number, "take") for number in range(len(report[TESTS]))]),
        ("turn", turn_steps(last)),
    ]
    for level in range(1, last + 1):
        # Each level keeps the keys anew, since a turn may begin at any of them.
        pieces.append((f"level {level}", [("keep",), ("begin", level)] + head_steps(report, level)))
    row_steps = [("row",)] if report[DETAIL] else []
    # A row without a turn comes to what stands behind the last level.
    pieces.append((f"level {last + 1}", [("add",)] + row_steps + [("go", "take")]))
    pieces.append(("close", [("first", "stop")] + [("foot", level) for level in range(last, 0, -1)]))
    pieces.append(("stop", [("foot", 0), ("end",)]))
    return pieces


def placed_step(step, places):
    """Tell the step with its goal, if it has one, by the place of the piece that it names."""
    return step[:-1] + (places[step[-1]],) if "goal" in FORMS[step[0]] else step


def plain(report):
    """Tell a plan by which the machine tells the report's lines."""
    check_report(report)
    places = {}
    steps = []
    for name, piece in plan_pieces(report):
        places[name] = len(steps)
        steps.extend(piece)
    return tuple([placed_step(step, places) for step in steps])
