"""Programs: steps that make columns, and what they make of a table."""

from aheadsums.basics import is_count, is_list, need_columns, need_like_columns
from aheadsums.errors import InvalidOthers, InvalidProgram, InvalidSteps, TooMany
from aheadsums.ratios import Ratio, as_ratio, is_number
from aheadsums.tables import need_table

MOST_STEPS = 200
OF_TWO_STEPS = ("sum", "less", "times")
OF_ONE_STEP = ("ahead", "behind")
MIRRORED_WORDS = {"ahead": "behind", "behind": "ahead"}


class Program:
    """1 to 200 steps for tables of some columns; it never changes."""

    def __init__(self, columns, steps):
        need_columns(columns)
        if not are_steps(columns, steps):
            raise InvalidSteps(steps)
        self._columns = columns
        self._steps = [_kept(step) for step in steps]

    @property
    def columns(self):
        """How many columns the tables have that it is for."""
        return self._columns

    def steps(self):
        """The list of the steps, tuples, the numbers of "told" as Ratios."""
        return list(self._steps)

    def __eq__(self, other):
        return isinstance(other, Program) and self._columns == other._columns and self._steps == other._steps


def is_step(columns, at, value):
    """Whether any value is a step at this position of a program for so many columns."""
    if not isinstance(value, tuple) or len(value) < 2 or not isinstance(value[0], str):
        return False
    word, parts = value[0], value[1:]
    if word == "told":
        return len(parts) == 1 and is_number(parts[0])
    if word == "column":
        return len(parts) == 1 and _are_counts_below(parts, columns)
    if word in OF_ONE_STEP:
        return len(parts) == 1 and _are_counts_below(parts, at)
    return word in OF_TWO_STEPS and len(parts) == 2 and _are_counts_below(parts, at)


def _are_counts_below(values, bound):
    return all([is_count(value) and value < bound for value in values])


def are_steps(columns, value):
    """Whether any value is a list of the steps of a program for so many columns."""
    if not is_list(value) or len(value) < 1 or len(value) > MOST_STEPS:
        return False
    return all([is_step(columns, at, step) for at, step in enumerate(value)])


def _kept(step):
    if step[0] == "told":
        return ("told", as_ratio(step[1]))
    return step


def need_program(program):
    """InvalidProgram unless a Program."""
    if not isinstance(program, Program):
        raise InvalidProgram(program)


def _places(step):
    """The positions of the steps whose columns a step takes."""
    if step[0] == "column" or step[0] == "told":
        return ()
    return step[1:]


def results(program, table):
    """The list of the result of each row."""
    _need_both(program, table)
    steps = program.steps()
    return _made_by(steps, _needed(steps), table)[-1]


def all_results(program, table):
    """For each step the list of what it made at each row."""
    _need_both(program, table)
    steps = program.steps()
    return _made_by(steps, [True for step in steps], table)


def total(program, table):
    """The sum of the results of all rows."""
    return Ratio.total(results(program, table))


def _need_both(program, table):
    need_program(program)
    need_table(table)
    need_like_columns(program, table)


def _needed(steps):
    """For each step whether the last one hangs on it: what other ones make may be far too long to work out."""
    needed = [False for step in steps]
    needed[-1] = True
    for at in reversed(range(len(steps))):
        if needed[at]:
            for place in _places(steps[at]):
                needed[place] = True
    return needed


def _made_by(steps, needed, table):
    """For each needed step what it makes of the table, [] for the others."""
    rows = table.rows()
    made = []
    for step, is_needed in zip(steps, needed):
        made.append(_made(step, rows, made) if is_needed else [])
    return made


def _made(step, rows, made):
    """What a step makes at each row, out of what the steps ahead of it made."""
    word = step[0]
    if word == "column":
        return [row[step[1]] for row in rows]
    if word == "told":
        return [step[1] for row in rows]
    if word == "ahead":
        return _summed_ahead(made[step[1]])
    if word == "behind":
        return _summed_ahead(made[step[1]][::-1])[::-1]
    return [_put_together(word, one, two) for one, two in zip(made[step[1]], made[step[2]])]


def _summed_ahead(numbers):
    sums = []
    so_far = Ratio(0)
    for number in numbers:
        sums.append(so_far)
        so_far = so_far + number
    return sums


def _put_together(word, one, two):
    if word == "sum":
        return one + two
    if word == "less":
        return one - two
    return one * two


def mirrored(program):
    """The program with "behind" in the place of each "ahead", and the other way round."""
    need_program(program)
    steps = [(MIRRORED_WORDS.get(step[0], step[0]),) + step[1:] for step in program.steps()]
    return Program(program.columns, steps)


def put_into(program, columns, others):
    """The program over the columns that the other programs, for so many columns, make."""
    need_program(program)
    need_columns(columns)
    if not _are_others(others, columns, program.columns):
        raise InvalidOthers(others)
    steps, lasts = _behind_one_another(others)
    led = []
    for step in program.steps():
        if step[0] == "column":
            led.append(lasts[step[1]])
        else:
            steps.append(_led(step, led))
            led.append(len(steps) - 1)
    if program.steps()[-1][0] == "column":
        steps.append(("told", Ratio(0)))
        steps.append(("sum", led[-1], len(steps) - 1))
    if len(steps) > MOST_STEPS:
        raise TooMany("steps", MOST_STEPS)
    return Program(columns, steps)


def _are_others(value, columns, many):
    if not is_list(value) or len(value) != many:
        return False
    return all([isinstance(other, Program) and other.columns == columns for other in value])


def _behind_one_another(programs):
    """The steps of programs, one behind the other, and the positions of the last ones of each."""
    steps, lasts = [], []
    for program in programs:
        led = []
        for step in program.steps():
            steps.append(_led(step, led))
            led.append(len(steps) - 1)
        lasts.append(led[-1])
    return steps, lasts


def _led(step, led):
    """The step with each place led to where it stands now."""
    if not _places(step):
        return step
    return (step[0],) + tuple([led[place] for place in _places(step)])
