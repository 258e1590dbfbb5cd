"""Values of every kind that may be passed where an error is described for an argument."""

from devicewindows.lines import Lines
from devicewindows.runs import Run

HUGE = 10 ** 39 + 7


def nested(depth):
    made = 5
    for step in range(depth):
        made = [made] if step % 2 else (made,)
    return made


def no_integers():
    """New values, none of them an integer."""
    return [
        True, False, None, "", "a", "1", "Run(1, 2)", " ~!\"#$&'", "x" * 100,
        [], (), [1], (1, 2), [1, 2], [[1, 2], [3]], ("read", 1), (None, True, "a"), nested(6), [0] * 300,
        Run(1, 2), [Run(1, 2)], (Run(0, 1), Lines([0, 0])), Lines([1, 2]),
    ]


def no_runs():
    """New values, none of them a run."""
    return [0, 1, -1, HUGE, -HUGE] + [value for value in no_integers() if not isinstance(value, Run)]
