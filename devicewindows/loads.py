"""How many pages of a space can be given away safely.

A state is a tuple (runs, mark): the ascending tuple of (first page, pages asked for) of the runs that are not given
back, and the mark of "next", 0 for all other policies.
"""

from devicewindows.errors import BadPolicy
from devicewindows.spaces import POLICIES, answer_of, holes_of, size_of

_START = ((), 0)


def safe_load(pages, *, policy, greatest):
    """The safe load of a policy, the states that it leads to, and the first steps behind it that are refused."""
    if policy not in POLICIES:
        raise BadPolicy("a policy is one of the five words")
    load = 0
    states = [_START]
    while load < pages:
        more, refused = _explored(pages, policy, greatest, load + 1)
        if refused is not None:
            return load, states, refused
        load += 1
        states = more
    return load, states, None


def _explored(pages, policy, greatest, most):
    """The ascending states with a load of at most `most`, and None; or no states, and the first refused steps."""
    # For each state, the first steps that lead to it. Lists are found in their order, shorter ones first.
    lists = {_START: []}
    states = [_START]
    at = 0
    while at < len(states):
        steps = lists[states[at]]
        for step in _steps(states[at], greatest, most):
            state = _after(states[at], step, policy, pages)
            if state is None:
                return [], steps + [step]
            if state not in lists:
                lists[state] = steps + [step]
                states.append(state)
        at += 1
    return sorted(states), None


def _steps(state, greatest, most):
    """The ascending list of the steps that may be tried next."""
    runs, _ = state
    left = most - sum([many for _, many in runs])
    backs = [("back", first) for first, _ in runs]
    return backs + [("take", many) for many in range(1, min(greatest, left) + 1)]


def _after(state, step, policy, pages):
    """The state behind a step, None if it is refused."""
    runs, mark = state
    word, number = step
    if word == "back":
        return tuple([run for run in runs if run[0] != number]), mark
    taken = {first: size_of(policy, many) for first, many in runs}
    answer = answer_of(policy, holes_of(taken, pages), number, mark)
    if answer is None:
        return None
    return tuple(sorted([*runs, (answer.first, number)])), answer.end if policy == "next" else 0
