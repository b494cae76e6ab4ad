"""The interface: a list of calls, handed in and answered as whole numbers."""

from lockedgoals.checks import check_existence, check_limits, check_sizes
from lockedgoals.model import Process
from lockedgoals.operations import carry_out
from lockedgoals.refusals import DoesNotExist, NoProcess, NothingThere, OutsideLimits, StateIsFull

# By call number: the call's name, then the names of its arguments in the order in which they come.
CALLS = (
    ("create", "state_count", "goal_count"),
    ("add_action", "state", "parameters"),
    ("remove_action", "state", "action"),
    ("set_goal_change", "state", "action", "change"),
    ("set_lock", "state", "action", "flag"),
    ("chosen_action", "state", "goal", "locked", "steps"),
    ("value", "evaluator", "state", "goal", "locked", "steps"),
    ("ideal_value", "evaluator", "state", "steps"),
    ("change_cost", "goal", "other", "state", "locked", "steps"),
    ("change_costs", "goal", "state", "locked", "steps"),
    ("nearest_goal", "goal", "state", "locked", "steps"),
    ("welcome_goals", "goal", "state", "locked", "steps"),
    ("lock_value", "goal", "state", "steps"),
    ("locking_states", "goal", "steps"),
    ("naive_action", "goal", "state", "steps"),
    ("naive_value", "evaluator", "state", "goal", "locked", "steps"),
    ("naive_loss", "state", "goal", "locked", "steps"),
    ("has_twin", "state", "action"),
    ("actions_without_twin",),
    ("add_twins", "state"),
    ("change_loss", "goal", "state", "steps"),
    ("same_choices", "goal", "other", "steps"),
)


class Session:
    """The object that the calls of one list are made on."""

    def __init__(self):
        self.process = None


def answers(calls):
    """The answers to all calls, each with how many numbers it has before it."""
    session = Session()
    numbers = []
    for call in read_calls(calls):
        answer = answer_to(session, call)
        numbers.append(len(answer))
        numbers.extend(answer)
    return numbers


def read_calls(calls):
    """The calls as dicts from argument names to what is handed in for them."""
    found = []
    place = 0
    while place < len(calls):
        names = CALLS[calls[place]]
        call = {"name": names[0]}
        place += 1
        for name in names[1:]:
            if name == "parameters":
                start = place + 1
                place = start + calls[place]
                call[name] = calls[start:place]
            else:
                call[name] = calls[place]
                place += 1
        found.append(call)
    return found


def answer_to(session, call):
    """What the call answers, be it a refusal."""
    try:
        return result_of(session, call)
    except NoProcess:
        return [-11]
    except DoesNotExist:
        return [-2]
    except OutsideLimits:
        return [-22]
    except StateIsFull:
        return [-28]
    except NothingThere:
        return [-33]


def result_of(session, call):
    """What the call answers if it isn't refused."""
    if call["name"] == "create":
        check_sizes(call)
        session.process = Process(call["state_count"], call["goal_count"])
        return [0]
    if session.process is None:
        raise NoProcess()
    check_existence(session.process, call)
    check_limits(session.process, call)
    return carry_out(session.process, call)
