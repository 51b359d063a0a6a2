"""What runs by names and machines have in common: the table of instructions."""

from romwright.units import OPS

# What a call from afar cannot do.
NOT_AFAR = ("ask", "far", "save", "confirm", "halt")


class Stepper:
    """A run by names or by words; what differs is told by the methods of the classes under it."""

    def __init__(self, wants, place, words, afar):
        self.kind = "runs"
        self.reason = None
        self.place = place
        self.steps = 0
        self.prints = []
        # The places of the instructions that printed.
        self.printed = []
        self.wants = wants
        self.pile = list(words)
        self.backs = []
        # What a run that rests as far has asked for.
        self.wanted = None
        self.afar = afar


def fault(run, reason):
    run.kind = "fault"
    run.reason = reason


def stepped(run):
    """Does one step if the run runs; its kind."""
    if run.kind == "runs":
        run.advance()
    return run.kind


def went(run, steps):
    """Does at most so many steps, as long as the run runs; its kind."""
    for _ in range(steps):
        if run.kind != "runs":
            break
        run.advance()
    return run.kind


def given(run, words):
    """Gives a run what it rests for."""
    run.pile.extend(words)
    run.wanted = None
    run.kind = "runs"


def perform(run, op, operand, behind):
    """Does an instruction that has been found; where it hangs, the stack stays as it is."""
    takes, leaves = run.wants[operand][2:] if op == "far" else OPS[op]
    if len(run.pile) < takes:
        fault(run, "few")
    elif len(run.pile) - takes + leaves > 64:
        fault(run, "many")
    elif run.afar and op in NOT_AFAR:
        fault(run, "now")
    else:
        action = ACTIONS[op]
        action(run, op, operand, behind)


def do_push(run, op, operand, behind):
    run.pile.append(operand)
    run.place = behind


def do_shuffle(run, op, operand, behind):
    pile = run.pile
    if op == "dup":
        pile.append(pile[-1])
    elif op == "drop":
        pile.pop()
    elif op == "over":
        pile.append(pile[-2])
    else:
        pile[-2:] = [pile[-1], pile[-2]]
    run.place = behind


def do_pair(run, op, operand, behind):
    result = run.combine(op, run.pile[-2], run.pile[-1])
    if result is None:
        run.kind = "hangs"
        return
    run.pile[-2:] = [result]
    run.place = behind


def do_load(run, op, operand, behind):
    result = run.read_cell(run.pile[-1])
    if result is not None:
        run.pile[-1] = result
        run.place = behind


def do_store(run, op, operand, behind):
    if run.write_cell(run.pile[-1], run.pile[-2]):
        del run.pile[-2:]
        run.place = behind


def do_go(run, op, operand, behind):
    run.place = operand


def do_unless(run, op, operand, behind):
    zero = run.is_zero(run.pile[-1])
    if zero is None and operand != behind:
        run.kind = "hangs"
        return
    run.pile.pop()
    run.place = operand if zero else behind


def do_call(run, op, operand, behind):
    if len(run.backs) >= 32:
        fault(run, "deep")
        return
    run.backs.append(behind)
    run.place = operand


def do_ret(run, op, operand, behind):
    if len(run.backs) > 0:
        run.place = run.backs.pop()
    else:
        run.kind = "back" if run.afar else "done"


def do_out(run, op, operand, behind):
    if isinstance(run.pile[-1], tuple):
        run.kind = "hangs"
        return
    run.prints.append(run.pile.pop())
    run.printed.append(run.place)
    run.place = behind


def do_ask(run, op, operand, behind):
    run.kind = "asks"
    run.place = behind


def do_far(run, op, operand, behind):
    peer, name, takes, leaves = run.wants[operand]
    at = len(run.pile) - takes
    words = tuple(run.pile[at:])
    if any([isinstance(word, tuple) for word in words]):
        run.kind = "hangs"
        return
    del run.pile[at:]
    run.wanted = (peer, name, words, leaves)
    run.kind = "far"
    run.place = behind


def do_bring(run, op, operand, behind):
    run.bring_part(operand)
    run.place = behind


def do_save(run, op, operand, behind):
    if any([isinstance(word, tuple) for _, word in run.kept_cells()]):
        run.kind = "hangs"
        return
    run.kind = "saves"
    run.place = behind


def do_confirm(run, op, operand, behind):
    run.kind = "confirms"
    run.place = behind


def do_halt(run, op, operand, behind):
    run.kind = "done"


ACTIONS = {
    "push": do_push, "name": do_push, "dup": do_shuffle, "drop": do_shuffle, "swap": do_shuffle,
    "over": do_shuffle, "add": do_pair, "sub": do_pair, "mul": do_pair, "less": do_pair, "same": do_pair,
    "load": do_load, "store": do_store, "go": do_go, "unless": do_unless, "call": do_call, "ret": do_ret,
    "out": do_out, "ask": do_ask, "far": do_far, "bring": do_bring, "save": do_save, "confirm": do_confirm,
    "halt": do_halt,
}
