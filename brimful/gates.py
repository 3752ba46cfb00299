"""Gates: how they are performed, spread over borrowed bits, and made of programs with the modulus 2."""

from brimful.bits import are_bits
from brimful.errors import BadGate, BadMemory, BadStep
from brimful.numbers import is_below

MOST_GATES = 60000
MOST_BITS = 120


def perform(gates, bits):
    """The bits behind the gates."""
    if not _are_gates(gates):
        raise BadGate("this is not a list of gates")
    if not are_bits(bits, max([_bits_touched(gate) for gate in gates], default=0)):
        raise BadMemory("the bits are not a list of True and False with all bits that the gates touch")
    behind = list(bits)
    for target, controls in gates:
        if all([behind[control] for control in controls]):
            behind[target] = not behind[target]
    return behind


def _are_gates(gates):
    if not isinstance(gates, list) or len(gates) > MOST_GATES:
        return False
    return all([_is_gate(gate) for gate in gates])


def _is_gate(gate):
    if not isinstance(gate, tuple) or len(gate) != 2:
        return False
    target, controls = gate
    return _is_bit(target) and _are_rising(controls) and target not in controls


def _is_bit(value):
    return is_below(value, MOST_BITS)


def _are_rising(controls):
    if not isinstance(controls, tuple):
        return False
    last = -1
    for control in controls:
        if not _is_bit(control) or control <= last:
            return False
        last = control
    return True


def _bits_touched(gate):
    """How many bits a list must have at least for this gate."""
    target, controls = gate
    return max([target] + list(controls)) + 1


def spread(target, controls, borrowed):
    """Gates with the effect of the gate (target, controls), each with two controls, or with its own if it has fewer."""
    if not _is_gate((target, controls)):
        raise BadGate("the target and the controls are not a gate")
    if not _are_borrowed(borrowed, max(0, len(controls) - 2), [target] + list(controls)):
        raise BadGate("the borrowed bits are not as many different other bits as needed")
    if not borrowed:
        return [(target, controls)]
    turned = [target] + borrowed[::-1]
    # Each bit is turned over by a control and the next bit, the last one by two controls.
    down = [_gate_of_two(turned[at], turned[at + 1], controls[-1 - at]) for at in range(len(borrowed))]
    last = [(turned[-1], controls[:2])]
    # The second half takes back what the first half did to the borrowed bits,
    # and what their contents did to the target.
    again = down[1:]
    return down + last + down[::-1] + again + last + again[::-1]


def _are_borrowed(borrowed, needed, taken):
    if not isinstance(borrowed, list) or len(borrowed) != needed:
        return False
    if not all([_is_bit(bit) for bit in borrowed]):
        return False
    return len(set(taken + borrowed)) == len(taken) + needed


def _gate_of_two(target, a, b):
    return (target, (a, b) if a < b else (b, a))


def gates_of(program):
    """The gates that do to the bits of inputs and cells what the program does to the memory."""
    if program.modulus != 2:
        raise BadStep("only a program with the modulus 2 is turned into gates")
    gates = []
    for step in program.steps:
        gates.extend(_gates_of_step(step, program.inputs))
    return gates


def _gates_of_step(step, inputs):
    """The gates of one step; the bits of the cells stand behind those of the inputs."""
    match step:
        case ("add", _, 0, _):
            return []
        case ("add", target, _, factors):
            controls = [at if place == "input" else inputs + at for place, at in factors]
            return [(inputs + target, tuple(sorted(set(controls))))]
        case ("scale", _, _):
            return []
        case ("swap", a, b):
            there, back = (inputs + a, (inputs + b,)), (inputs + b, (inputs + a,))
            return [there, back, there]
        case _:
            raise BadStep("a program with a table step is not turned into gates")
