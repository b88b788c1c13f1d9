"""Code with the behaviour of resolved programs."""

from flowform.coding import targets, with_targets
from flowform.graphs import breadth_first


def assembled(resolved):
    """Return code with the behaviour of the resolved program.

    In the code of a program with try, each call that is not in the last body of a try stands once, and each
    one that is there stands once for each way in which the body of this try can be completed.
    """
    return assembled_block(resolved, "end", ())


def assembled_block(block, behind, loops):
    """Return code with the behaviour of a block whose jumps may lead to loops around it.

    The code stops where the block is completed: with the outcome behind if it is completed normally, and with
    one of the two outcomes of a loop around it if it is completed by a continue or by a break to this loop.
    loops are the pairs of these two outcomes, that of the innermost loop first.
    """
    assembler = Assembler()
    last = assembler.put(("stop", behind))
    around = [LoopAround(assembler.put(("stop", again)), assembler.put(("stop", after))) for again, after in loops]
    start = assembler.put_body(block, last, tuple(around))
    assembler.put_copies()
    return _ordered(assembler.code, start)


def _ordered(code, start):
    """Return the instructions that can be reached from the start, which gets the number 0."""
    order = list(breadth_first(start, lambda at: targets(code[at])))
    numbers = {old: new for new, old in enumerate(order)}
    return tuple([with_targets(code[old], numbers) for old in order])


class LoopAround:
    """A loop around a statement, with the numbers of the instructions to which its jumps lead."""

    def __init__(self, again, behind):
        self.again = again
        self.behind = behind


class TryAround:
    """A try whose body is around a statement, with the numbers of the first instructions of its last's copies."""

    def __init__(self, last, behind, around):
        self.last = last
        self.behind = behind
        self.around = around
        self.copies = {}


class Assembler:
    """Puts instructions one behind another, those to which an instruction leads before this one.

    behind is the number of the instruction at which a run goes on when what is put is completed normally;
    around is the tuple of the loops and tries around it, the innermost one first. The methods that put
    something return the number of its first instruction.
    """

    def __init__(self):
        self.code = []
        self.waiting = []

    def put(self, instruction):
        """Put an instruction, or None for one that is to be filled in later."""
        self.code.append(instruction)
        return len(self.code) - 1

    def put_body(self, body, behind, around):
        """Put the statements of a body or of a program."""
        at = behind
        for statement in reversed(body):
            at = self.put_statement(statement, at, around)
        return at

    def put_statement(self, statement, behind, around):
        """Put a statement; in place of a jump stands the number of the instruction to which it leads."""
        kind = statement[0]
        if kind == "call":
            return self.put(("call", statement[1], behind, behind))
        if kind == "set":
            return self.put(("set", statement[1], statement[2], behind))
        if kind == "if":
            first = self.put_body(statement[2], behind, around)
            second = self.put_body(statement[3], behind, around)
            return self.put_condition(statement[1], first, second)
        if kind in ("while", "for"):
            return self.put_loop(statement, behind, around)
        if kind == "try":
            inner = TryAround(statement[2], behind, around)
            return self.put_body(statement[1], self.copy_for(inner, None), (inner, *around))
        return self.destination(statement, around)

    def put_loop(self, loop, behind, around):
        """Put a loop behind a jump to its condition or body, where each of its rounds begins."""
        again = self.put(None)
        inner = LoopAround(again, behind)
        first = self.put_body(loop[-1], again, (inner, *around))
        if loop[0] == "while":
            first = self.put_condition(loop[2], first, behind)
        self.code[again] = ("jump", first)
        return again

    def put_condition(self, condition, if_true, if_false):
        """Put a condition; a run goes on at one of the two numbers."""
        kind, inner = condition
        if kind == "call":
            return self.put(("call", inner, if_true, if_false))
        if kind == "flag":
            return self.put(("test", inner, if_true, if_false))
        if kind == "not":
            return self.put_condition(inner, if_false, if_true)
        at = if_true if kind == "and" else if_false
        for part in reversed(inner):
            if kind == "and":
                at = self.put_condition(part, at, if_false)
            else:
                at = self.put_condition(part, if_true, at)
        return at

    def destination(self, completion, around):
        """Return the number of the instruction at which a run goes on after a jump or stop."""
        word, goal = completion
        for one in around:
            if isinstance(one, TryAround):
                return self.copy_for(one, (word, goal))
            if word != "stop":
                goal -= 1
                if goal == 0:
                    return one.behind if word == "break" else one.again
        return self.put(("stop", goal))

    def copy_for(self, one, completion):
        """Return the number of the first instruction of last's copy for a way in which the body is completed.

        This is a jump, a stop, or None if the body is completed normally. The copy itself waits, so that many
        tries inside of each other need no deep recursion.
        """
        if completion not in one.copies:
            one.copies[completion] = self.put(None)
            self.waiting.append((one, completion))
        return one.copies[completion]

    def put_copies(self):
        """Put all copies that are waiting, and those for which they make others wait."""
        while self.waiting:
            one, completion = self.waiting.pop()
            behind = one.behind
            if completion is not None:
                behind = self.destination(completion, one.around)
            first = self.put_body(one.last, behind, one.around)
            self.code[one.copies[completion]] = ("jump", first)
