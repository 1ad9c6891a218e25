"""Instructions: what a running thread does in one step."""

from tapline.limits import ADDRESSES, NO_RESULT, NUMBERS
from tapline.system_calls import do_call, end_thread

END = 0
CONSTANT = 1
ADD = 2
SUBTRACT = 3
COPY = 4
LOAD = 5
STORE = 6
GO = 7
GO_IF_ZERO = 8
GO_UNLESS_ZERO = 9
CALL = 10
GO_AND_LINK = 11
GO_BACK = 12
# How many bytes each instruction has, the byte of its number included.
LENGTHS = (1, 3, 2, 2, 2, 2, 2, 2, 3, 3, 2, 2, 1)


def do_instruction(board, tid):
    """The running thread does the instruction at its pc."""
    thread = board.threads[tid]
    memory = board.memories[thread.pid]
    at = thread.pc
    code = memory.load(at)
    if memory.tells(at):
        board.tell("insn", tid, at, (code,))
    if code >= len(LENGTHS):
        board.tell("fault", tid, at, (code,))
        end_thread(board, tid, at, NO_RESULT)
        return
    x = memory.load(at + 1)
    y = memory.load(at + 2)
    behind = (at + LENGTHS[code]) % ADDRESSES
    thread.pc = next_pc(thread.regs, code, x, y, behind)
    if code == END:
        end_thread(board, tid, at, 0)
    elif code == CALL:
        do_call(board, tid, x, at)
    elif code == GO_AND_LINK:
        thread.regs[3] = behind
    else:
        move(thread.regs, memory, code, x, y)


def next_pc(regs, code, x, y, behind):
    """The address from which the thread goes on."""
    if code in (GO, GO_AND_LINK):
        return x
    if code == GO_BACK:
        return regs[3] % ADDRESSES
    if code == GO_IF_ZERO and regs[x % 4] == 0 or code == GO_UNLESS_ZERO and regs[x % 4] != 0:
        return y
    return behind


def move(regs, memory, code, x, y):
    """Does those instructions that work on the registers and the memory."""
    a = x // 4 % 4
    b = x % 4
    if code == CONSTANT:
        regs[b] = y
    elif code == ADD:
        regs[a] = (regs[a] + regs[b]) % NUMBERS
    elif code == SUBTRACT:
        regs[a] = (regs[a] - regs[b]) % NUMBERS
    elif code == COPY:
        regs[a] = regs[b]
    elif code == LOAD:
        regs[a] = memory.load(regs[b])
    elif code == STORE:
        memory.store(regs[b], regs[a] % 256)
