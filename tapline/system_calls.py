"""System calls: what they do, and how they return."""

from tapline.limits import ADDRESSES, MOST_THREADS, NO_RESULT

# The reasons of "off".
GAVE_WAY = 2
SLEEPS = 3
ASKS = 4
WAITS = 5


def do_call(board, tid, number, at):
    """The running thread does the system call with this number at an address."""
    thread = board.threads[tid]
    thread.call = number
    thread.call_at = at
    board.tell("entry", tid, at, (number, thread.regs[0], thread.regs[1]))
    if number == 0:
        end_thread(board, tid, at, thread.regs[0])
    elif number == 1:
        return_call(board, tid, 0)
        go_last(board, tid, GAVE_WAY)
    elif number == 2:
        leave(board, tid, ("sleeping", board.cpu, board.now() + thread.regs[0]), SLEEPS)
    elif number in (3, 4):
        board.requests.append((tid, number, thread.regs[0]))
        leave(board, tid, ("asking",), ASKS)
    elif number == 5:
        return_call(board, tid, begin_thread(board, thread))
    elif number == 6:
        wait_for(board, tid, thread.regs[0])
    else:
        return_call(board, tid, NO_RESULT)


def return_call(board, tid, result):
    """The call of a thread returns; a thread that did not run is ready behind the event."""
    thread = board.threads[tid]
    thread.regs[0] = result
    board.tell("return", tid, thread.call_at, (thread.call, result))
    if thread.condition[0] != "running":
        board.make_ready(tid)


def end_thread(board, tid, at, code):
    """The running thread ends, and the calls of those that wait for it return."""
    board.tell("end", tid, at, (code,))
    board.end_run(tid, ("ended", code))
    for other, thread in enumerate(board.threads):
        if thread.condition == ("waiting", tid):
            return_call(board, other, code)


def leave(board, tid, condition, reason):
    """The running thread leaves its processor."""
    board.end_run(tid, condition)
    board.tell("off", tid, board.threads[tid].pc, (reason,))


def go_last(board, tid, reason):
    """The running thread leaves its processor for the end of the ready row."""
    leave(board, tid, ("ready",), reason)
    board.ready.append(tid)


def begin_thread(board, thread):
    """Begins another thread of the same process, if there may be one; the result of the call."""
    if len(board.threads) >= MOST_THREADS:
        return NO_RESULT
    return board.add_thread(thread.pid, thread.regs[0] % ADDRESSES, thread.regs[1])


def wait_for(board, tid, wanted):
    if wanted >= len(board.threads) or wanted == tid:
        return_call(board, tid, NO_RESULT)
        return
    condition = board.threads[wanted].condition
    if condition[0] == "ended":
        return_call(board, tid, condition[1])
    else:
        leave(board, tid, ("waiting", wanted), WAITS)
