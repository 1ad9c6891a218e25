"""Picks: how a machine goes on."""

from tapline.instructions import do_instruction
from tapline.system_calls import go_last, return_call

# The reason of "off" for a thread that the timer takes from its processor.
TIMER = 1
DEVICE_SET = 3


def do_pick(board, pick):
    """Does a pick (cpu, what); returns the list of the views of its events."""
    cpu, what = pick
    board.begin_pick(cpu)
    wake(board)
    if what == "step":
        do_step(board)
    elif what == "timer":
        do_timer(board)
    elif what == "device":
        do_request(board)
    return board.end_pick()


def wake(board):
    """The calls of the threads that have slept long enough on this processor return."""
    for tid, thread in enumerate(board.threads):
        condition = thread.condition
        if condition[0] == "sleeping" and condition[1] == board.cpu and condition[2] <= board.now():
            return_call(board, tid, 0)


def do_step(board):
    tid = board.running[board.cpu]
    if tid >= 0:
        do_instruction(board, tid)
    elif board.ready:
        board.begin_run(board.ready.pop(0))


def do_timer(board):
    board.tell_tick()
    tid = board.running[board.cpu]
    if tid >= 0:
        go_last(board, tid, TIMER)


def do_request(board):
    """The device answers its oldest request."""
    if not board.requests:
        return
    tid, call, number = board.requests.pop(0)
    result = board.device_value
    if call == DEVICE_SET:
        board.device_value = number
        result = 0
    board.tell("done", tid, board.threads[tid].call_at, (call,))
    return_call(board, tid, result)
