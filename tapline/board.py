"""What a machine has: threads, processors, the device, and the views that a pick gives."""


class Thread:
    """A thread of a process."""

    def __init__(self, pid, pc, first):
        """first is what its register 0 begins with."""
        self.pid = pid
        self.pc = pc
        self.regs = [first, 0, 0, 0]
        self.condition = ("ready",)
        # The last system call and its address: a call may return long after the thread went on from there.
        self.call = 0
        self.call_at = 0

    def image(self):
        return (self.pid, self.pc, tuple(self.regs), self.condition)


class Board:
    """The state of a machine over memories of any sort, and the pick that it does."""

    def __init__(self, memories, rates):
        self.memories = memories
        self.rates = tuple(rates)
        self.threads = [Thread(pid, 0, 0) for pid in range(len(memories))]
        self.ready = list(range(len(memories)))
        self.times = [0] * len(self.rates)
        self.running = [-1] * len(self.rates)
        self.device_value = 0
        self.requests = []
        # The processor of the pick that is being done, and the views of its events so far.
        self.cpu = 0
        self.views = []

    def begin_pick(self, cpu):
        self.cpu = cpu
        self.times[cpu] += self.rates[cpu]

    def end_pick(self):
        """The list of the views of this pick."""
        views = self.views
        self.views = []
        return views

    def now(self):
        """The time of the processor of this pick."""
        return self.times[self.cpu]

    def tell(self, kind, tid, at, args):
        """Adds the view of an event of a thread."""
        thread = self.threads[tid]
        event = (kind, self.cpu, self.now(), thread.pid, tid, at, args)
        self.views.append((event, tuple(thread.regs), self.memories[thread.pid].image()))

    def tell_tick(self):
        """Adds the view of a tick, which belongs to no thread."""
        event = ("tick", self.cpu, self.now(), -1, -1, -1, ())
        self.views.append((event, (0, 0, 0, 0), ()))

    def add_thread(self, pid, pc, first):
        """A new thread at the end of the ready row; returns its number."""
        tid = len(self.threads)
        self.threads.append(Thread(pid, pc, first))
        self.ready.append(tid)
        return tid

    def begin_run(self, tid):
        """The thread, taken from the ready row, runs on the processor of this pick."""
        self.threads[tid].condition = ("running", self.cpu)
        self.running[self.cpu] = tid
        self.tell("on", tid, self.threads[tid].pc, ())

    def end_run(self, tid, condition):
        """The thread runs no more and has another condition; its processor is free."""
        self.threads[tid].condition = condition
        self.running[self.cpu] = -1

    def make_ready(self, tid):
        """Puts a thread at the end of the ready row."""
        self.threads[tid].condition = ("ready",)
        self.ready.append(tid)

    def state(self):
        """The tuple (memories, threads, ready, processors, device)."""
        memories = tuple([memory.image() for memory in self.memories])
        threads = tuple([thread.image() for thread in self.threads])
        processors = tuple([(time, tid) for time, tid in zip(self.times, self.running)])
        device = (self.device_value, tuple(self.requests))
        return memories, threads, tuple(self.ready), processors, device
