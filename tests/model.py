"""Part 3 of the document once more, in one piece and from its words alone, to compare the program with."""

import random

FREE = -1


class Model:
    """Each thread is a dict; everything is worked out anew from the points 3.1 to 3.12."""

    def __init__(self, programs, rates):
        self.memory = {p: dict(enumerate(tuple(program) + (0,) * (256 - len(program))))
                       for p, program in enumerate(programs)}
        self.rates = rates
        self.all = [self.fresh(p, 0, (0, 0, 0, 0)) for p in range(len(programs))]
        self.row = tuple(range(len(programs)))
        self.clock = {cpu: 0 for cpu in range(len(rates))}
        self.on = {cpu: FREE for cpu in range(len(rates))}
        self.value, self.asked = 0, ()

    def fresh(self, p, pc, regs):
        return {"pid": p, "pc": pc, "regs": regs, "is": ("ready",), "call": None}

    def bytes_of(self, p):
        return tuple(self.memory[p][at] for at in range(256))

    def event(self, kind, tid, at, *args):
        if tid == FREE:
            self.seen.append(((kind, self.cpu, self.clock[self.cpu], -1, -1, -1, args), (0, 0, 0, 0), ()))
            return
        t = self.all[tid]
        self.seen.append(((kind, self.cpu, self.clock[self.cpu], t["pid"], tid, at, args), t["regs"],
                          self.bytes_of(t["pid"])))

    def put(self, tid, r, value):
        regs = self.all[tid]["regs"]
        self.all[tid]["regs"] = regs[:r] + (value % 65536,) + regs[r + 1:]

    def returns(self, tid, result):
        t = self.all[tid]
        self.put(tid, 0, result)
        n, at = t["call"]
        self.event("return", tid, at, n, result)
        if t["is"][0] != "running":
            t["is"] = ("ready",)
            self.row += (tid,)

    def off(self, tid, condition, reason):
        self.all[tid]["is"] = condition
        self.on[self.cpu] = FREE
        if condition == ("ready",):
            self.row += (tid,)
        self.event("off", tid, self.all[tid]["pc"], reason)

    def ends(self, tid, at, code):
        self.event("end", tid, at, code)
        self.all[tid]["is"] = ("ended", code)
        self.on[self.cpu] = FREE
        for other in range(len(self.all)):
            if self.all[other]["is"] == ("waiting", tid):
                self.returns(other, code)

    def step(self, pick):
        self.seen = []
        self.cpu, what = pick
        self.clock[self.cpu] += self.rates[self.cpu]
        for tid in range(len(self.all)):
            condition = self.all[tid]["is"]
            if condition[:2] == ("sleeping", self.cpu) and condition[2] <= self.clock[self.cpu]:
                self.returns(tid, 0)
        tid = self.on[self.cpu]
        if what == "timer":
            self.event("tick", FREE, FREE)
            if tid != FREE:
                self.off(tid, ("ready",), 1)
        elif what == "device" and self.asked:
            (asking, n, number), self.asked = self.asked[0], self.asked[1:]
            self.event("done", asking, self.all[asking]["call"][1], n)
            if n == 3:
                self.value = number
            self.returns(asking, 0 if n == 3 else self.value)
        elif what == "step" and tid != FREE:
            self.instruction(tid)
        elif what == "step" and self.row:
            tid, self.row = self.row[0], self.row[1:]
            self.all[tid]["is"] = ("running", self.cpu)
            self.on[self.cpu] = tid
            self.event("on", tid, self.all[tid]["pc"])
        return self.seen

    def instruction(self, tid):
        t = self.all[tid]
        memory, regs, pc = self.memory[t["pid"]], t["regs"], t["pc"]
        o, x, y = (memory[(pc + k) % 256] for k in range(3))
        a, b, r = x // 4 % 4, x % 4, x % 4
        self.event("insn", tid, pc, o)
        if o > 12:
            self.event("fault", tid, pc, o)
            self.ends(tid, pc, 65535)
            return
        behind = (pc + {0: 1, 1: 3, 8: 3, 9: 3, 12: 1}.get(o, 2)) % 256
        t["pc"] = {7: x, 11: x, 12: regs[3] % 256}.get(o, behind)
        if o == 0:
            self.ends(tid, pc, 0)
        if o == 1:
            self.put(tid, r, y)
        if o in (2, 3, 4, 5):
            self.put(tid, a, {2: regs[a] + regs[b], 3: regs[a] - regs[b], 4: regs[b], 5: memory[regs[b] % 256]}[o])
        if o == 6:
            memory[regs[b] % 256] = regs[a] % 256
        if o == 8 and regs[r] == 0 or o == 9 and regs[r] != 0:
            t["pc"] = y
        if o == 10:
            self.system(tid, x, pc)
        if o == 11:
            self.put(tid, 3, behind)

    def system(self, tid, n, at):
        t = self.all[tid]
        first, second = t["regs"][:2]
        t["call"] = (n, at)
        self.event("entry", tid, at, n, first, second)
        if n == 0:
            self.ends(tid, at, first)
        elif n == 1:
            self.returns(tid, 0)
            self.off(tid, ("ready",), 2)
        elif n == 2:
            self.off(tid, ("sleeping", self.cpu, self.clock[self.cpu] + first), 3)
        elif n in (3, 4):
            self.asked += ((tid, n, first),)
            self.off(tid, ("asking",), 4)
        elif n == 5 and len(self.all) < 8:
            self.all.append(self.fresh(t["pid"], first % 256, (second, 0, 0, 0)))
            self.row += (len(self.all) - 1,)
            self.returns(tid, len(self.all) - 1)
        elif n == 6 and first < len(self.all) and first != tid:
            condition = self.all[first]["is"]
            if condition[0] == "ended":
                self.returns(tid, condition[1])
            else:
                self.off(tid, ("waiting", first), 5)
        else:
            self.returns(tid, 65535)

    def state(self):
        return (tuple(self.bytes_of(p) for p in self.memory),
                tuple((t["pid"], t["pc"], t["regs"], t["is"]) for t in self.all), self.row,
                tuple((self.clock[cpu], self.on[cpu]) for cpu in self.clock), (self.value, self.asked))


def drawn_run(seed, many=250):
    """Programs, rates and picks from a seed; the programs are mostly sensible."""
    chance = random.Random(seed)
    programs = tuple(drawn_program(chance) for _ in range(chance.randint(1, 4)))
    rates = tuple(chance.choice((1, 2, 3, 7, 50, 999)) for _ in range(chance.randint(1, 4)))
    whats = ["step"] * chance.choice((4, 10, 20)) + ["timer", "device"]
    picks = [(chance.randrange(len(rates)), chance.choice(whats)) for _ in range(many)]
    return programs, rates, picks


def drawn_program(chance):
    if chance.random() < 0.1:
        return tuple(chance.randrange(256) for _ in range(chance.choice((0, 3, 256))))
    rows = []
    while len(rows) < chance.choice((30, 120, 230)):
        o = chance.choice((1, 1, 1, 2, 3, 4, 5, 6, 7, 8, 9, 10, 10, 10, 10, 10, 11, 12))
        if chance.random() < 0.02:
            o = chance.choice((0, 13, 77, 255))
        x = chance.randrange(256)
        if o == 10:
            x = chance.choice((1, 1, 2, 3, 4, 5, 5, 6, 6, 7, 255, 0) if chance.random() < 0.5 else (1, 2, 3, 4, 5, 6))
        if o in (7, 11):
            x = chance.randrange(60)
        y = chance.choice((0, 1, 2, 3, 7, 60, 250, 255))
        rows += {0: [0], 1: [1, x, y], 8: [8, x, y], 9: [9, x, y], 12: [12]}.get(o, [o, x])
    return tuple(rows[:256])
