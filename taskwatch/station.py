"""One station with its tasks, and the answers to a list of calls on it."""

from taskwatch.block import is_block, kept_from, nothing_kept, read_block, write_block
from taskwatch.calls import ASK, BEGIN, HALT, KEEP, LIST, LOOK, REPORT, SAID, TASK, TICK, in_ranges, split_calls
from taskwatch.task import ANEW, FEED, RUNS, STOP, Task

OUT_OF_RANGE = -1
NO_SUCH_TASK = -2
NOT_NOW = -4

QUICK_IN_DOUBT = 3
CALM_AFTER = 600000000


class Station:
    def __init__(self):
        self.begun = False
        self.began = 0
        self.now = 0
        self.cause = 0
        self.known = 0
        self.doubt = False
        self.before = nothing_kept()
        self.kept = nothing_kept()
        self.tasks = {}

    def begin(self, cause, now, octets):
        known = is_block(octets)
        self.begun = True
        self.began = now
        self.now = now
        self.cause = cause
        self.known = 1 if known else 0
        self.before = read_block(octets) if known else nothing_kept()
        self.kept = kept_from(self.before, cause)
        # Settled here for as long as the station goes on: calm clears quick, not the doubt.
        self.doubt = self.kept.quick >= QUICK_IN_DOUBT
        self.tasks = {}
        return self.known

    def add_task(self, k, task):
        if self.doubt and task.main == 0:
            task.stand()
        self.tasks[k] = task

    def report(self, k, place):
        was_late = self.tasks[k].hear(place, self.now)
        self.kept.lay_crumb(k, place)
        return 1 if was_late else 0

    def ask(self, k):
        self.tasks[k].wait_afresh(self.now)

    def halt(self, k):
        self.tasks[k].halt()
        return [(STOP, k)]

    def tick(self):
        wanted = []
        for k in sorted(self.tasks):
            wanted.extend(self.look_at_task(k))
        if not wanted and self.all_well_for_long():
            # Quick rises at a beginning alone, so it stays 0 for as long as this calm lasts.
            self.kept.forget_quick()
        if self.kept.doomed == 0:
            wanted.append((FEED,))
        return wanted

    def look_at_task(self, k):
        things = self.tasks[k].look_at(self.now)
        if ANEW in things:
            self.kept.doom(k)
        return [(thing, k) for thing in things]

    def all_well_for_long(self):
        if any([task.late for task in self.tasks.values()]):
            return False
        return self.began + CALM_AFTER <= self.now

    def runs(self, k):
        return self.tasks[k].phase == RUNS

    def said(self):
        numbers = [self.cause, self.known, 1 if self.doubt else 0]
        numbers.extend(self.kept.starts)
        numbers.extend([self.kept.quick, self.before.doomed, len(self.before.crumbs)])
        for crumb in self.before.crumbs:
            numbers.extend(crumb)
        return numbers

    def look(self, k):
        return self.tasks[k].shown(self.now)

    def listed(self):
        return [len(self.tasks)] + sorted(self.tasks)


def task_from(given):
    return Task(given["limit"], given["rank"], given["most"], given["span"],
                given["first"], given["main"], given["now"])


def told(wanted):
    numbers = [len(wanted)]
    for thing in wanted:
        numbers.extend(thing)
    return numbers


def refused_by_promise(station, call):
    if call.number == TASK:
        return call.given["k"] in station.tasks
    if call.number in (REPORT, HALT):
        return not station.runs(call.given["k"])
    if call.number == ASK:
        return station.runs(call.given["k"])
    return False


def refusal_of(station, call):
    if call.number == BEGIN:
        return 0 if in_ranges(call.given) else OUT_OF_RANGE
    if not station.begun:
        return NOT_NOW
    if not in_ranges(call.given):
        return OUT_OF_RANGE
    if "now" in call.given and call.given["now"] < station.now:
        return NOT_NOW
    if call.number in (REPORT, ASK, HALT, LOOK) and call.given["k"] not in station.tasks:
        return NO_SUCH_TASK
    if refused_by_promise(station, call):
        return NOT_NOW
    return 0


def act(station, call):
    given = call.given
    if call.number == REPORT:
        return [station.report(given["k"], given["place"])]
    if call.number == TICK:
        return [0] + told(station.tick())
    if call.number == HALT:
        return [0] + told(station.halt(given["k"]))
    if call.number == TASK:
        station.add_task(given["k"], task_from(given))
    if call.number == ASK:
        station.ask(given["k"])
    return [0]


def tell(station, call):
    if call.number == KEEP:
        return write_block(station.kept)
    if call.number == SAID:
        return station.said()
    if call.number == LIST:
        return station.listed()
    return station.look(call.given["k"])


def carry_out(station, call):
    given = call.given
    if call.number == BEGIN:
        return [station.begin(given["cause"], given["now"], call.octets)]
    # The calls without a time change nothing.
    if "now" not in given:
        return [0] + tell(station, call)
    station.now = given["now"]
    return act(station, call)


def answer_to(station, call):
    refusal = refusal_of(station, call)
    if refusal < 0:
        return [refusal]
    return carry_out(station, call)


def answers(calls):
    station = Station()
    answered = []
    for call in split_calls(calls):
        numbers = answer_to(station, call)
        answered.append(len(numbers))
        answered.extend(numbers)
    return answered
