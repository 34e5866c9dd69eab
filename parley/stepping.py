"""The rules by which processes make steps."""

from parley.errors import TooLarge
from parley.pool import Pool
from parley.processes import parts, references

MOST_STEPS = 2000


def check_known(script, process):
    """Raises UnknownName for the least name in a process that the script does not define."""
    for name in references(process):
        script.body(name)


def steps_of_stop(stepper, row):
    return []


def steps_of_skip(stepper, row):
    return [("tick", stepper.stop)]


def steps_of_prefix(stepper, row):
    _, event, part = row
    return [(event, part)]


def steps_of_internal(stepper, row):
    _, left, right = row
    return [("tau", left), ("tau", right)]


def steps_of_external(stepper, row):
    _, left, right = row
    found = []
    for action, target in stepper.known[left]:
        if action == "tau":
            target = stepper.pool.number(("external", target, right))
        found.append((action, target))
    for action, target in stepper.known[right]:
        if action == "tau":
            target = stepper.pool.number(("external", left, target))
        found.append((action, target))
    return found


def steps_of_sequence(stepper, row):
    _, left, right = row
    found = []
    for action, target in stepper.known[left]:
        if action == "tick":
            found.append(("tau", right))
        else:
            found.append((action, stepper.pool.number(("sequence", target, right))))
    return found


def steps_of_parallel(stepper, row):
    _, events, left, right = row
    joint = {action: True for action in events}
    joint["tick"] = True
    found = common_steps(stepper, row)
    for action, target in stepper.known[left]:
        if action not in joint:
            found.append((action, stepper.pool.number(("parallel", events, target, right))))
    for action, target in stepper.known[right]:
        if action not in joint:
            found.append((action, stepper.pool.number(("parallel", events, left, target))))
    return found


def common_steps(stepper, row):
    """The steps that both parts of a parallel process make together."""
    _, events, left, right = row
    lefts = by_action(stepper.known[left])
    rights = by_action(stepper.known[right])
    common = [event for event in events if event in lefts and event in rights]
    # These steps all differ, so they can be refused before they are made: there may be millions.
    if sum([len(lefts[event]) * len(rights[event]) for event in common]) > MOST_STEPS:
        raise TooLarge(MOST_STEPS)
    found = []
    for event in common:
        for target in lefts[event]:
            for other in rights[event]:
                found.append((event, stepper.pool.number(("parallel", events, target, other))))
    if "tick" in lefts and "tick" in rights:
        found.append(("tick", stepper.stop))
    return found


def by_action(moves):
    """A dict that has for each action the list of the targets to which it leads."""
    found = {}
    for action, target in moves:
        found.setdefault(action, []).append(target)
    return found


def steps_of_hide(stepper, row):
    return relabelled_steps(stepper, row, {event: "tau" for event in row[1]})


def steps_of_rename(stepper, row):
    return relabelled_steps(stepper, row, {old: new for old, new in row[1]})


def relabelled_steps(stepper, row, words):
    """The steps of "hide" or "rename", where a dict gives actions another word."""
    kind, label, part = row
    found = []
    for action, target in stepper.known[part]:
        if action == "tick":
            found.append((action, stepper.stop))
        else:
            found.append((words.get(action, action), stepper.pool.number((kind, label, target))))
    return found


def steps_of_name(stepper, row):
    return stepper.known[stepper.body(row[1])]


RULES = {
    "stop": steps_of_stop,
    "skip": steps_of_skip,
    "prefix": steps_of_prefix,
    "internal": steps_of_internal,
    "external": steps_of_external,
    "sequence": steps_of_sequence,
    "parallel": steps_of_parallel,
    "hide": steps_of_hide,
    "rename": steps_of_rename,
    "name": steps_of_name,
}


class Stepper:
    """Makes the steps of processes in a script; processes are numbers of its pool."""

    def __init__(self, script):
        self.pool = Pool()
        self.stop = self.pool.number(("stop",))
        # The steps of each process from whose steps others are made.
        self.known = {}
        self._script = script
        self._bodies = {}
        self._ordered = {}

    def body(self, name):
        """The number of the process of a name."""
        if name not in self._bodies:
            self._bodies[name] = self.pool.number_of(self._script.body(name))
        return self._bodies[name]

    def sources(self, number):
        """The processes from whose steps those of a process are made."""
        row = self.pool.rows[number]
        if row[0] == "name":
            return [self.body(row[1])]
        if row[0] in ("external", "parallel", "hide", "rename"):
            return list(parts(row))
        return [row[1]] if row[0] == "sequence" else []

    def learn(self, number):
        """Puts the steps of a process among the known ones; raises TooLarge for too many."""
        pending = [number]
        while pending:
            place = pending[-1]
            missing = [source for source in self.sources(place) if source not in self.known]
            if missing:
                pending.extend(missing)
            else:
                pending.pop()
                if place not in self.known:
                    self.known[place] = self.made(place)

    def made(self, number):
        """The list of the steps of a process, each once."""
        row = self.pool.rows[number]
        rule = RULES[row[0]]
        found = list({step: True for step in rule(self, row)})
        if len(found) > MOST_STEPS:
            raise TooLarge(MOST_STEPS)
        return found

    def ordered(self, number):
        """The list of the steps of a process by their actions, and then by the texts of the processes."""
        if number not in self.known:
            self.learn(number)
        targets = by_action(self.known[number])
        found = []
        for action in sorted(targets):
            found.extend([(action, target) for target in self.by_text(targets[action])])
        return found

    def by_text(self, numbers):
        """The numbers of processes in the order of their texts."""
        if len(numbers) == 1:
            return numbers
        rows = sorted([(self.pool.text_of(number), number) for number in numbers])
        return [row[1] for row in rows]
