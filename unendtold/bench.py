"""A workbench: a machine that changes, and sentences about it."""

from unendtold.errors import NotFitting, UnknownName
from unendtold.runs import answer, decide, is_machine


class Workbench:
    """A machine with what can be undone and redone, and sentences with their answers."""

    def __init__(self, machine):
        _check_machine(machine)
        self._machine = machine
        self._before = []
        self._undone = []
        self._sentences = {}
        self._answers = {}
        self._decided = 0

    def machine(self):
        """Returns the machine."""
        return self._machine

    def change(self, machine):
        """Takes another machine."""
        _check_machine(machine)
        self._before.append(self._machine)
        self._undone = []
        self._become(machine)

    def turn_step(self, p, q):
        """Puts a step in, or takes it out if it is there."""
        states, firsts, steps, marks = self._machine
        turned = [step for step in steps if step != (p, q)]
        if len(turned) == len(steps):
            turned = sorted([*steps, (p, q)])
        # A step that is put in makes it no machine if p or q is not a state.
        self.change((states, firsts, tuple(turned), marks))

    def undo(self):
        """Goes back to the machine before; returns False if there is none."""
        if not self._before:
            return False
        self._undone.append(self._machine)
        self._become(self._before.pop())
        return True

    def redo(self):
        """Goes on to the machine that was undone last; returns False if there is none."""
        if not self._undone:
            return False
        self._before.append(self._machine)
        self._become(self._undone.pop())
        return True

    def _become(self, machine):
        if machine != self._machine:
            self._answers = {}
        self._machine = machine

    def keep(self, name, sentence):
        """Keeps a sentence under a name, instead of one that is there."""
        self._sentences[name] = sentence
        self._forget(name)

    def drop(self, name):
        """Drops the sentence with a name."""
        self._check_name(name)
        del self._sentences[name]
        self._forget(name)

    def _forget(self, name):
        if name in self._answers:
            del self._answers[name]

    def _check_name(self, name):
        if name not in self._sentences:
            raise UnknownName("there is no sentence with this name")

    def names(self):
        """Returns the list of the names, ascending."""
        return sorted(self._sentences)

    def holds(self, name):
        """Returns whether a sentence holds, decided anew only if no answer is kept."""
        self._check_name(name)
        if name not in self._answers:
            self._answers[name] = decide(self._machine, self._sentences[name])
            self._decided += 1
        return self._answers[name]

    def shown(self, name):
        """Returns whether a sentence holds, and a run that shows it or None."""
        self._check_name(name)
        return answer(self._machine, self._sentences[name], [])

    def made(self):
        """Returns how many times holds decided a sentence."""
        return self._decided


def _check_machine(machine):
    if not is_machine(machine):
        raise NotFitting("this is not a machine")
