"""Desks: named tariffs and a ledger, in forks, with undo, and what texts tell them to do."""

from textworths.closures import again, behind, each, plus, rest, scaled, turned
from textworths.errors import DoubleName, InvalidName, NothingToUndo, UnknownName, UnlikeSigns
from textworths.numbers import added
from textworths.orders import is_name, read_order
from textworths.patterns import ways
from textworths.signs import check_signs
from textworths.sums import counted, total
from textworths.tariffs import first_apart, tariff_of
from textworths.texts import show_message, show_number, show_tariff

# What `order` hands to `make`.
MADE = ("pattern", "plus", "each", "behind", "again", "turned", "scaled")


class Desk:
    """An office's desk over some signs.

    A fork is a tuple (tariffs by their names, ledger). Neither these nor the dict of all forks are
    ever changed: a call puts new ones in their place, and the old ones are kept for `undo`.
    """

    def __init__(self, signs):
        check_signs(signs)
        self._signs = signs
        self._fork = "main"
        self._forks = {"main": ({}, [])}
        self._past = []

    @property
    def signs(self):
        """The signs, as passed."""
        return self._signs

    @property
    def fork(self):
        """The name of the fork that is in use."""
        return self._fork

    def forks(self):
        """Returns the names of the forks."""
        return sorted(list(self._forks))

    def names(self):
        """Returns the names of the tariffs."""
        return sorted(list(self._tariffs()))

    def ledger(self):
        """Returns the list of the tuples (name, message, number) that were sent."""
        return list(self._sent())

    def __len__(self):
        return len(self._past)

    def put(self, name, tariff):
        """Puts a named tariff."""
        _check_name(name)
        if tariff.signs != self._signs:
            raise UnlikeSigns(tariff.signs)
        self._stand(self._with(name, tariff), self._sent())

    def make(self, name, deed):
        """Puts the tariff that a deed makes of named ones."""
        _check_name(name)
        made = self._made(deed)
        self._stand(self._with(name, made), self._sent())

    def drop(self, name):
        """Takes a tariff out."""
        self._named(name)
        tariffs = self._tariffs()
        self._stand({other: tariffs[other] for other in tariffs if other != name}, self._sent())

    def send(self, name, message):
        """Puts the worth of a message by a named tariff at the end of the ledger."""
        tariff = self._named(name)
        note = (name, message, tariff(message))
        self._stand(self._tariffs(), self._sent() + [note])

    def branch(self, name):
        """Makes a new fork like the one in use, which stays in use."""
        _check_name(name)
        if name in self._forks:
            raise DoubleName(name)
        self._remember()
        forks = self._forks
        self._forks = {**forks, name: forks[self._fork]}

    def switch(self, name):
        """Puts another fork in use."""
        if name not in self._forks:
            raise UnknownName(name)
        self._remember()
        self._fork = name

    def undo(self):
        """Takes back the last call that stands."""
        if self._past == []:
            raise NothingToUndo(0)
        self._fork, self._forks = self._past.pop()

    def worth(self, name, message):
        """Returns the worth of a message by a named tariff."""
        tariff = self._named(name)
        return tariff(message)

    def apart(self, name, other):
        """Returns the first message that parts two named tariffs, None if there is none."""
        tariff = self._named(name)
        return first_apart(tariff, self._named(other))

    def total(self, name, length):
        """Returns the total of a length by a named tariff."""
        return total(self._named(name), length)

    def form(self, name):
        """Returns a named tariff."""
        return self._named(name)

    def ledger_sum(self):
        """Returns the sum of the numbers of the ledger."""
        found = (0, 1)
        for _, _, number in self._sent():
            found = added(found, number)
        return found

    def same_as(self, name):
        """Returns the other names with a tariff alike to a named one."""
        tariff = self._named(name)
        return [other for other in self.names() if other != name and self._named(other) == tariff]

    def order(self, text):
        """Does what a text says, and returns a text."""
        told = read_order(text)
        kind, things = told[0], told[1:]
        if kind in MADE:
            self.make(things[0], tuple([kind] + things[1:]))
        elif kind == "machine":
            self.put(things[0], tariff_of(things[1]))
        elif kind == "drop":
            self.drop(things[0])
        elif kind == "send":
            self.send(things[0], things[1])
        elif kind == "branch":
            self.branch(things[0])
        elif kind == "switch":
            self.switch(things[0])
        elif kind == "undo":
            self.undo()
        else:
            return self._answer(kind, things)
        return "done"

    def _answer(self, kind, things):
        """Returns the text that answers an order which changes nothing."""
        if kind == "worth":
            return show_number(self.worth(things[0], things[1]))
        if kind == "total":
            return show_number(self.total(things[0], things[1]))
        if kind == "sum":
            return show_number(self.ledger_sum())
        if kind == "apart":
            message = self.apart(things[0], things[1])
            return "alike" if message is None else show_message(message)
        if kind == "form":
            return show_tariff(self.form(things[0]))
        if kind == "forks":
            return _listed(self.forks(), " ")
        if kind == "names":
            return _listed(self.names(), " ")
        if kind == "same":
            return _listed(self.same_as(things[0]), " ")
        notes = [f"{name} {show_message(message)} {show_number(number)}" for name, message, number in self._sent()]
        return _listed(notes, " | ")

    def _made(self, deed):
        """Returns the tariff that a deed makes."""
        kind = deed[0]
        if kind == "pattern":
            return ways(self._signs, deed[1])
        one = self._named(deed[1])
        if kind == "plus":
            return plus(one, self._named(deed[2]))
        if kind == "each":
            return each(one, self._named(deed[2]))
        if kind == "behind":
            return behind(one, self._named(deed[2]))
        if kind == "again":
            return again(one)
        if kind == "turned":
            return turned(one)
        if kind == "scaled":
            return scaled(one, deed[2])
        if kind == "rest":
            return rest(one, deed[2])
        return counted(one, deed[2])

    def _tariffs(self):
        """Returns the tariffs of the fork in use."""
        return self._forks[self._fork][0]

    def _sent(self):
        """Returns the ledger of the fork in use."""
        return self._forks[self._fork][1]

    def _named(self, name):
        """Returns the tariff of a name."""
        if name not in self._tariffs():
            raise UnknownName(name)
        return self._tariffs()[name]

    def _with(self, name, tariff):
        """Returns the tariffs with one more, or with another one in its place."""
        tariffs = self._tariffs()
        return {**tariffs, name: tariff}

    def _stand(self, tariffs, ledger):
        """Puts tariffs and a ledger in the place of those of the fork in use."""
        self._remember()
        forks = self._forks
        self._forks = {**forks, self._fork: (tariffs, ledger)}

    def _remember(self):
        """Keeps for `undo` what stands now."""
        self._past.append((self._fork, self._forks))


def _check_name(name):
    """Raises an error if a text is not a name."""
    if not is_name(name):
        raise InvalidName(name)


def _listed(texts, separator):
    """Returns the texts of a list, `none` for the empty one."""
    return "none" if texts == [] else separator.join(texts)
