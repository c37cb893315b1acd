"""Works parts out, one small step after another.

What waits for another part is kept in a row, so that a loop goes through a
program however long and deep it is. A part that is worked out answers with all
that it gave and with how it ended; what waits for it takes that answer up.
"""

from valuetwigs.kinds import is_fit
from valuetwigs.stops import BY_ZERO, DONE, NONE_GIVEN, NO_PLACE, NO_TURNS, TOO_LARGE, WRONG_KIND
from valuetwigs.stops import DivisionByZero, NumberTooLarge, WrongKind


# A value that is given, and the row of keys that leads to it; the row is None
# where no places are asked for.
class Found:

    def __init__(self, value, row):
        self.value = value
        self.row = row

    def entry(self, key, value):
        return Found(value, None if self.row is None else self.row + (key,))


# What there is while a part is worked out, and what the names behind a dollar
# are: pairs, the innermost first.
class Scene:

    def __init__(self, found, names):
        self.found = found
        self.names = names

    def value_there(self):
        return self.found.value

    def wants_places(self):
        return self.found.row is not None

    def moved_to(self, found):
        return Scene(found, self.names)

    def without_places(self):
        return self.moved_to(Found(self.value_there(), None))

    def with_places(self):
        return self.moved_to(Found(self.value_there(), ()))

    def naming(self, name, value):
        return Scene(self.found, ((name, value),) + self.names)


# A part that is still to be begun.
class Asked:

    def __init__(self, part, scene):
        self.part = part
        self.scene = scene


# Waits for a part, and hands what it answers to a function.
class After:

    def __init__(self, then):
        self.then = then

    def go_on(self, machine):
        then = self.then
        then(machine.given, machine.stop)


# Waits for a first part, then begins a second one for each that it gave.
class ForEach:

    def __init__(self, second):
        self.second = second
        self.firsts = None
        self.stop_of_first = DONE
        self.place = 0
        self.gathered = []

    def go_on(self, machine):
        if self.firsts is None:
            self.firsts = machine.given
            self.stop_of_first = machine.stop
        else:
            self.gathered.extend(machine.given)
            if machine.stop != DONE:
                machine.answer(self.gathered, machine.stop)
                return
        self.go_to_next(machine)

    def go_to_next(self, machine):
        if self.place == len(self.firsts):
            machine.answer(self.gathered, self.stop_of_first)
        elif machine.spend_turn():
            machine.waiting.append(self)
            self.place += 1
            second = self.second
            second(self.firsts[self.place - 1])
        else:
            machine.answer(self.gathered, NO_TURNS)


class Machine:

    def __init__(self, turns):
        self.turns = turns
        self.waiting = []
        self.given = []
        self.stop = DONE

    def spend_turn(self):
        if self.turns == 0:
            return False
        self.turns -= 1
        return True

    def ask(self, part, scene):
        self.waiting.append(Asked(part, scene))

    def after(self, part, scene, then):
        self.waiting.append(After(then))
        self.ask(part, scene)

    def for_each(self, part, scene, second):
        self.waiting.append(ForEach(second))
        self.ask(part, scene)

    def answer(self, given, stop):
        self.given = given
        self.stop = stop

    def give(self, found):
        self.answer([found], DONE)

    def give_nothing(self):
        self.answer([], DONE)

    def fail(self, stop):
        self.answer([], stop)

    # What is made lies at no place.
    def make(self, scene, value):
        if scene.wants_places():
            self.fail(NO_PLACE)
        elif is_fit(value):
            self.give(Found(value, None))
        else:
            self.fail(TOO_LARGE)

    def make_by(self, scene, work):
        try:
            value = work()
        except WrongKind:
            self.fail(WRONG_KIND)
        except NumberTooLarge:
            self.fail(TOO_LARGE)
        except DivisionByZero:
            self.fail(BY_ZERO)
        else:
            self.make(scene, value)


# How first ends where a part answers so: an error behind the first that is
# given doesn't count, but want of turns does.
def first_stop(given, stop):
    return stop if stop == NO_TURNS or len(given) == 0 else DONE


# Likewise where one has to be given: it is done only if there is a first.
def needed_first_stop(given, stop):
    return NONE_GIVEN if stop == DONE and len(given) == 0 else first_stop(given, stop)
