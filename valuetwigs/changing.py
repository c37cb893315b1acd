"""What those parts of a program give that can't be asked for places: path, del, =, |= and fold."""

from valuetwigs.entries import at_row, put_at, without_rows
from valuetwigs.kinds import is_fit, make_list
from valuetwigs.machine import Found, needed_first_stop
from valuetwigs.stops import CANNOT_PUT, DONE, NO_PLACE, NO_TURNS, TOO_LARGE, WRONG_KIND, CannotPut, WrongKind


def work_path(machine, part, scene):
    machine.for_each(part.inner[0], scene.with_places(), lambda found: machine.make(scene, make_list(found.row)))


def rows_of(given):
    return [found.row for found in given]


def work_del(machine, part, scene):

    def take_away(given, stop):
        if stop == DONE:
            machine.make(scene, without_rows(scene.value_there(), rows_of(given)))
        else:
            machine.fail(stop)

    machine.after(part.inner[0], scene.with_places(), take_away)


def put_at_all(machine, scene, rows, value):
    whole = scene.value_there()
    try:
        for row in rows:
            whole = put_at(whole, row, value)
    except CannotPut:
        machine.fail(CANNOT_PUT)
    else:
        machine.make(scene, whole)


def work_put(machine, part, scene):

    def put(found):

        def take_places(given, stop):
            if stop == DONE:
                put_at_all(machine, scene, rows_of(given), found.value)
            else:
                machine.fail(stop)

        machine.after(part.inner[0], scene.with_places(), take_places)

    machine.for_each(part.inner[1], scene, put)


# Goes through the places of p |= f: looks at one, waits for f, and puts there
# what it gave first.
class Updating:

    def __init__(self, part, scene, rows):
        self.part = part
        self.scene = scene
        self.rows = rows
        self.place = 0
        self.changed = scene.value_there()

    def look_at_next(self, machine):
        if self.place == len(self.rows):
            machine.make(self.scene, self.changed)
            return
        try:
            there = at_row(self.changed, self.rows[self.place])
        except WrongKind:
            machine.fail(WRONG_KIND)
        else:
            machine.waiting.append(self)
            machine.ask(self.part, self.scene.moved_to(Found(there, None)))

    def go_on(self, machine):
        stop = needed_first_stop(machine.given, machine.stop)
        if stop != DONE:
            machine.fail(stop)
            return
        try:
            self.changed = put_at(self.changed, self.rows[self.place], machine.given[0].value)
        except CannotPut:
            machine.fail(CANNOT_PUT)
        else:
            self.go_on_if_fit(machine)

    def go_on_if_fit(self, machine):
        if is_fit(self.changed):
            self.place += 1
            self.look_at_next(machine)
        else:
            machine.fail(TOO_LARGE)


def work_update(machine, part, scene):

    def take_places(given, stop):
        if stop == DONE:
            Updating(part.inner[1], scene, rows_of(given)).look_at_next(machine)
        else:
            machine.fail(stop)

    machine.after(part.inner[0], scene.with_places(), take_places)


# Goes through what a fold's list gave: waits for its last part each time, and
# keeps what that gave first.
class Folding:

    def __init__(self, part, scene, listed, so_far):
        self.part = part
        self.scene = scene
        self.listed = listed
        self.place = 0
        self.so_far = so_far

    def take_next(self, machine):
        if self.place == len(self.listed):
            machine.give(self.so_far)
        elif machine.spend_turn():
            machine.waiting.append(self)
            named = self.scene.naming(self.part.held, self.listed[self.place].value)
            machine.ask(self.part.inner[2], named.moved_to(self.so_far))
        else:
            machine.fail(NO_TURNS)

    def go_on(self, machine):
        stop = needed_first_stop(machine.given, machine.stop)
        if stop == DONE:
            self.so_far = machine.given[0]
            self.place += 1
            self.take_next(machine)
        else:
            machine.fail(stop)


def work_fold(machine, part, scene):

    def take_list(listed, stop):
        if stop == DONE:
            machine.for_each(part.inner[1], scene,
                             lambda found: Folding(part, scene, listed, found).take_next(machine))
        else:
            machine.fail(stop)

    machine.after(part.inner[0], scene, take_list)


CHANGING_WORKS = {"path": work_path, "del": work_del, "=": work_put, "|=": work_update, "fold": work_fold}


def change(machine, part, scene):
    if scene.wants_places():
        machine.fail(NO_PLACE)
    else:
        work = CHANGING_WORKS[part.kind]
        work(machine, part, scene)
