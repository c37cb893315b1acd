"""What the parts of a program give, but for those that need places.

Each work is called when its part's turn is spent. It answers at once, or asks
for other parts and says what is to be done with their answers.
"""

from valuetwigs.entries import at_key, entries_of, entry_of, field_of, is_key, with_field
from valuetwigs.kinds import TEXT, holds, make_list, make_truth
from valuetwigs.machine import first_stop
from valuetwigs.operations import operated, opposite
from valuetwigs.stops import ASKED_FOR, DONE, NO_TURNS, WRONG_KIND, WrongKind
from valuetwigs.words import made_by_word


def work_dot(machine, part, scene):
    machine.give(scene.found)


def work_literal(machine, part, scene):
    machine.make(scene, part.held)


def work_variable(machine, part, scene):
    for name, value in scene.names:
        if name == part.held:
            machine.make(scene, value)
            return
    machine.fail(WRONG_KIND)


def give_entry(machine, holder, key):
    try:
        value = at_key(holder.value, key)
    except WrongKind:
        machine.fail(WRONG_KIND)
    else:
        machine.give(holder.entry(key, value))


def work_field(machine, part, scene):
    machine.for_each(part.inner[0], scene, lambda holder: give_entry(machine, holder, part.held))


def work_at(machine, part, scene):

    def give_entries(key):
        if is_key(key.value):
            machine.for_each(part.inner[0], scene, lambda holder: give_entry(machine, holder, key.value))
        else:
            machine.fail(WRONG_KIND)

    machine.for_each(part.inner[1], scene.without_places(), give_entries)


def give_while_turns_last(machine, found):
    given = []
    for each in found:
        if not machine.spend_turn():
            machine.answer(given, NO_TURNS)
            return
        given.append(each)
    machine.answer(given, DONE)


def give_all_entries(machine, holder):
    try:
        entries = entries_of(holder.value)
    except WrongKind:
        machine.fail(WRONG_KIND)
    else:
        give_while_turns_last(machine, [holder.entry(key, value) for key, value in entries])


def work_each(machine, part, scene):
    machine.for_each(part.inner[0], scene, lambda holder: give_all_entries(machine, holder))


def work_try(machine, part, scene):
    machine.after(part.inner[0], scene,
                  lambda given, stop: machine.answer(given, NO_TURNS if stop == NO_TURNS else DONE))


def work_list(machine, part, scene):

    def gather(given, stop):
        if stop == DONE:
            machine.make(scene, make_list([found.value for found in given]))
        else:
            machine.fail(stop)

    machine.after(part.inner[0], scene.without_places(), gather)


# The fields behind this one win where both have its name.
def with_field_in_front(record, name, value):
    if field_of(record[1], name) is None:
        return with_field(record[1], name, value)
    return record


def work_pair(machine, part, scene):
    plain = scene.without_places()

    def take_record(record):

        def take_name(name):
            if name.value[0] == TEXT:
                machine.for_each(part.inner[1], plain, lambda found: machine.make(
                    scene, with_field_in_front(record.value, name.value[1], found.value)))
            else:
                machine.fail(WRONG_KIND)

        machine.for_each(part.inner[0], plain, take_name)

    machine.for_each(part.inner[2], plain, take_record)


def work_pipe(machine, part, scene):
    machine.for_each(part.inner[0], scene, lambda found: machine.ask(part.inner[1], scene.moved_to(found)))


def work_both(machine, part, scene):

    def go_on_behind(given, stop):
        if stop == DONE:
            machine.after(part.inner[1], scene, lambda more, last: machine.answer(given + more, last))
        else:
            machine.answer(given, stop)

    machine.after(part.inner[0], scene, go_on_behind)


def work_alternative(machine, part, scene):

    def choose(given, stop):
        kept = [found for found in given if holds(found.value)]
        if stop == NO_TURNS:
            machine.answer(kept, NO_TURNS)
        elif len(kept) > 0:
            machine.answer(kept, DONE)
        else:
            machine.ask(part.inner[1], scene)

    machine.after(part.inner[0], scene, choose)


def work_or_and(machine, part, scene):
    deciding = part.kind == "or"
    plain = scene.without_places()

    def decide(front):
        if holds(front.value) == deciding:
            machine.make(scene, make_truth(deciding))
        else:
            machine.for_each(part.inner[1], plain, lambda found: machine.make(scene, make_truth(holds(found.value))))

    machine.for_each(part.inner[0], plain, decide)


def work_operator(machine, part, scene):
    plain = scene.without_places()

    def take_front(front):
        machine.for_each(part.inner[1], plain, lambda behind: machine.make_by(
            scene, lambda: operated(part.kind, front.value, behind.value)))

    machine.for_each(part.inner[0], plain, take_front)


def work_minus(machine, part, scene):
    machine.for_each(part.inner[0], scene.without_places(),
                     lambda found: machine.make_by(scene, lambda: opposite(found.value)))


def work_if(machine, part, scene):
    machine.for_each(part.inner[0], scene.without_places(),
                     lambda found: machine.ask(part.inner[1] if holds(found.value) else part.inner[2], scene))


def work_let(machine, part, scene):
    machine.for_each(part.inner[0], scene.without_places(),
                     lambda found: machine.ask(part.inner[1], scene.naming(part.held, found.value)))


def work_empty(machine, part, scene):
    machine.give_nothing()


def work_error(machine, part, scene):
    machine.fail(ASKED_FOR)


def work_word(machine, part, scene):
    machine.make_by(scene, lambda: made_by_word(part.kind, scene.value_there()))


def work_select(machine, part, scene):

    def choose(found):
        if holds(found.value):
            machine.give(scene.found)
        else:
            machine.give_nothing()

    machine.for_each(part.inner[0], scene.without_places(), choose)


def work_first(machine, part, scene):

    def give_first(given, stop):
        ending = first_stop(given, stop)
        machine.answer(given[:1] if ending == DONE else [], ending)

    machine.after(part.inner[0], scene, give_first)


def work_has(machine, part, scene):

    def tell(key):
        if is_key(key.value):
            machine.make(scene, make_truth(entry_of(scene.value_there(), key.value) is not None))
        else:
            machine.fail(WRONG_KIND)

    machine.for_each(part.inner[0], scene.without_places(), tell)


GIVING_WORKS = {
    "dot": work_dot, "literal": work_literal, "variable": work_variable, "field": work_field, "at": work_at,
    "each": work_each, "try": work_try, "list": work_list, "pair": work_pair, "|": work_pipe, ",": work_both,
    "//": work_alternative, "or": work_or_and, "and": work_or_and, "==": work_operator, "!=": work_operator,
    "<": work_operator, "<=": work_operator, ">": work_operator, ">=": work_operator, "+": work_operator,
    "-": work_operator, "*": work_operator, "/": work_operator, "rest": work_operator, "minus": work_minus,
    "if": work_if, "let": work_let, "empty": work_empty, "error": work_error, "not": work_word, "length": work_word,
    "keys": work_word, "kind": work_word, "sort": work_word, "form": work_word, "value": work_word,
    "select": work_select, "first": work_first, "has": work_has,
}
