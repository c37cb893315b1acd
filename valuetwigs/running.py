"""Runs a program: works its parts out till none waits."""

from valuetwigs.changing import change
from valuetwigs.giving import GIVING_WORKS
from valuetwigs.machine import Asked, Found, Machine, Scene
from valuetwigs.stops import NO_TURNS


def work_out(machine, part, scene):
    if not machine.spend_turn():
        machine.fail(NO_TURNS)
    elif part.kind in GIVING_WORKS:
        work = GIVING_WORKS[part.kind]
        work(machine, part, scene)
    else:
        change(machine, part, scene)


# The machine that is given back has what the program gave, and how it ended.
def run_program(turns, program, value):
    machine = Machine(turns)
    machine.ask(program, Scene(Found(value, None), ()))
    while len(machine.waiting) > 0:
        waiting = machine.waiting.pop()
        if isinstance(waiting, Asked):
            work_out(machine, waiting.part, waiting.scene)
        else:
            waiting.go_on(machine)
    return machine
