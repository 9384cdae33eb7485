"""Running programs: what they do once, and again and again."""

from math import gcd, lcm

from swapshelves.checks import check_between
from swapshelves.effects import order_of
from swapshelves.plans import check_plan, number_of_place
from swapshelves.program_parser import parse_program
from swapshelves.program_performer import Performer
from swapshelves.program_schedule import ticks_either_way
from swapshelves.states import TIME_LIMIT, check_state, moved, place_of_parcel
from swapshelves.tallies import counts_in, worths_of_shelves

# Every length that a route may have divides it.
ROUND_OF_TIMES = 60


def run_program(plan, state, source):
    """Return (plan, state) after a program."""
    check_plan(plan)
    check_state(plan, state)
    performer = performer_of(plan, parse_program(source, plan))
    time, carried, shelves = moved(plan, state, performer.perform_once(state[0]).effect)
    time += performer.total_ticks()
    check_between(time, -TIME_LIMIT, TIME_LIMIT)
    return performer.plan_after(), (time, carried, shelves)


def program_effect(plan, time, source):
    """Return (plan, ticks, effect) of a program for all states with a time."""
    check_plan(plan)
    performer = performer_of(plan, parse_program(source, plan))
    return performer.plan_after(), performer.total_ticks(), performer.perform_once(time).effect


def count_lefts(plan, state, source, parcel):
    """Return the list of how often a parcel is left on each shelf during a program."""
    check_plan(plan)
    check_state(plan, state)
    program = parse_program(source, plan)
    start = place_of_parcel(state, parcel)
    # A tick leaves a parcel once at most.
    worths = worths_of_shelves(len(plan[0]), ticks_either_way(program.blocks))
    change = Performer(plan, program, worths).perform_once(state[0])
    return counts_in(change.lefts[start], worths)


def program_order(plan, time, source):
    """Return after how many times a program has changed nothing but the time, or None."""
    check_plan(plan)
    performer = performer_of(plan, parse_program(source, plan))
    if performer.plan_after() != plan:
        return None
    # From the second time on is as good as from the first: only where the
    # circle begins is different, not how often it must be gone round.
    circle = performer.further_starts(performer.start(time))
    around = performer.idle
    for change in performer.perform(circle):
        around = around.then(change)
    until_time_fits = ROUND_OF_TIMES // gcd(ROUND_OF_TIMES, performer.total_ticks())
    return lcm(until_time_fits, len(circle) * order_of(around.effect))


def repetitions_to(plan, state, source, parcel, place):
    """Return after how many times of a program a parcel is at a place, or None."""
    check_plan(plan)
    check_state(plan, state)
    performer = performer_of(plan, parse_program(source, plan))
    start = place_of_parcel(state, parcel)
    target = number_of_place(plan, place)
    if start == target:
        return 0
    first = performer.start(state[0])
    circle = performer.further_starts(first)
    change, *further = performer.perform([first] + circle)
    stops = stops_in_circle(change.effect[start], [later.effect for later in further])
    return stops.index(target) + 1 if target in stops else None


def stops_in_circle(start, effects):
    """Return the places of a parcel from a place on, until it is there again before the first effect."""
    stops = [start]
    place = start
    while len(stops) == 1 or place != start:
        for effect in effects:
            place = effect[place]
            stops.append(place)
    return stops


def first_disagreement(plan, source, other):
    """Return the smallest time from 0 on for which two programs have different effects, or None."""
    check_plan(plan)
    programs = [parse_program(source, plan), parse_program(other, plan)]
    ones, others = [effects_in_round(plan, program) for program in programs]
    for time in range(ROUND_OF_TIMES):
        if ones[time] != others[time]:
            return time
    return None


def effects_in_round(plan, program):
    """Return the list of (plan, ticks, effect) of a program for all times from 0 to 59."""
    performer = performer_of(plan, program)
    changes = performer.perform([performer.start(time) for time in range(ROUND_OF_TIMES)])
    return [(performer.plan_after(), performer.total_ticks(), change.effect) for change in changes]


def performer_of(plan, program):
    """Return a performer for whom it does not count how often parcels are left."""
    return Performer(plan, program, [0] * len(plan[0]))
