"""Simulations: what happens if requests with one key are played with a schedule."""

from onceonly.play import Play
from onceonly.schedules import check_schedule, check_times
from onceonly.windows import check_windows


def played(system, windows, times, schedule):
    """Return the play of requests with a schedule after its last arrival."""
    check_windows(system, windows)
    check_times(times)
    check_schedule(schedule, system[1], len(times))
    play = Play(system, windows)
    for time in times:
        play.add_request(time)
    for entry in schedule:
        play.decide(entry[:4], entry[4])
    while play.queue:
        play.execute_next()
    return play


def simulate(system, windows, times, schedule):
    """Return the list of all events of requests with the same key."""
    return played(system, windows, times, schedule).events


def count_acts(system, windows, times, schedule):
    """Return the list of the numbers of acts of all services."""
    return played(system, windows, times, schedule).numbers_of_acts()
