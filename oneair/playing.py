"""Stations that share one air, moment by moment."""

from oneair.errors import BadWakes
from oneair.rules import check_many, check_rule, is_whole
from oneair.stations import Station

LATEST_WAKE = 40


def play(rule, many, wakes):
    """Tell whether a run is over or goes on for ever, its moments, and how many it goes around in."""
    check_many(many)
    check_rule(rule, many)
    check_wakes(wakes, many)
    stations = [Station(rule, many, number) for number in range(many)]
    last_wake = max(wakes.values(), default=0)
    left = len(wakes)
    stood = {}
    told = []
    while left > 0:
        moment = len(told)
        if moment >= last_wake:
            standing = tuple([station.standing() for station in stations])
            if standing in stood:
                return "forever", told, moment - stood[standing]
            stood[standing] = moment
        awake = [number in wakes and wakes[number] <= moment for number in range(many)]
        speakers, word = one_moment(stations, awake)
        told.append((speakers, word))
        if word == "heard":
            left -= 1
    return "heard", told, 0


def times(rule, many, wakes):
    """Tell in which moments stations are heard, by their numbers."""
    heard = {}
    for moment, (speakers, word) in enumerate(play(rule, many, wakes)[1]):
        if word == "heard":
            heard[speakers[0]] = moment
    return {number: heard[number] for number in sorted(heard)}


def check_wakes(wakes, many):
    """Refuse what are no wakes of so many stations."""
    wrong = [number for number, moment in wakes.items()
             if not is_whole(number, 0, many - 1) or not is_whole(moment, 0, LATEST_WAKE)]
    if len(wrong) > 0:
        raise BadWakes(min(wrong))


def one_moment(stations, awake):
    """Ask all stations, and tell all what is heard; tell who speaks, and that word."""
    asked = [station.speaks(awake[number]) for number, station in enumerate(stations)]
    speakers = tuple([number for number, spoke in enumerate(asked) if spoke])
    word = heard_word(len(speakers))
    for station in stations:
        station.hears(word)
    return speakers, word


def heard_word(many_speak):
    """What is heard if so many speak at once."""
    if many_speak == 0:
        return "silent"
    if many_speak == 1:
        return "heard"
    return "noise"
