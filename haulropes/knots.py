"""Knots of barges that move together, and plans with the fewest hauls."""

from haulropes.checks import check_crew, check_way, is_barge
from haulropes.errors import CrewTooSmall


def moving_barges(fleet, positions, goal):
    """Return the ascending list of the barges whose goal is greater than their position."""
    check_way(fleet, positions, goal)
    return barges_behind(positions, goal)


def find_knots(fleet, positions, goal):
    """Return the knots as ascending lists, in the order of their first barges."""
    check_way(fleet, positions, goal)
    return list_knots(barges_behind(positions, goal), leading_links(fleet, positions, goal))


def find_source_knots(fleet, positions, goal):
    """Return the knots into which no leading rope leads, in the order of their first barges."""
    check_way(fleet, positions, goal)
    return list_source_knots(fleet, positions, goal)


def fewest_hauls(fleet, positions, goal):
    """Return the least number of hauls that reach a goal."""
    return len(find_source_knots(fleet, positions, goal))


def count_choices(fleet, positions, goal):
    """Return in how many ways one barge can be chosen from each source knot."""
    choices = 1
    for knot in find_source_knots(fleet, positions, goal):
        choices *= len(knot)
    return choices


def plan_fewest(fleet, positions, goal, *, crew=None):
    """Return the fewest hauls by which a crew reaches a goal."""
    check_way(fleet, positions, goal)
    choices = crew_choices(fleet, positions, goal, crew)
    return [(barges[0], goal[barges[0]]) for barges in choices]


def needs_haul(fleet, positions, goal, barges):
    """Return whether a value is a list of barges that shows that one of them must be hauled."""
    check_way(fleet, positions, goal)
    if not isinstance(barges, list) or len(barges) == 0:
        return False
    for barge in barges:
        if not is_barge(barge, fleet[0]) or goal[barge] == positions[barge]:
            return False
    return not is_led(barges, leading_links(fleet, positions, goal))


def barges_behind(positions, goal):
    """Return the ascending list of the barges that are not at their goal yet."""
    return [barge for barge, position in enumerate(positions) if goal[barge] > position]


def leading_links(fleet, positions, goal):
    """Return the front and rear barges of all leading ropes."""
    behind = barges_behind(positions, goal)
    links = []
    for front, rear, length in fleet[1]:
        if front in behind and rear in behind and goal[front] - goal[rear] == length:
            links.append((front, rear))
    return links


def list_leaders(barge, links):
    """Return the ascending list of all from which links lead to a barge, and of the barge itself."""
    found = [barge]
    waiting = [barge]
    while len(waiting) > 0:
        led = waiting.pop()
        for front, rear in links:
            if rear == led and front not in found:
                found.append(front)
                waiting.append(front)
    return sorted(found)


def is_led(barges, links):
    """Return whether a link leads from another barge to one of these barges."""
    for front, rear in links:
        if rear in barges and front not in barges:
            return True
    return False


def list_knots(barges, links):
    """Return the lists of barges that links tie together in both directions."""
    leaders = {barge: list_leaders(barge, links) for barge in barges}
    knots = []
    for barge in barges:
        knot = [other for other in leaders[barge] if barge in leaders[other]]
        if knot[0] == barge:
            knots.append(knot)
    return knots


def list_source_knots(fleet, positions, goal):
    """Return the source knots on a way that has been checked."""
    links = leading_links(fleet, positions, goal)
    knots = list_knots(barges_behind(positions, goal), links)
    return [knot for knot in knots if not is_led(knot, links)]


def crew_choices(fleet, positions, goal, crew):
    """Return for each source knot its barges that a crew can haul.

    Raises InvalidCrew for the crew, or CrewTooSmall if it can haul no barge of a knot.
    """
    check_crew(fleet, crew)
    choices = []
    for knot in list_source_knots(fleet, positions, goal):
        barges = crew_part(knot, crew)
        if len(barges) == 0:
            raise CrewTooSmall(tuple(knot))
        choices.append(barges)
    return choices


def crew_part(barges, crew):
    """Return the list of those of the barges that a crew can haul."""
    return [barge for barge in barges if crew is None or barge in crew]
