"""Plans with the least total distance, and evidence that no plan has less."""

from haulropes.checks import FARTHEST, MOST_BARGES, check_way, is_number
from haulropes.errors import InvalidCertificate
from haulropes.fleets import chain_table
from haulropes.hauling import move_barge
from haulropes.knots import barges_behind, crew_choices, crew_part, list_leaders

# Stands for the root of a tree of haulers where a barge stands for a hauler.
ROOT = -1


def least_distance(fleet, positions, goal, *, crew=None):
    """Return the least total distance of hauls by which a crew reaches a goal."""
    costs = edge_costs(fleet, positions, goal, crew)
    certificate, _ = use_up_costs(costs)
    return sum_weights(certificate)


def plan_shortest(fleet, positions, goal, *, crew=None):
    """Return hauls of the least total distance by which a crew reaches a goal."""
    costs = edge_costs(fleet, positions, goal, crew)
    _, free = use_up_costs(costs)
    table = chain_table(fleet)
    current = tuple(positions)
    plan = []
    for barge in order_haulers(free):
        if current[barge] < goal[barge]:
            plan.append((barge, goal[barge]))
            current = move_barge(table, current, barge, goal[barge])
    return plan


def distance_certificate(fleet, positions, goal, *, crew=None):
    """Return a certificate that shows the least total distance."""
    costs = edge_costs(fleet, positions, goal, crew)
    certificate, _ = use_up_costs(costs)
    return certificate


def check_certificate(fleet, positions, goal, certificate, *, crew=None):
    """Return the distance that a certificate shows, or None."""
    costs = edge_costs(fleet, positions, goal, crew)
    check_entries(certificate, list_haulers(costs))
    for edge in costs:
        if sum_weights(entries_over(certificate, edge)) > costs[edge]:
            return None
    return sum_weights(certificate)


def edge_costs(fleet, positions, goal, crew):
    """Return a dict with the cost of each edge (leader, hauler), where the leader may be ROOT.

    Raises the errors of all arguments that describe the way.
    """
    check_way(fleet, positions, goal)
    crew_choices(fleet, positions, goal, crew)
    haulers = crew_part(barges_behind(positions, goal), crew)
    table = chain_table(fleet)
    costs = {}
    for hauler in haulers:
        own_way = goal[hauler] - positions[hauler]
        costs[(ROOT, hauler)] = own_way
        for leader in haulers:
            if leader != hauler:
                costs[(leader, hauler)] = find_lag(own_way, goal[hauler] - goal[leader], table[leader][hauler])
    return costs


def find_lag(own_way, ahead, length):
    """Return the lag of a hauler whose goal is so far ahead of its leader's, with this chain between them."""
    if length is None:
        return own_way
    return min(own_way, ahead + length)


def list_haulers(costs):
    """Return the ascending list of the haulers with these costs."""
    return [hauler for leader, hauler in costs if leader == ROOT]


def use_up_costs(costs):
    """Return a certificate of the least tree, and the edges whose costs it uses up, in that order.

    Each entry uses up the cost of an edge into haulers to which no such edge led before, so in the
    end such edges lead from the root to all haulers.
    """
    haulers = list_haulers(costs)
    left = {edge: costs[edge] for edge in costs}
    free = [edge for edge in costs if costs[edge] == 0]
    certificate = []
    group = find_group(haulers, free)
    while group is not None:
        entering = [(leader, hauler) for leader, hauler in costs if hauler in group and leader not in group]
        weight = min([left[edge] for edge in entering])
        for edge in entering:
            left[edge] -= weight
            if left[edge] == 0:
                free.append(edge)
        certificate.append((tuple(group), weight))
        group = find_group(haulers, free)
    return certificate, free


def find_group(haulers, free):
    """Return the haulers of a smallest group into which no free edge leads, or None."""
    smallest = None
    for hauler in haulers:
        leaders = list_leaders(hauler, free)
        if ROOT not in leaders and (smallest is None or len(leaders) < len(smallest)):
            smallest = leaders
    return smallest


def order_haulers(free):
    """Return all haulers in the order of a least tree, each after the one that leads it."""
    reached = [ROOT]
    hauler = next_hauler(free, reached)
    while hauler is not None:
        reached.append(hauler)
        hauler = next_hauler(free, reached)
    return reached[1:]


def next_hauler(free, reached):
    """Return the hauler at the end of the first free edge that leads on, or None."""
    # The edges inside of a group stand ahead of those into it: so the tree enters no group twice.
    for leader, hauler in free:
        if leader in reached and hauler not in reached:
            return hauler
    return None


def check_entries(certificate, haulers):
    """Raise InvalidCertificate if a value is not a list of entries for these haulers."""
    if not isinstance(certificate, list):
        raise InvalidCertificate(0)
    for index, entry in enumerate(certificate):
        if not is_entry(entry, haulers):
            raise InvalidCertificate(index)


def is_entry(value, haulers):
    """Return whether a value is an entry of a certificate for these haulers."""
    if not isinstance(value, tuple) or len(value) != 2:
        return False
    group, weight = value
    if not isinstance(group, tuple) or len(group) == 0:
        return False
    least = 0
    for barge in group:
        if not is_number(barge, least, MOST_BARGES - 1) or barge not in haulers:
            return False
        least = barge + 1
    return is_number(weight, 0, 2 * FARTHEST)


def entries_over(certificate, edge):
    """Return the entries with the hauler of an edge and without its leader."""
    leader, hauler = edge
    return [(group, weight) for group, weight in certificate if hauler in group and leader not in group]


def sum_weights(certificate):
    """Return the sum of the weights of entries."""
    return sum([weight for _, weight in certificate])
