"""Roads: up against arrows to a top, over a tie or not, and down along arrows."""

from toldpushes.basics import is_list
from toldpushes.checks import check_plan, check_telling, check_thing
from toldpushes.drawing import both_ways, is_thing, reached, turned, walks
from toldpushes.errors import InvalidRoad, TooMany
from toldpushes.ratios import Ratio
from toldpushes.reckon import told

MOST_ROADS = 400


def tops_of(plan):
    """All tuples of two things that can be the tops of a road: of one thing twice, or of two tied things."""
    return [(thing, thing) for thing in range(plan.width)] + both_ways(plan.ties())


def all_roads(plan, start, end):
    """The list of all roads from the start to the end, however many."""
    against, tops = turned(plan.arrows()), tops_of(plan)
    ups = walks(against, start)
    downs = [walk[::-1] for walk in walks(against, end)]
    return [(list(up), list(down)) for up in ups for down in downs if (up[-1], down[0]) in tops]


def road_between(plan, start, end):
    """A road from the start to the end; None if there is none."""
    found = all_roads(plan, start, end)
    return found[0] if found else None


def roads_of(plan, start, end):
    """The sorted list of all roads from the start to the end: TooMany if there are more than a told list has."""
    found = all_roads(plan, start, end)
    if len(found) > MOST_ROADS:
        raise TooMany("roads", MOST_ROADS)
    return sorted(found)


def roads(plan, start, end):
    """The sorted list of all roads from the start to the end."""
    check_plan(plan)
    check_thing(plan, start)
    check_thing(plan, end)
    return roads_of(plan, start, end)


def is_joined(plan, start, end):
    """Whether there is a road from the start to the end."""
    check_plan(plan)
    check_thing(plan, start)
    check_thing(plan, end)
    against = turned(plan.arrows())
    ups, downs = reached(against, start), reached(against, end)
    return any([up in ups and down in downs for up, down in tops_of(plan)])


def steps_down(down):
    """The arrows along a list of things of which each pushes the next one."""
    return list(zip(down, down[1:]))


def is_walk_down(plan, values):
    """Whether a list of any values has one thing of the plan or more, each pushing the next one."""
    if len(values) == 0 or not all([is_thing(plan.width, thing) for thing in values]):
        return False
    arrows = plan.arrows()
    return all([step in arrows for step in steps_down(values)])


def is_road(plan, value):
    """Whether any value is a road of the plan, from whatever thing to whatever thing."""
    if not isinstance(value, tuple) or len(value) != 2 or not all([is_list(part) for part in value]):
        return False
    up, down = value
    if not is_walk_down(plan, up[::-1]) or not is_walk_down(plan, down):
        return False
    return (up[-1], down[0]) in tops_of(plan)


def is_road_between(plan, start, end, value):
    """Whether any value is a road of the plan from the start to the end."""
    return is_road(plan, value) and value[0][0] == start and value[1][-1] == end


def worth_of(pushes, own, road):
    """The worth of a road in told tables of pushes and own."""
    up, down = road
    found = own[up[-1]][down[0]]
    for start, end in steps_down(up[::-1]) + steps_down(down):
        found = found * pushes[start][end]
    return found


def road_worth(plan, telling, road):
    """The worth of the road in the telling."""
    check_plan(plan)
    check_telling(plan, telling)
    if not is_road(plan, road):
        raise InvalidRoad(road)
    return worth_of(told(telling[0]), told(telling[1]), road)


def table_by_roads(plan, telling):
    """The table of the telling, told by the worths of all roads."""
    check_plan(plan)
    check_telling(plan, telling)
    pushes, own = told(telling[0]), told(telling[1])
    things = range(plan.width)
    return [[Ratio.total([worth_of(pushes, own, road) for road in roads_of(plan, start, end)]) for end in things]
            for start in things]
