"""Works: a department that carries out the steps of projects, one after another."""

from everyfuture.departments import check_decision, check_entries, check_future, check_open, kind_for
from everyfuture.departments import is_amount, is_list, is_reading, is_whole, read_gauges
from everyfuture.ends import ends, opposite
from everyfuture.errors import InvalidCertificate, InvalidDecision, InvalidPlan, InvalidStep
from everyfuture.futures import value_of
from everyfuture.sections import first_section, is_less, make_ratio, ratio_span, sections
from everyfuture.stretches import join_stretches


class Works:
    """Projects, lists of steps (hours, worth); the first steps of each may have been carried out."""

    def __init__(self, projects, *, placed=()):
        check_steps(projects)
        gauges = read_gauges([reading for project in projects for step in project for reading in step])
        check_projects(placed, [len(project) for project in projects])
        self.projects = tuple([tuple([(hours, worth) for hours, worth in project]) for project in projects])
        self.placed = tuple(placed)
        self.gauges = gauges
        self.hour_gauges = hour_gauges_of(self.projects)

    def choices(self):
        """Return the list of the decisions that may be placed next."""
        return [project for project, many in enumerate(steps_left(self)) if many > 0]

    def is_finished(self):
        """Return True if there is no open decision, otherwise False."""
        return not self.choices()

    def allows(self, decision):
        """Return True if the decision may be placed next, otherwise False."""
        return has_step(steps_left(self), decision)

    def after(self, decision):
        """Return the works with the decision placed."""
        check_decision(self, decision)
        return Works(self.projects, placed=self.placed + (decision,))

    def regret(self, decision, future):
        """Return how much more the decision costs in the future than the best one."""
        check_decision(self, decision)
        check_future(self, future)
        hour, cost, rows = outlook(self, future)
        return cost_after(hour, cost, rows, decision) - cost_to_go(hour, cost, rows)

    def directions(self, decision):
        """Return a list with the direction of the decision, in which its regret never falls."""
        check_decision(self, decision)
        own = [reading for step in self.projects[decision] for reading in step]
        # Longer hours speak against a project and for the others, greater worths the other way round.
        return [{gauge: 1 if (gauge in own) == (gauge in self.hour_gauges) else -1 for gauge in self.gauges}]

    def least(self, future):
        """Return the least cost in the future."""
        check_future(self, future)
        hour, cost, rows = outlook(self, future)
        return cost_to_go(hour, cost, rows)

    def level(self, future, limit):
        """Return the stretch list of the decisions whose regret in the future is at most the limit."""
        check_open(self)
        check_future(self, future)
        hour, cost, rows = outlook(self, future)
        most = cost_to_go(hour, cost, rows) + limit
        return join_stretches([(at, at) for at in self.choices() if cost_after(hour, cost, rows, at) <= most])

    def finish(self, future):
        """Return the completion in which each decision is the least one of the best decisions."""
        check_future(self, future)
        _, _, rows = outlook(self, future)
        decisions = []
        while any(rows):
            best = best_project(rows)
            decisions.append(best)
            rows = without_step(rows, best)
        return decisions

    def check_completion(self, decisions):
        """Raise an error if the list is no completion."""
        if not is_list(decisions):
            raise InvalidPlan(0)
        left = steps_left(self)
        check_projects(decisions, left)
        if len(decisions) < sum(left):
            raise InvalidPlan(len(decisions))

    def cost(self, decisions, future):
        """Return the cost of the completion in the future."""
        self.check_completion(decisions)
        check_future(self, future)
        return carried_out(valued(self.projects, future), self.placed + tuple(decisions))[1]

    def certificate(self, future):
        """Return a certificate that is valid in the future and whose bound is the least cost."""
        check_future(self, future)
        _, _, rows = outlook(self, future)
        return [section_ends(row) for row in rows]

    def bound(self, certificate, future):
        """Return the bound of the certificate in the future."""
        check_future(self, future)
        check_entries(certificate, len(self.projects))
        hour, cost, rows = outlook(self, future)
        parts = []
        for at, (row, cuts) in enumerate(zip(rows, certificate)):
            if not are_cuts(cuts, len(row)) or not all([is_led_whole(part) for part in cut_apart(row, cuts)]):
                raise InvalidCertificate(at)
            parts = parts + cut_apart(row, cuts)
        return parts_cost(hour, cost, parts)

    def lead(self, project, future):
        """Return the ratio of the first section of the remaining steps of the project; None if there are none."""
        check_project(self, project)
        check_future(self, future)
        _, _, rows = outlook(self, future)
        if not rows[project]:
            return None
        _, worth, hours = first_section(rows[project])
        return make_ratio(worth, hours)


def check_steps(projects):
    """Raise an error for the first step with too small an integer or a wrong name."""
    for at, project in enumerate(projects):
        for number, (hours, worth) in enumerate(project):
            if not is_reading(hours, 1) or not is_reading(worth, 0):
                raise InvalidStep(at, number)


def hour_gauges_of(projects):
    """Return the gauges that are read as hours, in ascending order."""
    hours = [step[0] for project in projects for step in project]
    return tuple(sorted([reading for reading in hours if isinstance(reading, str)]))


def has_step(left, decision):
    """Return True if it is the index of a project of which a step is left, otherwise False."""
    return is_amount(decision) and decision < len(left) and left[decision] > 0


def check_projects(decisions, lengths):
    """Raise an error for the first decision that carries out no step, if so many steps of each project are left."""
    left = list(lengths)
    for at, decision in enumerate(decisions):
        if not has_step(left, decision):
            raise InvalidPlan(at)
        left[decision] = left[decision] - 1


def check_project(works, project):
    """Raise an error if there is no such project; one without remaining steps is fine."""
    if not is_amount(project) or len(works.projects) <= project:
        raise InvalidDecision(project)


def steps_left(works):
    """Return the number of the remaining steps of each project."""
    return [len(project) - works.placed.count(at) for at, project in enumerate(works.projects)]


def valued(projects, future):
    """Return the projects with the values of the readings of their steps."""
    return [[(value_of(hours, future), value_of(worth, future)) for hours, worth in project] for project in projects]


def carried_out(rows, decisions):
    """Return a pair of the hour at which these steps are all done, and their cost."""
    hour = cost = 0
    done = [0] * len(rows)
    for decision in decisions:
        hours, worth = rows[decision][done[decision]]
        done[decision] = done[decision] + 1
        hour = hour + hours
        cost = cost + worth * hour
    return hour, cost


def outlook(works, future):
    """Return the present hour, the cost so far, and the remaining steps of each project with their values."""
    rows = valued(works.projects, future)
    hour, cost = carried_out(rows, works.placed)
    return hour, cost, [row[works.placed.count(at):] for at, row in enumerate(rows)]


def without_step(rows, decision):
    """Return the steps of each project without the first one of this project."""
    return [row[1:] if at == decision else row for at, row in enumerate(rows)]


def section_ends(row):
    """Return the index behind the last step of each section."""
    return [end for _, end, _, _ in sections(row)]


def cut_apart(row, cuts):
    """Return the parts into which the cuts divide the steps."""
    return [row[start:end] for start, end in zip([0] + list(cuts), cuts)]


def parts_cost(hour, cost, parts):
    """Return the lowest cost if the parts, which may come in any order, are carried out whole from this hour on."""
    total = cost
    before = []
    for part in parts:
        hours, inner = carried_out([part], [0] * len(part))
        worth = sum([step[1] for step in part])
        total = total + inner + worth * hour
        # Of two parts one must wait for the other one; the one with the greater ratio goes first.
        total = total + sum([min(worth * other[0], other[1] * hours) for other in before])
        before.append((hours, worth))
    return total


def cost_to_go(hour, cost, rows):
    """Return the least cost if these steps of each project remain."""
    return parts_cost(hour, cost, [part for row in rows for part in cut_apart(row, section_ends(row))])


def cost_after(hour, cost, rows, decision):
    """Return the least cost after the decision if these steps of each project remain before it."""
    hours, worth = rows[decision][0]
    return cost_to_go(hour + hours, cost + worth * (hour + hours), without_step(rows, decision))


def best_project(rows):
    """Return the first project with the greatest lead if these steps of each project remain."""
    best, greatest = None, None
    for at, row in enumerate(rows):
        if row:
            _, worth, hours = first_section(row)
            if best is None or is_less(greatest, (worth, hours)):
                best, greatest = at, (worth, hours)
    return best


def are_cuts(cuts, many):
    """Return True if it is an ascending list from at least 1 to the number of steps, otherwise False."""
    if not is_list(cuts) or not all([is_whole(cut) for cut in cuts]):
        return False
    steps = [0] + list(cuts)
    return steps[-1] == many and all([one < two for one, two in zip(steps, steps[1:])])


def is_led_whole(part):
    """Return True if no beginning of the steps has a greater ratio than all of them, otherwise False."""
    many, _, _ = first_section(part)
    return many == len(part)


def lead_span(works, project, kind):
    """Return a pair of the least and the greatest lead of the project in the kind; None if no steps remain."""
    check_project(works, project)
    own = kind_for(works, kind)
    if not works.allows(project):
        return None
    # The lead falls with longer hours and smaller worths of the project, so in the direction of its decision.
    falling = works.directions(project)[0]
    futures = ends(own, falling) + ends(own, opposite(falling))
    return ratio_span([works.lead(project, future) for future in futures])
