"""Terms: prices, sums of terms and choices between terms.

A price is a reading, a sum the tuple ("all", parts), and a choice the tuple ("one", parts).
"""

from everyfuture.departments import is_amount, is_reading, read_gauges
from everyfuture.errors import InvalidPlan, InvalidTerm
from everyfuture.futures import value_of


def is_price(term):
    """Return True if the term is a reading, otherwise False."""
    # Gauges may be called "all" and "one", too; so the first sign of a string must not be looked at.
    return isinstance(term, (int, str))


def is_choice(term):
    """Return True if one of the parts of the term must be chosen, otherwise False."""
    return not is_price(term) and term[0] == "one"


def parts_of(term):
    """Return the list of the parts of the term, which is empty for a price and for a tuple with a wrong word."""
    if is_price(term) or term[0] not in ("all", "one"):
        return []
    return list(term[1])


def nodes_of(term):
    """Return the list of the nodes of the term, a node before those of its parts."""
    nodes = []
    todo = [term]
    while todo:
        nodes.append(todo[0])
        todo = parts_of(todo[0]) + todo[1:]
    return nodes


def is_node_fine(node):
    """Return True if the node itself, whatever its parts are, may stand in a term, otherwise False."""
    if is_price(node):
        return is_reading(node, 0)
    return node[0] == "all" or (node[0] == "one" and len(node[1]) > 0)


def check_term(term):
    """Raise an error for the first node that is wrong, then for the first gauge that is read for the second time."""
    nodes = nodes_of(term)
    for number, node in enumerate(nodes):
        if not is_node_fine(node):
            raise InvalidTerm(number)
    gauges_of(term)


def gauges_of(term):
    """Return the gauges of the term in ascending order, as a tuple."""
    return read_gauges([node for node in nodes_of(term) if is_price(node)])


def copied(term):
    """Return a copy of the term with tuples for all lists of parts."""
    if is_price(term):
        return term
    return term[0], tuple([copied(part) for part in term[1]])


def open_parts(term):
    """Return the parts of the first choice of the term; none if nothing is left to be chosen."""
    choices = [node for node in nodes_of(term) if is_choice(node)]
    return choices[0][1] if choices else ()


def with_part(term, decision):
    """Return the term with its first choice, which must exist, replaced by the part with this index."""
    if is_choice(term):
        return term[1][decision]
    parts = term[1]
    at = min([place for place, part in enumerate(parts) if open_parts(part)])
    return term[0], parts[:at] + (with_part(parts[at], decision),) + parts[at + 1:]


def chosen_term(term, decisions):
    """Return the term after the decisions, or raise an error for the first one that cannot be placed."""
    for at, decision in enumerate(decisions):
        if not is_amount(decision) or len(open_parts(term)) <= decision:
            raise InvalidPlan(at)
        term = with_part(term, decision)
    return term


def node_costs(term, future):
    """Return the list of the least costs of the nodes of the term, in the order of the nodes."""
    if is_price(term):
        return [value_of(term, future)]
    rows = [node_costs(part, future) for part in term[1]]
    costs = [row[0] for row in rows]
    own = min(costs) if is_choice(term) else sum(costs)
    return [own] + [cost for row in rows for cost in row]


def least_cost(term, future):
    """Return the cost of the term if each choice costs as much as the cheapest of its parts."""
    return node_costs(term, future)[0]


def best_choices(term, future):
    """Return the list of the choices in order, always the first one of the cheapest parts."""
    if is_price(term):
        return []
    if not is_choice(term):
        return [choice for part in term[1] for choice in best_choices(part, future)]
    costs = [least_cost(part, future) for part in term[1]]
    cheapest = costs.index(min(costs))
    return [cheapest] + best_choices(term[1][cheapest], future)
