"""Orders: a department that orders goods for consecutive periods."""

from everyfuture.curves import Curve
from everyfuture.departments import check_amount, check_decision, check_future, check_integers, check_open
from everyfuture.departments import check_row, check_whole_row, is_amount, is_reading, read_gauges
from everyfuture.ends import opposite
from everyfuture.errors import InvalidCertificate, InvalidPeriod
from everyfuture.futures import value_of
from everyfuture.lines import Line


class Orders:
    """Orders for periods (want, price, room, extra, hold, late), of which the first ones may be placed."""

    def __init__(self, periods, *, stock=0, urgent=0, placed=()):
        check_periods(periods)
        gauges = read_gauges([reading for period in periods for reading in period[:2]])
        check_amount(stock)
        check_amount(urgent)
        check_row(placed, len(periods))
        self.periods = tuple([tuple(period) for period in periods])
        self.stock = stock
        self.urgent = urgent
        self.placed = tuple(placed)
        self.gauges = gauges
        self.hour_gauges = ()

    def is_finished(self):
        """Return True if there is no open decision, otherwise False."""
        return len(self.placed) == len(self.periods)

    def allows(self, decision):
        """Return True if the decision may be placed next, otherwise False."""
        return not self.is_finished() and is_amount(decision)

    def after(self, decision):
        """Return the orders with the decision placed."""
        check_decision(self, decision)
        return Orders(self.periods, stock=self.stock, urgent=self.urgent, placed=self.placed + (decision,))

    def regret(self, decision, future):
        """Return how much more the decision costs in the future than the best one."""
        check_decision(self, decision)
        curve = self.curve(future)
        return curve(decision) - curve.lowest()[0]

    def directions(self, decision):
        """Return the two directions of the decision; the second one leads to greater or equal best orders."""
        check_decision(self, decision)
        present_price = self.periods[len(self.placed)][1]
        second = {gauge: -1 if gauge == present_price else 1 for gauge in self.gauges}
        return [opposite(second), second]

    def least(self, future):
        """Return the least cost in the future."""
        cost, stock, _, lines = outlook(self, future)
        to_go = lines[0]
        return cost + to_go(stock)

    def level(self, future, limit):
        """Return the stretch list of the decisions whose regret in the future is at most the limit."""
        return self.curve(future).level(limit)

    def curve(self, future):
        """Return the curve whose value at x is the least cost after the decision x."""
        check_open(self)
        cost, stock, rows, lines = outlook(self, future)
        return order_curve(rows[0], lines[1], cost, stock)

    def finish(self, future):
        """Return the completion in which each decision is the least one of the best decisions."""
        _, stock, rows, lines = outlook(self, future)
        return best_orders(rows, lines, stock)

    def check_completion(self, decisions):
        """Raise an error if the list is no completion."""
        check_whole_row(decisions, len(self.periods) - len(self.placed))

    def cost(self, decisions, future):
        """Return the cost of the completion in the future."""
        self.check_completion(decisions)
        check_future(self, future)
        cost, stock = carried_out(valued(self.periods, future), self.placed + tuple(decisions), self.stock)
        return cost + self.urgent * max(0, -stock)

    def certificate(self, future):
        """Return a certificate that is valid in the future and whose bound is the least cost."""
        _, stock, rows, lines = outlook(self, future)
        return unit_values(rows, lines, stock)

    def bound(self, certificate, future):
        """Return the bound of the certificate in the future."""
        check_future(self, future)
        rows = valued(self.periods, future)[len(self.placed):]
        check_certificate(certificate, rows, self.urgent)
        if not rows:
            return self.least(future)
        wants = [value * row[0] for value, row in zip(certificate, rows)]
        rooms = [row[2] * max(0, value - row[1]) for value, row in zip(certificate, rows)]
        return self.spent(future) + sum(wants) - sum(rooms) - certificate[0] * self.stock_now(future)

    def spent(self, future):
        """Return the sum of the costs of the periods with a placed order."""
        check_future(self, future)
        return carried_out(valued(self.periods, future), self.placed, self.stock)[0]

    def stock_now(self, future):
        """Return the stock after the periods with a placed order."""
        check_future(self, future)
        return carried_out(valued(self.periods, future), self.placed, self.stock)[1]

    def to_go(self, future):
        """Return the line of the lowest costs of the remaining periods for each stock before them."""
        _, _, _, lines = outlook(self, future)
        return lines[0]


def check_periods(periods):
    """Raise an error for the first period with too small an integer or a wrong name."""
    for at, (want, price, room, extra, hold, late) in enumerate(periods):
        if not is_reading(want, 0) or not is_reading(price, 0) or min(room, extra, hold - 1, late) < 0:
            raise InvalidPeriod(at)


def valued(periods, future):
    """Return the periods as rows with the values of their readings."""
    return [(value_of(period[0], future), value_of(period[1], future)) + period[2:] for period in periods]


def carried_out(rows, orders, stock):
    """Return a pair of the cost of the first periods with these orders and of the stock after them."""
    cost = 0
    for (want, price, room, extra, hold, late), order in zip(rows, orders):
        stock = stock + order - want
        cost = cost + price * order + extra * max(0, order - room) + hold * max(0, stock) + late * max(0, -stock)
    return cost, stock


def outlook(orders, future):
    """Return the cost so far, the stock now, and the rows and the lines (see `lines_to_go`) of what is to come."""
    check_future(orders, future)
    rows = valued(orders.periods, future)
    cost, stock = carried_out(rows, orders.placed, orders.stock)
    remaining = rows[len(orders.placed):]
    return cost, stock, remaining, lines_to_go(remaining, orders.urgent)


def bent_line(left, right):
    """Return the line with the value 0 at 0, one slope below and another one, which is not less, from there on."""
    return Line(0, left, [(0, right - left)] if left < right else [])


def lines_to_go(rows, urgent):
    """Return the lines of the lowest costs for each stock: before the first row, .., and behind the last one."""
    lines = [bent_line(-urgent, 0)]
    for row in rows[::-1]:
        _, price, room, extra, _, _ = row
        lines.append(line_on_arrival(row, lines[-1]).fed(price, room, extra))
    return lines[::-1]


def line_on_arrival(row, after):
    """Return the line of the lowest costs for each stock that there is when the order of this period has arrived."""
    want, _, _, _, hold, late = row
    return (bent_line(-late, hold) + after).moved(want)


def order_curve(row, after, cost, stock):
    """Return the curve of the lowest costs for each order of this period, which come on top of the cost so far."""
    _, price, room, extra, _, _ = row
    buying = Line(cost, price, [(room, extra)] if extra > 0 else [])
    line = buying + line_on_arrival(row, after).moved(-stock)
    starts = [0] + [position for position, _ in line.corners if position > 0]
    return Curve(line.base, [(start, line.slope(start)) for start in starts])


def best_orders(rows, lines, stock):
    """Return the least best order of each row, after those before it."""
    orders = []
    for row, after in zip(rows, lines[1:]):
        _, order, _ = order_curve(row, after, 0, stock).lowest()
        orders.append(order)
        stock = stock + order - row[0]
    return orders


def unit_values(rows, lines, stock):
    """Return the value of a unit in each row, so that together they prove the least cost.

    A unit is worth what the line falls by there. Where a line bends, several values are possible; each is chosen so
    that it differs from the one before it by what holding or lacking a unit in between costs.
    """
    values = []
    value = -lines[0].slope(stock)
    for row, order, after in zip(rows, best_orders(rows, lines, stock), lines[1:]):
        want, _, _, _, hold, late = row
        values.append(value)
        stock = stock + order - want
        value = min(-after.slope(stock - 1), value + (hold if stock >= 0 else -late))
    return values


def check_certificate(certificate, rows, urgent):
    """Raise an error with the place of the first fault if the list of values of a unit is not valid."""
    check_integers(certificate, len(rows))
    for at, row in enumerate(rows):
        if not is_value_fine(certificate[at:at + 2], row, urgent):
            raise InvalidCertificate(at)


def is_value_fine(values, row, urgent):
    """Return True if the first value, beside the one after it if there is one, is possible, otherwise False."""
    _, price, _, extra, hold, late = row
    if price + extra < values[0]:
        return False
    if len(values) == 1:
        return -hold <= values[0] <= late + urgent
    return -late <= values[1] - values[0] <= hold
