"""The texts of departments.

A recipe is what a text says of one department: its class, its arguments and its placed decisions. All lines are read
before the first department is created.
"""

from everyfuture.errors import InvalidText
from everyfuture.houses import House
from everyfuture.orders import Orders
from everyfuture.plans import Plans
from everyfuture.promises import Promises
from everyfuture.terms import is_price
from everyfuture.words import amount_of, begins, check_end, exact_rest, integer_of, line_of
from everyfuture.words import reading_of, rest_of, rows_of
from everyfuture.works import Works


def write_department(department):
    """Return the text of the department."""
    if isinstance(department, House):
        head = line_of("house", [len(department.parts)])
        return "\n".join([head] + [write_department(part) for part in department.parts])
    return "\n".join(head_lines(department) + [line_of("placed", department.placed)])


def read_department(text):
    """Return the department that the text describes."""
    rows = rows_of(text)
    recipes, many = recipes_in(rows)
    check_end(rows, many)
    made = []
    for recipe in recipes:
        if recipe[0] == "house":
            first = len(made) - recipe[1]
            made = made[:first] + [House(made[first:])]
        else:
            made.append(made_from(recipe))
    return made[0]


def head_lines(department):
    """Return the lines of a department that is no house, without the one of its placed decisions."""
    if isinstance(department, Orders):
        head = line_of("orders", [department.stock, department.urgent])
        return [head] + [line_of("period", period) for period in department.periods]
    if isinstance(department, Plans):
        return [line_of("plans", [term_text(department.term)])]
    if isinstance(department, Works):
        projects = [[f"{hours}:{worth}" for hours, worth in project] for project in department.projects]
        return ["works"] + [line_of("project", project) for project in projects]
    head = [line_of("promises", [department.fine]), line_of("rates", department.rates)]
    return head + [line_of("slot", row) for row in department.table]


def term_text(term):
    """Return the words of the term."""
    if is_price(term):
        return str(term)
    return line_of("(", [term[0]] + [term_text(part) for part in term[1]] + [")"])


def recipes_in(rows):
    """Return the recipes in the order of creation, a house after its departments, and how many rows they take."""
    recipes = []
    # How many departments are still missing: of the text, which has one, and of each house that has begun.
    missing, counts = [1], []
    at = 0
    while missing:
        if missing[-1] == 0:
            missing.pop()
            if counts:
                recipes.append(("house", counts.pop()))
            continue
        missing[-1] = missing[-1] - 1
        if begins(rows, at, "house"):
            count = amount_of(exact_rest(rows, at, "house", 1)[0], at + 1)
            missing.append(count)
            counts.append(count)
            at += 1
        else:
            recipe, at = recipe_in(rows, at)
            recipes.append(recipe)
    return recipes, at


def recipe_in(rows, at):
    """Return the recipe of the department, no house, that begins with the row, and the index of the row behind it."""
    if begins(rows, at, "orders"):
        word, values, after = orders_in(rows, at)
    elif begins(rows, at, "plans"):
        word, values, after = "plans", term_of(rest_of(rows, at, "plans"), at + 1), at + 1
    elif begins(rows, at, "works"):
        word, values, after = works_in(rows, at)
    elif begins(rows, at, "promises"):
        word, values, after = promises_in(rows, at)
    else:
        raise InvalidText(at + 1)
    placed = [integer_of(entry, after + 1) for entry in rest_of(rows, after, "placed")]
    return (word, values, placed), after + 1


def orders_in(rows, at):
    """Return the word and the values of the recipe of orders, and the index of the row behind the last period."""
    stock, urgent = [integer_of(word, at + 1) for word in exact_rest(rows, at, "orders", 2)]
    periods = []
    at += 1
    while begins(rows, at, "period"):
        words = exact_rest(rows, at, "period", 6)
        readings = readings_of(words[:2], at + 1)
        periods.append(tuple(readings + [integer_of(word, at + 1) for word in words[2:]]))
        at += 1
    return "orders", (stock, urgent, periods), at


def works_in(rows, at):
    """Return the word and the values of the recipe of works, and the index of the row behind the last project."""
    exact_rest(rows, at, "works", 0)
    projects = []
    at += 1
    while begins(rows, at, "project"):
        projects.append([step_of(word, at + 1) for word in rest_of(rows, at, "project")])
        at += 1
    return "works", projects, at


def promises_in(rows, at):
    """Return the word and the values of the recipe of promises, and the index of the row behind the last slot."""
    fine = integer_of(exact_rest(rows, at, "promises", 1)[0], at + 1)
    rates = [integer_of(word, at + 2) for word in rest_of(rows, at + 1, "rates")]
    table = []
    at += 2
    while begins(rows, at, "slot"):
        table.append(readings_of(rest_of(rows, at, "slot"), at + 1))
        at += 1
    return "promises", (fine, rates, table), at


def readings_of(words, line):
    """Return the readings of the words of the line."""
    return [reading_of(word, line) for word in words]


def step_of(word, line):
    """Return the pair of hours and worth of the word in the line."""
    hours, _, worth = word.partition(":")
    return reading_of(hours, line), reading_of(worth, line)


def term_of(words, line):
    """Return the term of the words of the line."""
    begun = []
    at = 0
    while at < len(words):
        if words[at] == "(":
            # This part of the list is empty if the bracket is the last word.
            if words[at + 1:at + 2] not in (["all"], ["one"]):
                raise InvalidText(line)
            begun.append((words[at + 1], []))
            at += 2
            continue
        if words[at] != ")":
            term = reading_of(words[at], line)
        elif begun:
            term = begun.pop()
        else:
            raise InvalidText(line)
        at += 1
        if begun:
            begun[-1][1].append(term)
        else:
            check_last(at, words, line)
            return term
    raise InvalidText(line)


def check_last(many, words, line):
    """Raise an error if there are more words than so many."""
    if many < len(words):
        raise InvalidText(line)


def made_from(recipe):
    """Return the department of the recipe, which is no house."""
    word, values, placed = recipe
    if word == "orders":
        stock, urgent, periods = values
        return Orders(periods, stock=stock, urgent=urgent, placed=placed)
    if word == "plans":
        return Plans(values, placed=placed)
    if word == "works":
        return Works(values, placed=placed)
    fine, rates, table = values
    return Promises(rates, table, fine=fine, placed=placed)
