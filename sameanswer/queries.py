"""Queries: their problems, their plans, and how they are run (points [18] to [23])."""

from itertools import permutations

from sameanswer.catalog import index_key, indexes, kind_of, row_key, row_key_behind, table
from sameanswer.errors import Refused
from sameanswer.keys import prefix_range, row_order


def check_query(look, query):
    """Raises Refused with the first problem of the query, if it has one."""
    sources_of(look, query)


def plans(look, query):
    """The list of the plans of the query."""
    return plans_over(sources_of(look, query), query)


def chosen(plans_list):
    """The plan that is used: the one with the fewest table steps, then that with the greatest sum of counts."""
    return min(plans_list, key=plan_cost)


def run_plan(look, query, plan):
    """The answer of the query by this plan."""
    return answer_of(query, choices_by(look, sources_of(look, query), query, plan))


def answer(look, query):
    """The answer of the query by the plan that is chosen."""
    return answer_of(query, matches(look, query)[1])


def plain(look, query):
    """The answer of the query by its plain meaning."""
    return run_plan(look, query, tuple([(alias, ("table",)) for alias, _ in query[2]]))


def matches(look, query):
    """The sources of the query, and the choices of rows by the plan that is chosen."""
    sources = sources_of(look, query)
    plan = chosen(plans_over(sources, query))
    return sources, choices_by(look, sources, query, plan)


def sources_of(look, query):
    """A dict with (table, shape, indexes) for each alias. Raises Refused with the first problem of the query."""
    sources = {}
    for alias, name in query[2]:
        shape = table(look, name)
        # The indexes are looked at even if there is no table: what is looked at must not depend on problems.
        sources[alias] = name, shape, indexes(look, name)
    problem = first_problem(sources, query)
    if problem is not None:
        raise Refused(problem)
    return sources


def first_problem(sources, query):
    """The first problem of the query, or None."""
    _, outputs, pairs, conditions = query
    for alias, name in pairs:
        if sources[alias][1] is None:
            return "no table", name
    for _, left, right in conditions:
        problem = missing_column(sources, (left, right))
        if problem is not None:
            return problem
        if operand_kind(sources, left) != operand_kind(sources, right):
            return ("kinds",)
    problem = missing_column(sources, output_operands(outputs))
    if problem is None and outputs[0] == "sum" and operand_kind(sources, outputs[1]) != "integer":
        problem = ("kinds",)
    return problem


def missing_column(sources, operands):
    """The problem of the first operand that is a column which is not there, or None."""
    for operand in operands:
        if operand[0] == "column":
            _, alias, number = operand
            if alias not in sources or number < 0 or number >= len(kinds_of(sources, alias)):
                return "no column", alias, number
    return None


def kinds_of(sources, alias):
    """The kinds of the columns of a source."""
    _, (_, kinds), _ = sources[alias]
    return kinds


def output_operands(outputs):
    """The operands of the outputs, which may be a total."""
    return outputs[1:] if outputs[0] in ("count", "sum") else outputs


def operand_kind(sources, operand):
    """The kind of an operand; a column must be there."""
    if operand[0] == "value":
        return kind_of(operand[1])
    _, alias, number = operand
    return kinds_of(sources, alias)[number]


def plans_over(sources, query):
    """The list of the plans of a query without a problem."""
    _, _, pairs, conditions = query
    aliases = [alias for alias, _ in pairs]
    found = []
    for order in permutations(aliases):
        found.extend(plans_in_order(sources, conditions, order))
    return found


def plans_in_order(sources, conditions, order):
    """The list of the plans with the sources in this order; the ways of the first step change last."""
    found = [()]
    for place, alias in enumerate(order):
        givers = givers_of(conditions, alias, order[:place])
        ways = ways_of(sources[alias], givers)
        found = [plan + ((alias, way),) for plan in found for way in ways]
    return found


def givers_of(conditions, alias, earlier):
    """A dict with the operand that gives it for each column of the source that is given behind the earlier sources."""
    givers = {}
    for operator, left, right in conditions:
        if operator == "=":
            for column, giver in ((left, right), (right, left)):
                if is_of(column, (alias,)) and (giver[0] == "value" or is_of(giver, earlier)):
                    # The first condition in the query counts.
                    givers.setdefault(column[2], giver)
    return givers


def is_of(operand, aliases):
    """True if the operand is a column of one of these sources."""
    return operand[0] == "column" and operand[1] in aliases


def ways_of(source, givers):
    """The list of the ways to find the rows of a source, in their order."""
    _, shape, found = source
    ways = [("table",)]
    for count in range(1, given_count(list(range(shape[0])), givers) + 1):
        ways.append(("key", count))
    for index in sorted(found):
        for count in range(1, given_count(found[index], givers) + 1):
            ways.append(("index", index, count))
    return ways


def given_count(columns, givers):
    """How many of the columns, from the first one on, are given."""
    count = 0
    for column in columns:
        if column not in givers:
            return count
        count += 1
    return count


def plan_cost(plan):
    """What the chosen plan has the least of."""
    counts = [way[-1] for _, way in plan if way != ("table",)]
    return len(plan) - len(counts), -sum(counts)


def choices_by(look, sources, query, plan):
    """The choices of a row of each source for which all conditions hold: dicts with the row for each alias."""
    conditions = query[3]
    choices = [{}]
    earlier = []
    for alias, way in plan:
        givers = givers_of(conditions, alias, earlier)
        longer = []
        for choice in choices:
            for row in rows_by(look, sources[alias], way, givers, choice):
                longer.append({**choice, alias: row})
        choices = [choice for choice in longer if all_hold(conditions, choice)]
        earlier.append(alias)
    return choices


def rows_by(look, source, way, givers, choice):
    """The list of the rows of a source that are found by this way."""
    name, _, found = source
    if way[0] == "index":
        _, index, count = way
        columns = found[index]
        span = prefix_range(index_key(name, index, given_values(columns[:count], givers, choice)))
        entries = look.scan(span)
        return [look.get(row_key_behind(name, index, columns, key)) for key, _ in entries]
    count = way[1] if way[0] == "key" else 0
    span = prefix_range(row_key(name, given_values(list(range(count)), givers, choice)))
    return [row for _, row in look.scan(span)]


def given_values(columns, givers, choice):
    """The tuple of the values that are given for these columns."""
    return tuple([operand_value(givers[column], choice) for column in columns])


def operand_value(operand, choice):
    """The value of an operand for a choice of rows."""
    if operand[0] == "value":
        return operand[1]
    _, alias, number = operand
    return choice[alias][number]


def all_hold(conditions, choice):
    """True if all conditions hold of which all sources have rows in the choice."""
    for operator, left, right in conditions:
        if has_value(left, choice) and has_value(right, choice):
            if not holds(operator, operand_value(left, choice), operand_value(right, choice)):
                return False
    return True


def has_value(operand, choice):
    """True if the operand is a value or a column of a source that has a row in the choice."""
    return operand[0] == "value" or operand[1] in choice


def holds(operator, first, second):
    """True if the comparison of two values of the same kind holds."""
    match operator:
        case "=":
            return first == second
        case "<>":
            return first != second
        case "<":
            return first < second
        case "<=":
            return first <= second
        case ">":
            return first > second
        case _:
            return first >= second


def answer_of(query, choices):
    """The answer of the query with these choices of rows."""
    outputs = query[1]
    if outputs[0] == "count":
        return [(len(choices),)]
    if outputs[0] == "sum":
        return [(sum([operand_value(outputs[1], choice) for choice in choices]),)]
    rows = [tuple([operand_value(operand, choice) for operand in outputs]) for choice in choices]
    return sorted(rows, key=row_order)
