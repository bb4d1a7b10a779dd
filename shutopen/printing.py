"""A rest as lines for reading."""

from shutopen.exact import fraction_text


def rest_lines(rest):
    for kind, part, cost in zip(rest.vessel.book.kinds, rest.fill.parts, rest.vessel.net_costs()):
        yield columns_line(kind.name, fraction_text(part), fraction_text(cost))
    yield columns_line("burden", "-", fraction_text(rest.burden))


def columns_line(name, amount, cost):
    return f"{name:<20} {amount:>14} {cost:>14}"
