"""A program laid to rows: for a machine with a pile, and for one with a queue."""

from queuemill.checks import check_program
from queuemill.links import takers
from queuemill.programs import layers
from queuemill.stages import check_stages, least_stages


def rows_by(deed, some):
    """A deed's rows for the queue by these stages, its own last."""
    layer = layers(deed)
    check_stages(layer, some)
    return laid_by(layer, some)


def pile_rows(program):
    """(begins, rows) of a program for a machine with a pile."""
    return laid_out(program, False)


def queue_rows(program):
    """(begins, rows) of a program for a machine with a queue."""
    return laid_out(program, True)


def laid_by(layer, some):
    """Rows stage by stage, in each from left to right."""
    around = takers(layer)
    found = []
    for stage in range(some[-1]):
        for part, taker in enumerate(around):
            if some[part] == stage:
                found.append(layer[part][0])
            elif some[part] < stage < some[taker]:
                found.append(("turn",))
    # The deed is around all of its parts, so nothing else stands in its stage.
    found.append(layer[-1][0])
    return found


def laid_out(program, for_queue):
    check_program(program)
    sheet = Sheet(for_queue)
    begins = []
    for _, names, body in program:
        begins.append((len(sheet.rows), names))
        sheet.add_body(body)
        sheet.rows.extend([("num", 0), ("return",)])
    return (tuple(begins), tuple(sheet.rows))


class Sheet:
    """The rows of a program, as far as they are laid."""

    def __init__(self, for_queue):
        self.for_queue = for_queue
        self.rows = []

    def add_body(self, body):
        for deed in body:
            self.add_deed(deed)

    def add_deed(self, deed):
        start = len(self.rows)
        self.rows.extend(self.rows_of(deed))
        match deed:
            case ("if", _, body, other):
                self.add_choice(body, other)
            case ("while", _, body):
                self.add_rounds(start, body)
            case _:
                pass

    def rows_of(self, deed):
        layer = layers(deed)
        if self.for_queue:
            return laid_by(layer, least_stages(layer))
        return [row for row, _ in layer]

    def add_choice(self, body, other):
        """Both bodies of an if, behind its unless."""
        unless = len(self.rows) - 1
        self.add_body(body)
        go = len(self.rows)
        self.rows.append(("go", go))
        self.rows[unless] = ("unless", len(self.rows))
        self.add_body(other)
        self.rows[go] = ("go", len(self.rows))

    def add_rounds(self, start, body):
        """The body of a while, behind its unless; its test begins at the start."""
        unless = len(self.rows) - 1
        self.rows.append(("round",))
        self.add_body(body)
        self.rows.append(("go", start))
        self.rows[unless] = ("unless", len(self.rows))
