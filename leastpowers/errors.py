"""The errors of the package."""


class OrderError(ValueError):
    """The base of all errors of the package; never raised itself."""


class Broken(OrderError):
    """A duty would not be kept."""

    def __init__(self, duty):
        self.duty = duty


class CanBe(OrderError):
    """Some telling has an own tone of the order in question."""

    def __init__(self, orders):
        self.orders = orders


class NoCommand(OrderError):
    """A line is no command of a desk."""


class NoDuty(OrderError):
    """A value is no duty of the system."""

    def __init__(self, duty):
        self.duty = duty


class NoFit(OrderError):
    """A row has no fit to the runs."""

    def __init__(self, row):
        self.row = row


class NoIndex(OrderError):
    """Nothing stands at an index."""

    def __init__(self, index):
        self.index = index


class NoOrders(OrderError):
    """No orders of the table stand."""


class NoPlan(OrderError):
    """An event is barred."""

    def __init__(self, event):
        self.event = event


class NoQuotient(OrderError):
    """Something would be divided by 0."""


class NoText(OrderError):
    """A line of a text can't be read, or the first one lacks."""

    def __init__(self, line):
        self.line = line


class NotExact(OrderError):
    """A row has unlike bounds, or two sides of one unknown."""

    def __init__(self, row):
        self.row = row


class NotSilent(OrderError):
    """A table is not silent."""

    def __init__(self, orders):
        self.orders = orders


class NotSquare(OrderError):
    """A table has more or fewer rows than unknowns."""


class NotTold(OrderError):
    """The order of an unknown is not the same in all tellings."""

    def __init__(self, unknown):
        self.unknown = unknown


class Nothing(OrderError):
    """There is nothing to take back, or to do again."""


class TooMany(OrderError):
    """There are more than can be dealt with."""

    def __init__(self, most):
        self.most = most


class Wrong(OrderError):
    """The argument at a place is not as described."""

    def __init__(self, place):
        self.place = place
