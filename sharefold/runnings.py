"""Runs that go on, without any checks but for edges and for what is too great."""

from sharefold.errors import InvalidRun
from sharefold.liveedges import is_live, sort_of
from sharefold.netdoings import doing_of
from sharefold.termnets import built_net

MOST_PAIRS = 400


def is_run_form(value):
    return isinstance(value, tuple) and len(value) <= MOST_PAIRS


def check_run_form(value):
    if not is_run_form(value):
        raise InvalidRun(f"not a tuple of at most {MOST_PAIRS} edges")


class Running:
    """A run of a term: the net at its end, its edges, and the sort of each of them.

    Of edges of a call and a fun the net ahead is kept, too, for the sake of lots.
    """

    def __init__(self, term):
        self.net = built_net(term)
        self.edges = []
        self.sorts = []
        self.nets = []

    def do(self, edge):
        """Do a live edge."""
        nodes = self.net[1]
        sort = sort_of(nodes[edge[0]], nodes[edge[1]])
        behind = doing_of(self.net, edge)[0]
        self.edges.append(edge)
        self.sorts.append(sort)
        self.nets.append(self.net if sort == "call" else None)
        self.net = behind

    def follow(self, run):
        """Do the edges of a run, one by one."""
        for edge in run:
            if not is_live(edge, self.net[1]):
                raise InvalidRun("not a live edge of the net then")
            self.do(edge)


def running_of(term, run):
    """A run of what is a term, gone through to its end."""
    check_run_form(run)
    running = Running(term)
    running.follow(run)
    return running
