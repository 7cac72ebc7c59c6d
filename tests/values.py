"""Values of all kinds that [0.4] of the document lists, for calls with invalid arguments."""

from namedabove.base.companies import Company
from namedabove.base.cutters import Cutter
from namedabove.live.desk import Desk
from namedabove.live.inbox import Inbox
from namedabove.read.lots import Lot
from namedabove.read.rules import Rule
from namedabove.talk.bundles import Bundle
from namedabove.walk.states import Walk


def nested(value, deep):
    """The value inside of so many tuples, lists and dicts by turns."""
    for level in range(deep):
        value = [(value,), [value], {"in": value}][level - level // 3 * 3]
    return value


INTEGERS = (0, 1, -1, 2, 4, 5, 1000, 1001, 10**12, 10**39, 10**40 - 1, 1 - 10**40)
BOOLEANS = (True, False)
STRINGS = ("", " ", "a", "ann", "all", "..", "+..", "\n", "a\nb", "0", "x" * 300, "".join(map(chr, range(32, 127))))


def objects():
    """Fresh objects of the package, some of each class."""
    solo = Company(("a",), {("a", "a"): (Cutter(), True, Cutter("..++"))})
    pair = Company(("ann", "bob"), {}, starts=())
    bundle = Bundle(solo, ("a", None, True), ("a", 0, False))
    return [
        Cutter(), Cutter("all"), Cutter("+-..-+"), solo, pair, bundle, Bundle(pair),
        Rule(Cutter()), Rule(Cutter("..+"), sees_lost=True), Lot(bundle, (1,)), Lot(Bundle(pair), ()),
        Walk(solo, Rule(Cutter())), Walk(pair, Rule(Cutter("..+"), sees_lost=True)),
        Inbox(Rule(Cutter())), Inbox(Rule(Cutter("..+")), (1, "a", (0,))), Desk(solo, Rule(Cutter())),
    ]


def several():
    """Fresh values of each kind, so that no test can change what another one gets."""
    return [
        *INTEGERS, *BOOLEANS, None, *STRINGS,
        (), (0,), (True, None), ("a", ("b", ())), ("all",), (Cutter("..+"),),
        [], [0], ["all"], [[], {}],
        {}, {"a": 1}, {0: [1], ("a", 1): {"b": ()}},
        *objects(),
        nested(0, 9), nested("all", 9), nested(None, 9), nested(Cutter("..+"), 8), nested([], 8), nested(objects()[3], 8),
    ]
