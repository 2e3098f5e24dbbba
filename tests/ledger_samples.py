"""Keys, secrets and ledgers that the tests of ledgers and of the desk share."""

from hushpapers.covers import Key
from hushpapers.groups import PowerGroup
from hushpapers.ledger import hold_ledger
from tests.samples import table_group

G3 = PowerGroup(7, 3)
G5 = PowerGroup(11, 5)
G7 = PowerGroup(29, 7)
G127 = PowerGroup(509, 127)
T5 = table_group((3, 1, 4, 0, 2))
KEY = Key(G5, 3, 9)
OPEN = Key(G5, 3, 1)
KEY_3 = Key(G3, 2, 4)
TABLE_KEY = Key(T5, 4, 0)
KEY_7 = Key(G7, G7.members[2], G7.members[3])
OPEN_7 = Key(G7, G7.members[2], 1)
BIG = Key(G127, G127.members[3], G127.members[40])
HIDING = ((KEY, 2), (KEY, 1), (KEY_3, 1), (TABLE_KEY, 2), (KEY_7, 3), (KEY_7, 2))
ALL_KEYS = (*HIDING, (OPEN, 2), (OPEN_7, 3), (Key(T5, 1, 3), 2))


def plain_weights(top):
    """Return the weights by the words of [36]."""
    j = max(j for j in range(12) if 2 ** j - 1 <= top)
    extra = top - (2 ** j - 1)
    return tuple(2 ** i for i in range(j)) + ((extra,) if extra else ())


def random_row(numbers, q, many):
    return tuple(numbers.randrange(q) for _ in range(many))


def random_secret(numbers, key, top):
    """Return a secret of a payment, as [54] cuts it."""
    q, many = key.group.order, len(plain_weights(top))
    return (
        numbers.randrange(q), random_row(numbers, q, many), random_row(numbers, q, many),
        random_row(numbers, q, 2 * (3 * many + 1)),
    )


def random_steps(numbers, key, top, accounts=3, payments=4):
    """Return steps of a ledger that uses up the top, and the balances after them."""
    q = key.group.order
    names = ("ann", "bob", "c", "abcdefgh")[:accounts]
    left = top
    steps, balances = [], {}
    for name in names:
        value = left if name == names[-1] else numbers.randrange(left + 1)
        left -= value
        steps.append(("issue", name, value, numbers.randrange(q)))
        balances[name] = value
    for _ in range(payments):
        sender, receiver = numbers.sample(names, 2)
        amount = numbers.randrange(balances[sender] + 1)
        secret = random_secret(numbers, key, top)
        steps.append(("pay", sender, receiver, amount, secret, numbers.randrange(q)))
        balances[sender] -= amount
        balances[receiver] += amount
    return tuple(steps), balances


def random_ledger(numbers, key, top, accounts=3, payments=4):
    return hold_ledger(key, top, random_steps(numbers, key, top, accounts, payments)[0])


def state_of(ledger):
    """Return all that can be read of a ledger."""
    return (
        tuple(ledger), len(ledger), ledger.names, ledger.issued, ledger.key, ledger.top,
        tuple(ledger.cover_of(name) for name in ledger.names), ledger.total_cover(),
    )
