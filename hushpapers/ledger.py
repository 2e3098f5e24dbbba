"""A ledger of covered balances, its payments and its journal."""

from hushpapers.covers import add_openings, divide, subtract_openings
from hushpapers.errors import (
    BadStatement, BadTape, DoubleName, NotAccepted, NoWitness, OpenKey, Refused, UnknownName,
)
from hushpapers.notation import read_nested, write_nested
from hushpapers.ranges import (
    cover_digits, digit_blinds, range_claim, range_openings, range_weights, range_witness,
)
from hushpapers.residues import is_residue, is_residue_row, is_tuple_of
from hushpapers.runs import accepts, check_coin, matching_tape, run_of
from hushpapers.statements import every, fits, is_member_row

LETTERS = "abcdefghijklmnopqrstuvwxyz"
FIRST_CODE = 97
MOST_LETTERS = 8
ISSUE_MARK = 0
PAY_MARK = 1


def payment_claim(key, top, sender_cover, amount_cover, amount_digits, rest_digits):
    """Return the claim that amount and rest are both from 0 to the top."""
    rest_cover = divide(key.group, sender_cover, amount_cover)
    return every(key.group, (
        range_claim(key, amount_cover, top, amount_digits),
        range_claim(key, rest_cover, top, rest_digits),
    ))


def _claim_of(key, top, sender_cover, payment):
    """Return the statement of a payment whose covers have the right form."""
    _, _, amount_cover, amount_digits, rest_digits, _ = payment
    return payment_claim(key, top, sender_cover, amount_cover, amount_digits, rest_digits)


def check_parties(known, sender, receiver):
    """Raise the error of a payment between accounts that are not two of the known ones."""
    for name in (sender, receiver):
        if name not in known:
            raise UnknownName()
    if sender == receiver:
        raise Refused()


class Ledger:
    """One cover for each name, and the records that led to the covers."""

    def __init__(self, key, top):
        if not 0 <= 2 * top < key.group.order:
            raise BadStatement()
        self.key = key
        self.top = top
        self._covers = {}
        self._issued = (0, 0)
        self._records = []
        self._spent_covers = []

    def __len__(self):
        return len(self._records)

    def __iter__(self):
        return iter(self._records)

    @property
    def names(self):
        """The names of the accounts, in the order of the issues."""
        return tuple(self._covers)

    @property
    def issued(self):
        """The sum of the issued values, and the sum of the issued blinds modulo q."""
        return self._issued

    def issue(self, name, value, blind):
        """Open an account with a public value and a public blind."""
        if name in self._covers:
            raise DoubleName()
        if not is_residue_row(self.key.group.order, 2, (value, blind)):
            raise Refused()
        if self._issued[0] + value > self.top:
            raise Refused()
        self._keep(("issue", name, value, blind))

    def post(self, payment, *, coin):
        """Take a payment whose run has the coin as its challenge."""
        check_parties(self._covers, payment[0], payment[1])
        check_coin(payment[5], coin)
        if not self._takes(payment):
            raise Refused()
        self._keep(("pay", *payment))

    def _takes(self, payment):
        """Tell whether covers and run of a payment between known accounts are right."""
        group = self.key.group
        sender, _, amount_cover, amount_digits, rest_digits, run = payment
        many = len(range_weights(self.top))
        if not group.has(amount_cover) or not is_member_row(group, many, amount_digits):
            return False
        if not is_member_row(group, many, rest_digits):
            return False
        statement = _claim_of(self.key, self.top, self._covers[sender], payment)
        return accepts(group, statement, run)

    def _keep(self, record):
        """Add a record that was checked, and change the covers as it says."""
        group = self.key.group
        if record[0] == "issue":
            _, name, value, blind = record
            self._covers[name] = self.key.cover(value, blind)
            self._issued = add_openings(group.order, self._issued, (value, blind))
        else:
            sender, receiver, amount_cover = record[1:4]
            self._spent_covers.append(self._covers[sender])
            self._covers[sender] = divide(group, self._covers[sender], amount_cover)
            self._covers[receiver] = group.multiply(self._covers[receiver], amount_cover)
        self._records.append(record)

    def cover_of(self, name):
        """Return the cover of the account."""
        if name not in self._covers:
            raise UnknownName()
        return self._covers[name]

    def _product_of(self, names):
        """Return the product of the covers of these accounts."""
        covers = [self.cover_of(name) for name in names]
        return self.key.group.combine(covers, [1] * len(covers))

    def total_cover(self):
        """Return the product of all covers."""
        return self._product_of(self.names)

    def audit(self, names, value, blind):
        """Tell whether the product of the covers of these accounts has the opening."""
        return self.key.opens(self._product_of(names), value, blind)

    def payments(self):
        """Return the payments, each with the sender's cover as it was then."""
        posted = [record[1:] for record in self._records if record[0] == "pay"]
        return tuple(zip(posted, self._spent_covers))

    def shortened(self, many):
        """Return another ledger with the first `many` records."""
        ledger = Ledger(self.key, self.top)
        for record in self._records[:many]:
            ledger._keep(record)
        return ledger


def _check_amount(top, balance, amount):
    """Raise NoWitness unless the amount can be paid from the balance."""
    if not 0 <= amount <= top or not 0 <= balance - amount <= top:
        raise NoWitness()


def _payment_witness(key, top, opening, moved, amount_blinds, rest_blinds):
    """Return the witness for the sender's opening and the opening of the amount."""
    rest = subtract_openings(key.group.order, opening, moved)
    return (
        range_witness(key, moved, top, amount_blinds),
        range_witness(key, rest, top, rest_blinds),
    )


def make_payment(key, top, sender, receiver, opening, amount, secret, *, challenge):
    """Return the payment of an amount from the sender's opening."""
    group = key.group
    amount_blind, amount_blinds, rest_blinds, tape = secret
    _check_amount(top, opening[0], amount)
    if not is_residue(group.order, amount_blind):
        raise BadTape()
    moved = (amount, amount_blind)
    witness = _payment_witness(key, top, opening, moved, amount_blinds, rest_blinds)
    covers = (
        key.cover(amount, amount_blind),
        cover_digits(key, top, amount, amount_blinds),
        cover_digits(key, top, opening[0] - amount, rest_blinds),
    )
    sender_cover = key.cover(opening[0], opening[1])
    statement = payment_claim(key, top, sender_cover, *covers)
    run = run_of(group, statement, witness, tape, challenge)
    return (sender, receiver, *covers, run)


def payment_openings(key, top, witness):
    """Return the openings of amount and rest that a witness gives."""
    return tuple([range_openings(key, item, top)[0] for item in witness])


def retell_payment(key, top, sender_cover, payment, balance, amount):
    """Return the sender's opening and the secret with which the amount gives the same payment."""
    if not key.hiding:
        raise OpenKey()
    if not is_residue(key.group.order, balance):
        raise NoWitness()
    _check_amount(top, balance, amount)
    _, _, amount_cover, amount_digits, rest_digits, run = payment
    opening = (balance, key.blind_for(sender_cover, balance))
    moved = (amount, key.blind_for(amount_cover, amount))
    amount_blinds = digit_blinds(key, top, amount, amount_digits)
    rest_blinds = digit_blinds(key, top, balance - amount, rest_digits)
    witness = _payment_witness(key, top, opening, moved, amount_blinds, rest_blinds)
    statement = _claim_of(key, top, sender_cover, payment)
    tape = matching_tape(key.group, statement, witness, run)
    return opening, (moved[1], amount_blinds, rest_blinds, tape)


def payment_from(ledger, openings, step):
    """Return the payment of a pay step, made from the sender's opening."""
    _, sender, receiver, amount, secret, challenge = step
    check_parties(openings, sender, receiver)
    return make_payment(
        ledger.key, ledger.top, sender, receiver, openings[sender], amount, secret, challenge=challenge
    )


def moved_openings(q, openings, sender, receiver, moved):
    """Return the changed openings of sender and receiver, by their names."""
    return {
        sender: subtract_openings(q, openings[sender], moved),
        receiver: add_openings(q, openings[receiver], moved),
    }


def hold_ledger(key, top, steps):
    """Return the ledger that the steps make."""
    ledger = Ledger(key, top)
    openings = {}
    for step in steps:
        if step[0] == "issue":
            _, name, value, blind = step
            ledger.issue(name, value, blind)
            openings[name] = (value, blind)
        else:
            _, sender, receiver, amount, secret, challenge = step
            ledger.post(payment_from(ledger, openings, step), coin=challenge)
            moved = (amount, secret[0])
            openings.update(moved_openings(key.group.order, openings, sender, receiver, moved))
    return ledger


def retell_ledger(ledger, amounts):
    """Return steps with these amounts that make the same records."""
    key = ledger.key
    payments = ledger.payments()
    if not key.hiding:
        raise OpenKey()
    if len(amounts) != len(payments):
        raise NoWitness()
    balances = {}
    steps = []
    at = 0
    for record in ledger:
        if record[0] == "issue":
            balances[record[1]] = record[2]
            steps.append(record)
        else:
            payment, cover = payments[at]
            sender, receiver = payment[:2]
            amount = amounts[at]
            secret = retell_payment(key, ledger.top, cover, payment, balances[sender], amount)[1]
            steps.append(("pay", sender, receiver, amount, secret, payment[5][1]))
            balances[sender] = balances[sender] - amount
            balances[receiver] = balances[receiver] + amount
            at += 1
    return tuple(steps)


def _read_payments(ledger, witnesses):
    """Return, for each payment, the openings of amount and rest that its witness gives."""
    key, top = ledger.key, ledger.top
    payments = ledger.payments()
    if len(witnesses) != len(payments):
        raise NotAccepted()
    for (payment, cover), witness in zip(payments, witnesses):
        if not fits(key.group, _claim_of(key, top, cover, payment), witness):
            raise NotAccepted()
    return tuple([payment_openings(key, top, witness) for witness in witnesses])


def ledger_relation(ledger, witnesses):
    """Return the relation that the witnesses reveal by unlike values, or None."""
    key = ledger.key
    found = _read_payments(ledger, witnesses)
    openings = {}
    at = 0
    for record in ledger:
        if record[0] == "issue":
            openings[record[1]] = record[2:]
        else:
            sender, receiver = record[1:3]
            moved, rest = found[at]
            openings.update(moved_openings(key.group.order, openings, sender, receiver, moved))
            if openings[sender][0] != rest[0]:
                return key.relation_from(openings[sender], rest)
            at += 1
    return None


def is_name(text):
    """Tell whether the text is a name."""
    return 1 <= len(text) <= MOST_LETTERS and all([letter in LETTERS for letter in text])


def _codes(name):
    """Return the character codes of a name."""
    return tuple([ord(letter) for letter in name])


def write_journal(ledger):
    """Return the written form of the records."""
    plain = []
    for record in ledger:
        if record[0] == "issue":
            plain.append((ISSUE_MARK, _codes(record[1]), *record[2:]))
        else:
            plain.append((PAY_MARK, _codes(record[1]), _codes(record[2]), *record[3:]))
    return write_nested(tuple(plain))


def _is_number_row(value):
    """Tell whether a nested value is a tuple of numbers."""
    return isinstance(value, tuple) and all([isinstance(item, int) for item in value])


def _name_of(codes):
    """Return the name with these codes, a nested value; raise Refused if there is none."""
    if not _is_number_row(codes) or not 1 <= len(codes) <= MOST_LETTERS:
        raise Refused()
    if not all([FIRST_CODE <= code < FIRST_CODE + len(LETTERS) for code in codes]):
        raise Refused()
    return "".join([LETTERS[code - FIRST_CODE] for code in codes])


def _read_issue(record):
    """Return name, value and blind of an issue; raise Refused if it has another form."""
    name = _name_of(record[1])
    if not _is_number_row(record[2:]):
        raise Refused()
    return name, record[2], record[3]


def _read_payment(record):
    """Return the payment of a record; raise Refused if it has another form."""
    sender, receiver = _name_of(record[1]), _name_of(record[2])
    _, _, _, amount_cover, amount_digits, rest_digits, run = record
    if not isinstance(amount_cover, int) or not is_tuple_of(3, run):
        raise Refused()
    if not _is_number_row(amount_digits) or not _is_number_row(rest_digits):
        raise Refused()
    return (sender, receiver, *record[3:])


def read_journal(key, top, text):
    """Return the ledger whose journal is the text."""
    ledger = Ledger(key, top)
    plain = read_nested(text)
    if not isinstance(plain, tuple):
        raise Refused()
    for record in plain:
        if is_tuple_of(4, record) and record[0] == ISSUE_MARK:
            name, value, blind = _read_issue(record)
            ledger.issue(name, value, blind)
        elif is_tuple_of(7, record) and record[0] == PAY_MARK:
            payment = _read_payment(record)
            ledger.post(payment, coin=payment[5][1])
        else:
            raise Refused()
    return ledger
