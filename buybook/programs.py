"""Programs: the least that values cost which keep lines, by the simplex method in whole numbers."""

from math import gcd, lcm

from buybook.ratio import div, mul, neg, ratio
from buybook.rows import dot

ZERO = (0, 1)
ONE = (1, 1)


class Table:
    """The variables of a program, some of them free and the others told by these.

    The variables are the columns, numbered from 0, and behind them the slacks: for each line the
    sum of its entries minus its right side, times a factor by which no slack may be below 0.
    Row r says: `scale` times the variable `basic[r]` is the sum of its entries, each times the
    variable of its column in `free`, plus its last entry. Behind these rows stands that of the
    gain, which is the cost times a factor below 0. All entries are integers.
    """

    def __init__(self, costs, lines):
        self.columns = len(costs)
        self.free = list(range(len(costs)))
        self.basic = [len(costs) + i for i in range(len(lines))]
        # The slacks of equal lines: once free they stay so, and stand at 0.
        self.fixed = {len(costs) + i: True for i, line in enumerate(lines) if line[1] == "equal"}
        self.scale = 1
        self.rows = []
        self.factors = []
        for entries, kind, right in lines:
            self.put_row([*entries, neg(right)], -1 if kind == "most" else 1)
        self.put_row([*costs, ZERO], -1)

    def put_row(self, numbers, sign):
        """Add a row: the numbers, times a factor of this sign that makes them small integers."""
        bottom = 1
        for _, q in numbers:
            bottom = lcm(bottom, q)
        row = [sign * p * (bottom // q) for p, q in numbers]
        common = 0
        for entry in row:
            common = gcd(common, entry)
        # A row of zeros has no divisor above 0 of its own.
        common = max(common, 1)
        self.rows.append([entry // common for entry in row])
        self.factors.append(ratio(sign * bottom, common))

    def exchange(self, r, s):
        """Let the variable of row r be free, and that of column s be told by the others."""
        old = self.rows[r]
        sign = 1 if old[s] > 0 else -1
        for i in range(len(self.rows)):
            if i != r:
                self.rows[i] = _told_by(self.rows[i], old, s, self.scale)
        self.rows[r] = [-sign * entry for entry in old]
        self.rows[r][s] = sign * self.scale
        self.scale = abs(old[s])
        self.free[s], self.basic[r] = self.basic[r], self.free[s]

    def usable(self, s):
        """Return whether the variable of column s may leave 0."""
        return self.free[s] not in self.fixed

    def rising(self, goal):
        """Return the column of the least variable that raises row goal; None if none does."""
        row = self.rows[goal]
        raising = [self.free[s] for s in range(self.columns) if row[s] > 0 and self.usable(s)]
        return self.free.index(min(raising)) if raising else None

    def blocking(self, s, goal):
        """Return the row that comes to 0 first when the variable of column s grows; None if none does.

        Rows below 0 are not yet kept and do not count, but for row goal, which is being raised.
        """
        first = None
        for r in range(len(self.basic)):
            falls = self.rows[r][-1] >= 0 and self.rows[r][s] < 0
            if (falls or r == goal) and (first is None or self.is_sooner(r, first, s)):
                first = r
        return first

    def is_sooner(self, r, other, s):
        """Return whether row r comes to 0 before the other one, or with it and has the lesser variable."""
        mine = abs(self.rows[r][-1] * self.rows[other][s])
        theirs = abs(self.rows[other][-1] * self.rows[r][s])
        return mine < theirs or (mine == theirs and self.basic[r] < self.basic[other])


def _told_by(row, old, s, scale):
    """Return a row with column s told by row old, over the new scale, the size of old[s]."""
    factor = row[s] if old[s] > 0 else -row[s]
    size = abs(old[s])
    # Each division comes out even: all entries are subdeterminants of the first rows.
    new = [(x * size - factor * y) // scale for x, y in zip(row, old)]
    new[s] = factor
    return new


def solve(costs, lines):
    """Return how a program ends: ("end", ..), ("nothing", ..) or ("falls", ..)."""
    table = Table(costs, lines)
    for r in range(len(lines)):
        if lines[r][1] == "equal" and not _fix(table, r):
            return ("nothing", _refutation(table, r))
    for r in range(len(lines)):
        if not _keep(table, r):
            return ("nothing", _refutation(table, r))
    s = _gain(table)
    values = _told(table, -1)
    if s is not None:
        return ("falls", values, _ray(table, s))
    unit = mul(ratio(table.scale, 1), table.factors[-1])
    return ("end", dot(costs, values), values, _prices(table, len(lines), unit))


def _fix(table, r):
    """Let the slack of an equal line be free; return whether the line can be kept."""
    columns = [s for s in range(table.columns) if table.rows[r][s] != 0 and table.usable(s)]
    if columns:
        table.exchange(r, columns[0])
        return True
    return table.rows[r][-1] == 0


def _keep(table, r):
    """Raise row r to 0 if it is below; return whether this can be done."""
    while table.rows[r][-1] < 0:
        s = table.rising(r)
        if s is None:
            return False
        table.exchange(table.blocking(s, r), s)
    return True


def _gain(table):
    """Raise the gain as far as it goes; return the column by which it rises without end, or None."""
    goal = len(table.basic)
    s = table.rising(goal)
    while s is not None:
        r = table.blocking(s, goal)
        if r is None:
            return s
        table.exchange(r, s)
        s = table.rising(goal)
    return None


def _told(table, s):
    """Return for each column of the program what the entries in column s tell of it, 0 if it is free."""
    found = [ZERO] * table.columns
    for r, variable in enumerate(table.basic):
        if variable < table.columns:
            found[variable] = ratio(table.rows[r][s], table.scale)
    return found


def _ray(table, s):
    """Return the ray along which the variable of column s grows."""
    ray = _told(table, s)
    if table.free[s] < table.columns:
        ray[table.free[s]] = ONE
    return ray


def _prices(table, r, unit):
    """Return for each line the entry of its slack in row r, in terms of the line, divided by the unit."""
    prices = [ZERO] * len(table.basic)
    for s, variable in enumerate(table.free):
        if variable >= table.columns:
            line = variable - table.columns
            prices[line] = div(mul(ratio(table.rows[r][s], 1), table.factors[line]), unit)
    return prices


def _refutation(table, r):
    """Return prices from row r, whose variable can not come to 0 from where it stands."""
    sign = -1 if table.rows[r][-1] < 0 else 1
    prices = _prices(table, r, ratio(sign * table.scale, 1))
    line = table.basic[r] - table.columns
    if line >= 0:
        prices[line] = mul(ratio(-sign, 1), table.factors[line])
    return prices
