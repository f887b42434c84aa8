"""Placing, leaps, joins and levels told once more, after listobject.c of CPython 3.13.

Names and steps are those of the C code; `less` asks, and may raise Stopped.
"""

import bisect

from tests.reference import Asker, Stopped


def compute_minrun(n):
    r = 0
    while n >= 64:
        r |= n & 1
        n >>= 1
    return n + r


def binarysort(row, low, n, ok, less):
    for ok in range(max(ok, 1), n):
        left, right = 0, ok
        pivot = row[low + ok]
        while True:
            m = (left + right) >> 1
            if less(pivot, row[low + m]):
                right = m
            else:
                left = m + 1
            if left >= right:
                break
        for place in range(ok, left, -1):
            row[low + place] = row[low + place - 1]
        row[low + left] = pivot


def gallop_left(n, hint, less_than_key):
    """`less_than_key(place)` tells whether the item at a place is less than the key."""
    last, ofs = 0, 1
    if less_than_key(hint):
        most = n - hint
        while ofs < most:
            if not less_than_key(hint + ofs):
                break
            last, ofs = ofs, (ofs << 1) + 1
        last, ofs = last + hint, min(ofs, most) + hint
    else:
        most = hint + 1
        while ofs < most:
            if less_than_key(hint - ofs):
                break
            last, ofs = ofs, (ofs << 1) + 1
        last, ofs = hint - min(ofs, most), hint - last
    last += 1
    while last < ofs:
        m = last + ((ofs - last) >> 1)
        if less_than_key(m):
            last = m + 1
        else:
            ofs = m
    return ofs


def gallop_right(n, hint, key_is_less):
    """`key_is_less(place)` tells whether the key is less than the item at a place."""
    last, ofs = 0, 1
    if key_is_less(hint):
        most = hint + 1
        while ofs < most:
            if not key_is_less(hint - ofs):
                break
            last, ofs = ofs, (ofs << 1) + 1
        last, ofs = hint - min(ofs, most), hint - last
    else:
        most = n - hint
        while ofs < most:
            if key_is_less(hint + ofs):
                break
            last, ofs = ofs, (ofs << 1) + 1
        last, ofs = last + hint, min(ofs, most) + hint
    last += 1
    while last < ofs:
        m = last + ((ofs - last) >> 1)
        if key_is_less(m):
            ofs = m
        else:
            last = m + 1
    return ofs


class Merge:
    """merge_at, merge_lo and merge_hi over a row; min_gallop is that of the merge state."""

    def __init__(self, row, na, nb, less, min_gallop):
        self.row = row
        self.na, self.nb = na, nb
        self.less = less
        self.min_gallop = min_gallop
        self.span = None
        self.aside = []

    def run(self):
        row, less = self.row, self.less
        first = row[self.na]
        k = gallop_right(self.na, 0, lambda at: less(first, row[at]))
        self.span = (k, self.na)
        if k == self.na:
            return
        last = row[self.na - 1]
        nb = gallop_left(self.nb, self.nb - 1, lambda at: less(row[self.na + at], last))
        self.span = (k, self.na + nb)
        if nb == 0:
            return
        if self.na - k <= nb:
            self.merge_lo(k, self.na - k, nb)
        else:
            self.merge_hi(k, self.na - k, nb)

    def move(self, dest, source, start, many):
        self.row[dest:dest + many] = source[start:start + many]

    def merge_lo(self, dest, na, nb):
        row, less = self.row, self.less
        temp = row[dest:dest + na]
        self.aside = list(temp)
        a, b = 0, dest + na
        try:
            row[dest] = row[b]
            dest, b, nb = dest + 1, b + 1, nb - 1
            if nb == 0:
                return
            while na > 1:
                acount = bcount = 0
                while True:
                    if less(row[b], temp[a]):
                        row[dest] = row[b]
                        dest, b, nb = dest + 1, b + 1, nb - 1
                        acount, bcount = 0, bcount + 1
                        if nb == 0:
                            return
                        if bcount >= self.min_gallop:
                            break
                    else:
                        row[dest] = temp[a]
                        dest, a, na = dest + 1, a + 1, na - 1
                        acount, bcount = acount + 1, 0
                        if na == 1:
                            return
                        if acount >= self.min_gallop:
                            break
                self.min_gallop += 1
                while True:
                    self.min_gallop -= self.min_gallop > 1
                    acount = k = gallop_right(na, 0, lambda at: less(row[b], temp[a + at]))
                    if k:
                        self.move(dest, temp, a, k)
                        dest, a, na = dest + k, a + k, na - k
                        if na <= 1:
                            return
                    row[dest] = row[b]
                    dest, b, nb = dest + 1, b + 1, nb - 1
                    if nb == 0:
                        return
                    bcount = k = gallop_left(nb, 0, lambda at: less(row[b + at], temp[a]))
                    if k:
                        self.move(dest, row, b, k)
                        dest, b, nb = dest + k, b + k, nb - k
                        if nb == 0:
                            return
                    row[dest] = temp[a]
                    dest, a, na = dest + 1, a + 1, na - 1
                    if na == 1:
                        return
                    if acount < 7 and bcount < 7:
                        break
                self.min_gallop += 1
        except Stopped:
            self.move(dest, temp, a, na)
            nb = na = 0
            raise
        finally:
            if na == 1 and nb:
                self.move(dest, row, b, nb)
                row[dest + nb] = temp[a]
            elif na:
                self.move(dest, temp, a, na)

    def merge_hi(self, base, na, nb):
        row, less = self.row, self.less
        temp = row[base + na:base + na + nb]
        self.aside = list(temp)
        dest = base + na + nb - 1
        a, b = base + na - 1, nb - 1
        try:
            row[dest] = row[a]
            dest, a, na = dest - 1, a - 1, na - 1
            if na == 0:
                return
            while nb > 1:
                acount = bcount = 0
                while True:
                    if less(temp[b], row[a]):
                        row[dest] = row[a]
                        dest, a, na = dest - 1, a - 1, na - 1
                        acount, bcount = acount + 1, 0
                        if na == 0:
                            return
                        if acount >= self.min_gallop:
                            break
                    else:
                        row[dest] = temp[b]
                        dest, b, nb = dest - 1, b - 1, nb - 1
                        acount, bcount = 0, bcount + 1
                        if nb == 1:
                            return
                        if bcount >= self.min_gallop:
                            break
                self.min_gallop += 1
                while True:
                    self.min_gallop -= self.min_gallop > 1
                    k = gallop_right(na, na - 1, lambda at: less(temp[b], row[base + at]))
                    acount = k = na - k
                    if k:
                        dest, a = dest - k, a - k
                        self.move(dest + 1, row, a + 1, k)
                        na -= k
                        if na == 0:
                            return
                    row[dest] = temp[b]
                    dest, b, nb = dest - 1, b - 1, nb - 1
                    if nb == 1:
                        return
                    k = gallop_left(nb, nb - 1, lambda at: less(temp[at], row[a]))
                    bcount = k = nb - k
                    if k:
                        dest, b = dest - k, b - k
                        self.move(dest + 1, temp, b + 1, k)
                        nb -= k
                        if nb <= 1:
                            return
                    row[dest] = row[a]
                    dest, a, na = dest - 1, a - 1, na - 1
                    if na == 0:
                        return
                    if acount < 7 and bcount < 7:
                        break
                self.min_gallop += 1
        except Stopped:
            self.move(dest - nb + 1, temp, 0, nb)
            na = nb = 0
            raise
        finally:
            if nb == 1 and na:
                self.move(dest - na + 1, row, a - na + 1, na)
                row[dest - na] = temp[b]
            elif nb:
                self.move(dest - nb + 1, temp, 0, nb)


def merge_by_keys(first, second, patience, count=None):
    """(merge, questions), stopped behind `count` questions."""
    keys = [*first, *second]
    return _merge(len(first), len(second), patience, Asker(lambda at, one, other: keys[one] < keys[other], count))


def merge_by_answers(sizes, answers, patience):
    """(merge, questions, the one that waits or None) for answers of any kind."""
    asker = Asker(lambda at, one, other: answers[at], len(answers))
    merge, questions = _merge(*sizes, patience, asker)
    return merge, questions, asker.refused


def _merge(na, nb, patience, asker):
    merge = Merge(list(range(na + nb)), na, nb, asker.less, patience)
    try:
        merge.run()
    except Stopped:
        pass
    return merge, asker.questions


def powerloop(s1, n1, n2, n):
    result = 0
    a = 2 * s1 + n1
    b = a + n1 + n2
    while True:
        result += 1
        if a >= n:
            a -= n
            b -= n
        elif b >= n:
            return result
        a <<= 1
        b <<= 1


def merge_pieces(lengths):
    """(stacks, amid, at_end) by found_new_run and merge_force_collapse; a run is [base, length, power]."""
    pending = []
    stacks, amid, at_end = [], [], []
    base = 0
    for length in lengths:
        if pending:
            power = powerloop(pending[-1][0], pending[-1][1], length, sum(lengths))
            while len(pending) > 1 and pending[-2][2] > power:
                amid.append(_merge_at(pending, len(pending) - 2))
            pending[-1][2] = power
        pending.append([base, length, None])
        stacks.append([tuple(run) for run in pending])
        base += length
    while len(pending) > 1:
        n = len(pending) - 2
        if n > 0 and pending[n - 1][1] < pending[n + 1][1]:
            n -= 1
        at_end.append(_merge_at(pending, n))
    return stacks, amid, at_end


def _merge_at(pending, i):
    base, first, _ = pending[i]
    _, second, power = pending.pop(i + 1)
    pending[i] = [base, first + second, power]
    return base, first, second


class CountedMerge:
    """merge_at for items that are told by lengths alone, by their numbers in first and in second.

    `lengths` tells how many items of first stand ahead, how many of second
    come then, and so on; no item is gone through by a leap.
    """

    def __init__(self, lengths, min_gallop):
        self.starts = [[], []]
        self.places = [[], []]
        many = [0, 0]
        for index, length in enumerate(lengths):
            self.starts[index % 2].append(many[index % 2])
            self.places[index % 2].append(sum(many))
            many[index % 2] += length
        self.na, self.nb = many
        self.min_gallop = min_gallop
        self.count = 0
        self.many_aside = 0
        self.run()

    def place(self, side, item):
        index = bisect.bisect_right(self.starts[side], item) - 1
        return self.places[side][index] + item - self.starts[side][index]

    def less(self, b, a):
        self.count += 1
        return self.place(1, b) < self.place(0, a)

    def right(self, b, a, na, hint):
        return gallop_right(na, hint, lambda at: self.less(b, a + at))

    def left(self, a, b, nb, hint):
        return gallop_left(nb, hint, lambda at: self.less(b + at, a))

    def run(self):
        na, nb = self.na, self.nb
        k = self.right(0, 0, na, 0)
        if k == na:
            return
        nb = self.left(na - 1, 0, nb, nb - 1)
        self.many_aside = min(na - k, nb)
        if na - k <= nb:
            self.merge_lo(k, na - k, 0, nb)
        else:
            self.merge_hi(k, na - k, nb)

    def merge_lo(self, a, na, b, nb):
        b, nb = b + 1, nb - 1
        while na > 1 and nb > 0:
            acount = bcount = 0
            while max(acount, bcount) < self.min_gallop:
                if self.less(b, a):
                    b, nb, acount, bcount = b + 1, nb - 1, 0, bcount + 1
                else:
                    a, na, acount, bcount = a + 1, na - 1, acount + 1, 0
                if na == 1 or nb == 0:
                    return
            while True:
                k = acount = self.right(b, a, na, 0)
                a, na = a + k, na - k
                if k and na <= 1:
                    return
                b, nb = b + 1, nb - 1
                if nb == 0:
                    return
                k = bcount = self.left(a, b, nb, 0)
                b, nb = b + k, nb - k
                if nb == 0:
                    return
                a, na = a + 1, na - 1
                if na == 1:
                    return
                if acount < 7 and bcount < 7:
                    break
                self.min_gallop -= self.min_gallop > 1
            self.min_gallop += 1

    def merge_hi(self, low, na, nb):
        na -= 1
        while na > 0 and nb > 1:
            acount = bcount = 0
            while max(acount, bcount) < self.min_gallop:
                if self.less(nb - 1, low + na - 1):
                    na, acount, bcount = na - 1, acount + 1, 0
                else:
                    nb, acount, bcount = nb - 1, 0, bcount + 1
                if na == 0 or nb == 1:
                    return
            while True:
                acount = na - self.right(nb - 1, low, na, na - 1)
                na -= acount
                if na == 0:
                    return
                nb -= 1
                if nb == 1:
                    return
                bcount = nb - self.left(low + na - 1, 0, nb, nb - 1)
                nb -= bcount
                if bcount and nb <= 1:
                    return
                na -= 1
                if na == 0:
                    return
                if acount < 7 and bcount < 7:
                    break
                self.min_gallop -= self.min_gallop > 1
            self.min_gallop += 1
