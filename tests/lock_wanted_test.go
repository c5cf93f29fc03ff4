package tests

import (
	"slices"
	"strconv"
	"strings"

	"loop.example/g00270/impl"
)

// locksOf reads locks from a text: a resource, then a transaction, ":" and the mode that it holds, or "?" and the one that it wants, as "5 1:s 2:s 3?x"; between two locks stands "|". Numbers may be any, as modes too.
func locksOf(text string) []impl.Lock {
	var list []impl.Lock
	for _, part := range strings.Split(text, "|") {
		words := strings.Fields(part)
		if len(words) == 0 {
			continue
		}
		lock := impl.Lock{Res: numberOf(words[0])}
		for _, word := range words[1:] {
			if txn, mode, ok := strings.Cut(word, ":"); ok {
				lock.Holds = append(lock.Holds, impl.Hold{Txn: numberOf(txn), Mode: modeNamed(mode)})
				continue
			}
			txn, mode, _ := strings.Cut(word, "?")
			lock.Queue = append(lock.Queue, impl.Hold{Txn: numberOf(txn), Mode: modeNamed(mode)})
		}
		list = append(list, lock)
	}
	return list
}

func numberOf(text string) int64 {
	number, err := strconv.ParseInt(text, 10, 64)
	if err != nil {
		panic(err)
	}
	return number
}

func modeNamed(text string) int64 {
	if at := slices.Index([]string{"none", "is", "ix", "s", "six", "x"}, text); at >= 0 {
		return int64(at)
	}
	return numberOf(text)
}

// manyOf has the transactions from first on, count of them, each with the same mark and mode, as locksOf reads them.
func manyOf(first, count int, mode string) string {
	var words []string
	for txn := first; txn < first+count; txn++ {
		words = append(words, strconv.Itoa(txn)+mode)
	}
	return strings.Join(words, " ")
}

func sameLocks(a, b []impl.Lock) bool {
	return slices.EqualFunc(a, b, func(x, y impl.Lock) bool {
		return x.Res == y.Res && slices.Equal(x.Holds, y.Holds) && slices.Equal(x.Queue, y.Queue)
	})
}

func sameLockResult(a, b impl.LockResult) bool {
	return a.Code == b.Code && a.Granted == b.Granted && slices.Equal(a.List, b.List) && sameLocks(a.Locks, b.Locks)
}

func cloneLocksOf(list []impl.Lock) []impl.Lock {
	cloned := slices.Clone(list)
	for i, lock := range cloned {
		cloned[i].Holds, cloned[i].Queue = slices.Clone(lock.Holds), slices.Clone(lock.Queue)
	}
	return cloned
}

func isTxnOf(txn int64) func(impl.Hold) bool {
	return func(h impl.Hold) bool { return h.Txn == txn }
}

// heldBy tells the mode in which txn is in the list, 0 where it is not.
func heldBy(list []impl.Hold, txn int64) int64 {
	if at := slices.IndexFunc(list, isTxnOf(txn)); at >= 0 {
		return list[at].Mode
	}
	return 0
}

func fitsBeside(holds []impl.Hold, h impl.Hold) bool {
	return !slices.ContainsFunc(holds, func(other impl.Hold) bool {
		return other.Txn != h.Txn && fitsTable[h.Mode][other.Mode] != '1'
	})
}

func wantedHeadFits(lock impl.Lock) bool {
	if len(lock.Queue) == 0 || !fitsBeside(lock.Holds, lock.Queue[0]) {
		return false
	}
	return heldBy(lock.Holds, lock.Queue[0].Txn) != 0 || len(lock.Holds) < 20
}

func isWrongHold(h impl.Hold) bool {
	return h.Txn < 1 || h.Txn > 999 || h.Mode < 1 || h.Mode > 5
}

func isTwiceIn(list []impl.Hold) bool {
	for i, h := range list {
		if slices.ContainsFunc(list[:i], isTxnOf(h.Txn)) {
			return true
		}
	}
	return false
}

// wantedFormFault tells whether a lock whose numbers and transactions are right is an ErrForm.
func wantedFormFault(lock impl.Lock) bool {
	if len(lock.Holds)+len(lock.Queue) == 0 || wantedHeadFits(lock) {
		return true
	}
	for _, h := range lock.Holds {
		if !fitsBeside(lock.Holds, h) {
			return true
		}
	}
	plain := false
	for _, h := range lock.Queue {
		held := heldBy(lock.Holds, h.Txn)
		if held != 0 && (plain || held == h.Mode || coversTable[h.Mode][held] != '1') {
			return true
		}
		plain = plain || held == 0
	}
	return false
}

// wantedLocksFault, wantedAsk and wantedFree tell by the document alone what the lock table answers.
func wantedLocksFault(list []impl.Lock) int64 {
	last := int64(-1)
	var queued []impl.Hold
	for _, lock := range list {
		switch both := append(slices.Clone(lock.Holds), lock.Queue...); {
		case lock.Res < 0 || lock.Res > 100:
			return impl.ErrRange
		case lock.Res <= last:
			return impl.ErrForm
		case len(lock.Holds) > 20 || len(lock.Queue) > 20:
			return impl.ErrMany
		case slices.ContainsFunc(both, isWrongHold):
			return impl.ErrRange
		case isTwiceIn(lock.Holds) || isTwiceIn(lock.Queue):
			return impl.ErrTaken
		case wantedFormFault(lock):
			return impl.ErrForm
		}
		last = lock.Res
		queued = append(queued, lock.Queue...)
	}
	if isTwiceIn(queued) {
		return impl.ErrState
	}
	return impl.OK
}

// wantedAsk takes locks without a fault.
func wantedAsk(list []impl.Lock, txn, res, mode int64) impl.LockResult {
	if txn < 1 || txn > 999 || res < 0 || res > 100 || mode < 1 || mode > 5 {
		return impl.LockResult{Code: impl.ErrRange}
	}
	locks := cloneLocksOf(list)
	if slices.ContainsFunc(locks, func(l impl.Lock) bool { return heldBy(l.Queue, txn) != 0 }) {
		return impl.LockResult{Code: impl.ErrState}
	}
	if !slices.ContainsFunc(locks, func(l impl.Lock) bool { return l.Res == res }) {
		locks = append(locks, impl.Lock{Res: res})
		slices.SortFunc(locks, func(a, b impl.Lock) int { return int(a.Res - b.Res) })
	}
	lock := &locks[slices.IndexFunc(locks, func(l impl.Lock) bool { return l.Res == res })]
	held := heldBy(lock.Holds, txn)
	if coversTable[held][mode] == '1' {
		return impl.LockResult{Granted: true, Locks: locks}
	}
	granted, many := wantedPlace(lock, held, impl.Hold{Txn: txn, Mode: joinTable[held][mode]})
	if many {
		return impl.LockResult{Code: impl.ErrMany}
	}
	return impl.LockResult{Granted: granted, Locks: locks}
}

// wantedPlace puts h where it holds or waits, and tells whether it is granted, and whether there was no room.
func wantedPlace(lock *impl.Lock, held int64, h impl.Hold) (granted bool, many bool) {
	fits := fitsBeside(lock.Holds, h)
	if held != 0 && fits {
		lock.Holds[slices.IndexFunc(lock.Holds, isTxnOf(h.Txn))] = h
		return true, false
	}
	if held == 0 && fits && len(lock.Queue) == 0 {
		lock.Holds = append(lock.Holds, h)
		return true, len(lock.Holds) > 20
	}
	var ahead, behind []impl.Hold
	for _, other := range lock.Queue {
		if held == 0 || heldBy(lock.Holds, other.Txn) != 0 {
			ahead = append(ahead, other)
		} else {
			behind = append(behind, other)
		}
	}
	lock.Queue = append(append(ahead, h), behind...)
	return false, len(lock.Queue) > 20
}

// wantedFree takes locks without a fault.
func wantedFree(list []impl.Lock, txn int64) impl.LockResult {
	if txn < 1 || txn > 999 {
		return impl.LockResult{Code: impl.ErrRange}
	}
	var want impl.LockResult
	for _, lock := range cloneLocksOf(list) {
		lock.Holds = slices.DeleteFunc(lock.Holds, isTxnOf(txn))
		lock.Queue = slices.DeleteFunc(lock.Queue, isTxnOf(txn))
		for wantedHeadFits(lock) {
			head := lock.Queue[0]
			lock.Queue = lock.Queue[1:]
			want.List = append(want.List, head.Txn)
			if at := slices.IndexFunc(lock.Holds, isTxnOf(head.Txn)); at >= 0 {
				lock.Holds[at] = head
			} else {
				lock.Holds = append(lock.Holds, head)
			}
		}
		if len(lock.Holds)+len(lock.Queue) > 0 {
			want.Locks = append(want.Locks, lock)
		}
	}
	return want
}
