package tests

import (
	"slices"
	"testing"

	"loop.example/g00270/impl"
)

// holdsOf has every list of some of the first count transactions, in every order, each with every mode.
func holdsOf(count int64) [][]impl.Hold {
	all := [][]impl.Hold{nil}
	for from := 0; from < len(all); from++ {
		for txn := int64(1); txn <= count; txn++ {
			if heldBy(all[from], txn) != 0 {
				continue
			}
			for mode := int64(1); mode < modeCount; mode++ {
				all = append(all, append(slices.Clone(all[from]), impl.Hold{Txn: txn, Mode: mode}))
			}
		}
	}
	return all
}

// everyLock has every lock of a resource and three transactions that has no fault, and none.
func everyLock(res int64) [][]impl.Lock {
	lists := [][]impl.Lock{nil}
	all := holdsOf(3)
	for _, holds := range all {
		if slices.ContainsFunc(holds, func(h impl.Hold) bool { return !fitsBeside(holds, h) }) {
			continue
		}
		for _, queue := range all {
			list := []impl.Lock{{Res: res, Holds: holds, Queue: queue}}
			if wantedLocksFault(list) == impl.OK {
				lists = append(lists, list)
			}
		}
	}
	return lists
}

// someLocks has locks of several resources, without a fault.
func someLocks() [][]impl.Lock {
	var lists [][]impl.Lock
	for _, text := range []string{
		"",
		"0 1:is",
		"100 999:x",
		"0 1:is 2:ix | 1 1:s | 2 2:x 1?s",
		"0 1:is 2:is 3:is | 7 1:x 2?s 3?s | 8 2:x | 9 3:x",
		"5 1:s 2:s 1?x 3?x 4?is | 6 3:s 4:s | 50 5:is 6:ix 5?s 6?x",
		"5 1:s 2:s 1?x 2?x 3?is",
		"3 1:is 2:is 3:ix 1?s 2?s 4?s | 4 1:x 5?x 6?is | 5 1:x 7?is 8?is 9?x",
		"0 " + manyOf(1, 20, ":is"),
		"0 " + manyOf(1, 20, ":is") + " 21?x 22?is",
		"0 " + manyOf(1, 20, ":is") + " 21?is",
		"0 " + manyOf(1, 20, ":s") + " " + manyOf(1, 20, "?x"),
		"0 " + manyOf(1, 20, ":is") + " " + manyOf(21, 20, "?x") + " | 1 1:x",
		"0 1:x " + manyOf(2, 20, "?is"),
		"0 1:x " + manyOf(2, 19, "?is") + " | 1 2:x | 2 1:x 22?x",
	} {
		lists = append(lists, locksOf(text))
	}
	return lists
}

// withoutTxn has what is left of locks for all others, in their order.
func withoutTxn(list []impl.Lock, txn int64) []impl.Lock {
	var left []impl.Lock
	for _, lock := range cloneLocksOf(list) {
		lock.Holds = slices.DeleteFunc(lock.Holds, isTxnOf(txn))
		lock.Queue = slices.DeleteFunc(lock.Queue, isTxnOf(txn))
		if len(lock.Holds)+len(lock.Queue) > 0 {
			left = append(left, lock)
		}
	}
	return left
}

// checkAsk holds an answer against the document, and against the promise.
func checkAsk(t *testing.T, list []impl.Lock, txn, res, mode int64) impl.LockResult {
	t.Helper()
	got := impl.AskLock(list, txn, res, mode)
	if want := wantedAsk(list, txn, res, mode); !sameLockResult(got, want) {
		t.Fatalf("AskLock of %d for %d in mode %d, %v: %v, want %v", txn, res, mode, list, got, want)
	}
	if got.Code != impl.OK {
		return got
	}
	if code := impl.LocksFault(got.Locks); code != impl.OK {
		t.Fatalf("AskLock of %d for %d in mode %d, %v: %v has the fault %d", txn, res, mode, list, got, code)
	}
	if !sameLocks(withoutTxn(got.Locks, txn), withoutTxn(list, txn)) {
		t.Fatalf("AskLock of %d for %d in mode %d turned another one's lock: %v, then %v", txn, res, mode, list, got)
	}
	before, after, waits := impl.ModeOf(list, txn, res).Value, impl.ModeOf(got.Locks, txn, res).Value, impl.WaitsAt(got.Locks, txn)
	if got.Granted && (!impl.CoversMode(after, mode) || !impl.CoversMode(after, before) || waits.Code != impl.ErrNone) {
		t.Fatalf("AskLock of %d for %d in mode %d, %v: granted, but %v", txn, res, mode, list, got)
	}
	if !got.Granted && (after != before || waits != (impl.IntResult{Value: res})) {
		t.Fatalf("AskLock of %d for %d in mode %d, %v: neither granted nor waiting: %v", txn, res, mode, list, got)
	}
	return got
}

// checkFree holds an answer against the document, and against the promise.
func checkFree(t *testing.T, list []impl.Lock, txn int64) impl.LockResult {
	t.Helper()
	got := impl.FreeLocks(list, txn)
	if want := wantedFree(list, txn); !sameLockResult(got, want) {
		t.Fatalf("FreeLocks of %d, %v: %v, want %v", txn, list, got, want)
	}
	if got.Code != impl.OK {
		return got
	}
	if code := impl.LocksFault(got.Locks); code != impl.OK {
		t.Fatalf("FreeLocks of %d, %v: %v has the fault %d", txn, list, got, code)
	}
	if len(impl.ResOf(got.Locks, txn).List) > 0 || impl.WaitsAt(got.Locks, txn).Code != impl.ErrNone {
		t.Fatalf("FreeLocks of %d, %v: it is not gone: %v", txn, list, got)
	}
	left, now := withoutTxn(list, txn), got.Locks
	for _, other := range got.List {
		at := impl.WaitsAt(list, other)
		lock := list[slices.IndexFunc(list, func(l impl.Lock) bool { return l.Res == at.Value })]
		if at.Code != impl.OK || impl.ModeOf(now, other, at.Value).Value != heldBy(lock.Queue, other) || impl.WaitsAt(now, other).Code != impl.ErrNone {
			t.Fatalf("FreeLocks of %d, %v: %d has not what it waited for: %v", txn, list, other, got)
		}
	}
	for _, other := range got.List {
		left, now = withoutTxn(left, other), withoutTxn(now, other)
	}
	if !sameLocks(left, now) {
		t.Fatalf("FreeLocks of %d turned the lock of one who is not told: %v, then %v", txn, list, got)
	}
	return got
}

// checkLooks asks of every transaction up to last what it holds and where it waits.
func checkLooks(t *testing.T, list []impl.Lock, last int64) {
	t.Helper()
	for txn := int64(1); txn <= last; txn++ {
		waits := impl.IntResult{Code: impl.ErrNone}
		var held []int64
		modes := [101]int64{}
		for _, lock := range list {
			modes[lock.Res] = heldBy(lock.Holds, txn)
			if modes[lock.Res] != 0 {
				held = append(held, lock.Res)
			}
			if heldBy(lock.Queue, txn) != 0 {
				waits = impl.IntResult{Value: lock.Res}
			}
		}
		for _, res := range []int64{0, 1, 2, 3, 4, 5, 6, 7, 8, 9, 50, 51, 99, 100} {
			if got := impl.ModeOf(list, txn, res); got != (impl.IntResult{Value: modes[res]}) {
				t.Fatalf("ModeOf %d at %d, %v: %v, want %d", txn, res, list, got, modes[res])
			}
		}
		if got := impl.WaitsAt(list, txn); got != waits {
			t.Fatalf("WaitsAt of %d, %v: %v, want %v", txn, list, got, waits)
		}
		if got := impl.ResOf(list, txn); got.Code != impl.OK || !slices.Equal(got.List, held) {
			t.Fatalf("ResOf %d, %v: %v, want %v", txn, list, got, held)
		}
	}
}

func TestSomeLocksHaveNoFault(t *testing.T) {
	for _, list := range someLocks() {
		if wanted, got := wantedLocksFault(list), impl.LocksFault(list); wanted != impl.OK || got != impl.OK {
			t.Fatalf("LocksFault of %v: %d, wanted %d", list, got, wanted)
		}
	}
}

func TestAskAndFreeOfEveryLock(t *testing.T) {
	lists := everyLock(5)
	if len(lists) < 500 {
		t.Fatalf("there are %d locks alone", len(lists))
	}
	for _, list := range lists {
		for txn := int64(1); txn <= 4; txn++ {
			checkFree(t, list, txn)
			for mode := int64(1); mode < modeCount; mode++ {
				checkAsk(t, list, txn, 4, mode)
				checkAsk(t, list, txn, 5, mode)
				checkAsk(t, list, txn, 6, mode)
			}
		}
	}
}

func TestLooksAtEveryLock(t *testing.T) {
	for _, list := range append(everyLock(5), everyLock(100)...) {
		checkLooks(t, list, 4)
	}
}

func TestAskAndFreeOfSomeLocks(t *testing.T) {
	for _, list := range someLocks() {
		checkLooks(t, list, 45)
		for txn := int64(1); txn <= 45; txn++ {
			checkFree(t, list, txn)
			for _, res := range []int64{0, 1, 2, 3, 4, 5, 6, 7, 8, 9, 50, 100} {
				for mode := int64(1); mode < modeCount; mode++ {
					checkAsk(t, list, txn, res, mode)
				}
			}
		}
		checkFree(t, list, 999)
		checkAsk(t, list, 999, 100, impl.ModeS)
	}
}

// TestLocksComeAndGo follows a lock table through asks and ends of a plain rule's making, with few transactions and with more than hold a lock at once.
func TestLocksComeAndGo(t *testing.T) {
	next := numbersFrom(11)
	codes := map[int64]int{}
	waited, admitted := 0, 0
	for _, c := range []struct{ txns, resources, frees, strong int64 }{
		{4, 3, 4, 2}, {10, 5, 5, 3}, {60, 1, 40, 30}, {70, 2, 40, 12}, {50, 101, 20, 2}, {999, 101, 9, 4},
	} {
		var list []impl.Lock
		for range 4000 {
			txn := 1 + next(c.txns)
			if next(c.frees) == 0 {
				got := checkFree(t, list, txn)
				admitted += len(got.List)
				list = got.Locks
				continue
			}
			mode := int64(impl.ModeIs)
			if next(c.strong) == 0 {
				mode = 1 + next(5)
			}
			got := checkAsk(t, list, txn, next(c.resources), mode)
			codes[got.Code]++
			if got.Code == impl.OK {
				list = got.Locks
			}
			if got.Code == impl.OK && !got.Granted {
				waited++
			}
		}
	}
	if codes[impl.ErrMany] < 20 || codes[impl.ErrState] < 20 || waited < 100 || admitted < 100 {
		t.Errorf("too little was met: codes %v, %d waited, %d admitted", codes, waited, admitted)
	}
}
