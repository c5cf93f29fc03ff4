package tests

import (
	"reflect"
	"slices"
	"testing"

	"loop.example/g00270/impl"
)

func roomyHolds(holds []impl.Hold) []impl.Hold {
	whole := append(slices.Clone(holds), impl.Hold{Txn: 87, Mode: 1}, impl.Hold{Txn: 88, Mode: 2}, impl.Hold{Txn: 89, Mode: 3})
	return whole[:len(holds)]
}

// roomyLocks has locks with room behind them and behind the lists of each, so that an append to the argument would be seen there.
func roomyLocks(list []impl.Lock) []impl.Lock {
	var whole []impl.Lock
	for _, lock := range list {
		whole = append(whole, impl.Lock{Res: lock.Res, Holds: roomyHolds(lock.Holds), Queue: roomyHolds(lock.Queue)})
	}
	whole = append(whole, locksOf("97 1:s | 98 1:s | 99 1:s")...)
	return whole[:len(list)]
}

// oddLocks has locks with and without faults.
func oddLocks() [][]impl.Lock {
	lists := someLocks()
	for _, text := range []string{
		"5", "-1 1:s", "5 1:s | 5 1:s", "5 " + manyOf(1, 21, ":s"), "5 1:x 0?s", "5 1:s 1:s", "5 1:s 2:x", "5 1:s 2?s", "5 1:s 2:s 3?x 1?x", "5 1:x 2?s | 6 1:x 2?s",
	} {
		lists = append(lists, locksOf(text))
	}
	return append(lists, make([]impl.Lock, 100000))
}

// wholeLocks has all that is within reach of locks, their room and that of their lists with it.
func wholeLocks(list []impl.Lock) []impl.Lock {
	var all []impl.Lock
	for _, lock := range list[:cap(list)] {
		all = append(all, impl.Lock{Res: lock.Res, Holds: lock.Holds[:cap(lock.Holds)], Queue: lock.Queue[:cap(lock.Queue)]})
	}
	return all
}

// holdLists has the lists of all locks, whole.
func holdLists(list []impl.Lock) [][]impl.Hold {
	var lists [][]impl.Hold
	for _, lock := range wholeLocks(list) {
		lists = append(lists, lock.Holds, lock.Queue)
	}
	return lists
}

func lockCalls(list []impl.Lock) []impl.LockResult {
	var answers []impl.LockResult
	for _, txn := range []int64{0, 1, 2, 3, 4, 20, 21, 41, 999, 1000} {
		answers = append(answers, impl.FreeLocks(list, txn))
		for _, res := range []int64{-1, 0, 1, 5, 6, 100, 101} {
			for _, mode := range []int64{impl.ModeNone, impl.ModeIs, impl.ModeIx, impl.ModeX, 6} {
				answers = append(answers, impl.AskLock(list, txn, res, mode))
			}
		}
	}
	return answers
}

func lockLooks(list []impl.Lock) ([]impl.IntResult, []impl.IntsResult) {
	ints := []impl.IntResult{{Code: impl.LocksFault(list)}}
	var lists []impl.IntsResult
	for _, txn := range []int64{0, 1, 2, 3, 4, 20, 21, 999, 1000} {
		ints = append(ints, impl.WaitsAt(list, txn))
		lists = append(lists, impl.ResOf(list, txn))
		for _, res := range []int64{-1, 0, 1, 5, 6, 100, 101} {
			ints = append(ints, impl.ModeOf(list, txn, res))
		}
	}
	return ints, lists
}

func TestLocksStayAndAnswersRepeat(t *testing.T) {
	for _, odd := range oddLocks() {
		list := roomyLocks(odd)
		before := cloneLocksOf(wholeLocks(list))
		answers := lockCalls(list)
		ints, lists := lockLooks(list)
		if !sameLocks(wholeLocks(list), before) {
			t.Fatalf("%d locks are changed: %v", len(list), before)
		}
		again := lockCalls(list)
		intsAgain, listsAgain := lockLooks(list)
		if !reflect.DeepEqual(again, answers) || !slices.Equal(intsAgain, ints) || !reflect.DeepEqual(listsAgain, lists) {
			t.Fatalf("another answer at the second call, of %d locks", len(list))
		}
		for _, got := range answers {
			if got.Code != impl.OK && !reflect.DeepEqual(got, impl.LockResult{Code: got.Code}) {
				t.Fatalf("something beside the code %d: %v", got.Code, got)
			}
		}
		for _, got := range ints {
			if got.Code != impl.OK && got.Value != 0 {
				t.Fatalf("a number beside the code %d", got.Code)
			}
		}
		for _, got := range lists {
			if got.Code != impl.OK && got.List != nil {
				t.Fatalf("a list beside the code %d", got.Code)
			}
		}
	}
}

// TestLocksWithEmptyLists has lists that are empty in place of those that are nil.
func TestLocksWithEmptyLists(t *testing.T) {
	for _, odd := range oddLocks() {
		list := append([]impl.Lock{}, odd...)
		for i, lock := range list {
			list[i].Holds = append([]impl.Hold{}, lock.Holds...)
			list[i].Queue = append([]impl.Hold{}, lock.Queue...)
		}
		if !slices.EqualFunc(lockCalls(list), lockCalls(odd), sameLockResult) {
			t.Fatalf("another answer with empty lists, of %d locks", len(list))
		}
		ints, lists := lockLooks(list)
		intsOfNil, listsOfNil := lockLooks(odd)
		if !slices.Equal(ints, intsOfNil) || !reflect.DeepEqual(lists, listsOfNil) {
			t.Fatalf("another look with empty lists, of %d locks", len(list))
		}
	}
}

// TestListsOfOneLockAnswerShareNothing turns one list of an answer after the other, and all that is within its reach.
func TestListsOfOneLockAnswerShareNothing(t *testing.T) {
	for _, some := range someLocks() {
		for _, got := range lockCalls(roomyLocks(some)) {
			lists := holdLists(got.Locks)
			for i, turned := range lists {
				kept := make([][]impl.Hold, len(lists))
				for k, other := range lists {
					kept[k] = slices.Clone(other)
				}
				for k := range turned {
					turned[k] = impl.Hold{Txn: -1, Mode: -int64(i)}
				}
				for k, other := range lists {
					if k != i && !slices.Equal(other, kept[k]) {
						t.Fatalf("the lists %d and %d of an answer for %v share memory", i, k, some)
					}
				}
			}
		}
	}
}

func TestLockAnswersAreNewMemory(t *testing.T) {
	for _, some := range someLocks() {
		list := roomyLocks(some)
		before := cloneLocksOf(wholeLocks(list))
		answers, others := lockCalls(list), lockCalls(list)
		var want []impl.LockResult
		for i, got := range answers {
			want = append(want, impl.LockResult{Code: got.Code, Granted: got.Granted, List: slices.Clone(got.List), Locks: cloneLocksOf(got.Locks)})
			for _, holds := range holdLists(got.Locks) {
				clear(holds)
			}
			clear(got.Locks[:cap(got.Locks)])
			clear(got.List[:cap(got.List)])
			if !sameLocks(wholeLocks(list), before) {
				t.Fatalf("%v turned with answer %d", some, i)
			}
		}
		for _, holds := range holdLists(list) {
			clear(holds)
		}
		clear(list[:cap(list)])
		for i, got := range others {
			if !sameLockResult(got, want[i]) {
				t.Fatalf("an answer turned with another one or with its locks: %v, want %v", got, want[i])
			}
		}
	}
}

func TestResourcesToldAreNewMemory(t *testing.T) {
	list := locksOf("0 1:is | 5 1:s | 100 1:x")
	first, second := impl.ResOf(list, 1), impl.ResOf(list, 1)
	clear(first.List[:cap(first.List)])
	if !slices.Equal(second.List, []int64{0, 5, 100}) || !slices.Equal(impl.ResOf(list, 1).List, []int64{0, 5, 100}) {
		t.Errorf("ResOf: %v behind a change of another answer", second)
	}
}
