package tests

import (
	"slices"
	"testing"

	"loop.example/g00270/impl"
)

// checkTurned holds an answer against the document; where it has no code it has no fault either, and turned back it is the list.
func checkTurned(t *testing.T, list []impl.Pair, key int64, old, now impl.Before) []impl.Pair {
	t.Helper()
	got, want := impl.TurnIndex(list, key, old, now), wantedTurn(list, key, old, now)
	if !samePairs(got, want) {
		t.Fatalf("TurnIndex of %v, %d, %v, %v: %v, want %v", list, key, old, now, got, want)
	}
	if got.Code != impl.OK {
		return nil
	}
	if code := impl.IndexFault(got.Pairs); code != impl.OK {
		t.Fatalf("TurnIndex of %v, %d, %v, %v: the fault %d", list, key, old, now, code)
	}
	if back := impl.TurnIndex(got.Pairs, key, now, old); !samePairs(back, impl.PairsResult{Pairs: list}) {
		t.Fatalf("TurnIndex of %v, %d, %v, %v and back: %v", list, key, old, now, back)
	}
	return got.Pairs
}

// checkIndexTells holds an index against the rows: it is theirs, and of a value it tells just the keys that have it.
func checkIndexTells(t *testing.T, index []impl.Pair, list []impl.Leaf, values []int64) {
	t.Helper()
	if got := impl.IndexOf(list); !samePairs(got, wantedIndex(list)) || !impl.SameIndex(got.Pairs, index) {
		t.Fatalf("IndexOf %v: %v, want %v", list, got, index)
	}
	if code := impl.IndexFault(index); code != impl.OK {
		t.Fatalf("the index %v: the fault %d", index, code)
	}
	told := valuesIn(list)
	for _, value := range values {
		var want impl.IntsResult
		for key, has := range told {
			if has == (impl.IntResult{Value: value}) {
				want.List = append(want.List, int64(key))
			}
		}
		if got := impl.LookIndex(index, value); !sameInts(got, want) {
			t.Fatalf("LookIndex of %d in %v: %v, want %v", value, index, got, want)
		}
	}
}

func TestIndexOfSomeLeaves(t *testing.T) {
	for _, list := range someLeaves() {
		checkIndexTells(t, wantedIndex(list).Pairs, list, []int64{0, 1, 2, 5, 10, 50, 99, 101, 606, 9999})
	}
	for _, list := range oddLeaves() {
		if got, want := impl.IndexOf(list), wantedIndex(list); !samePairs(got, want) {
			t.Fatalf("IndexOf of %d leaves: %v, want %v", len(list), got, want)
		}
	}
}

// TestIndexOfRowsPutOtherwise has the same rows in leaves of other sizes, and without their ghosts.
func TestIndexOfRowsPutOtherwise(t *testing.T) {
	for _, list := range someLeaves() {
		want := impl.IndexOf(list)
		if got := impl.IndexOf(impl.PackLeaves(list).Leaves); !samePairs(got, want) {
			t.Fatalf("IndexOf of %v, packed: %v, want %v", list, got, want)
		}
		bare := list
		for _, r := range rowsIn(list) {
			if r.Ghost {
				bare = impl.DropRow(bare, r.Key).Leaves
			}
		}
		if got := impl.IndexOf(bare); !samePairs(got, want) {
			t.Fatalf("IndexOf of %v, without ghosts: %v, want %v", list, got, want)
		}
	}
}

// TestTurnIndexAtEveryKey turns each key of some indexes to values that stand at every place of the order.
func TestTurnIndexAtEveryKey(t *testing.T) {
	for _, list := range someIndexes() {
		for key := range int64(100) {
			old := hadNone(key)
			if at := slices.IndexFunc(list, func(p impl.Pair) bool { return p.Key == key }); at >= 0 {
				old = had(key, list[at].Value)
			}
			nows := []impl.Before{hadNone(key), old, had(key, 0), had(key, 3), had(key, 5000), had(key, 9999)}
			for _, other := range []impl.Before{had(key, max(0, old.Value-1)), had(key, min(9999, old.Value+1))} {
				nows = append(nows, other)
				checkTurned(t, list, key, other, hadNone(key))
			}
			for _, now := range nows {
				if checkTurned(t, list, key, old, now) == nil && (len(list) > 1 || now.Had) {
					t.Fatalf("TurnIndex of %v, %d, %v, %v does nothing", list, key, old, now)
				}
			}
		}
	}
}

// everyIndex has all indexes of four keys that have one of three values, or none.
func everyIndex() [][]impl.Pair {
	lists := [][]impl.Pair{nil}
	for _, key := range []int64{0, 1, 50, 99} {
		for _, list := range lists {
			for _, value := range []int64{0, 1, 9999} {
				next := append(slices.Clone(list), impl.Pair{Value: value, Key: key})
				slices.SortStableFunc(next, func(a, b impl.Pair) int { return int(a.Value - b.Value) })
				lists = append(lists, next)
			}
		}
	}
	return lists
}

func TestEveryIndexOfFewKeys(t *testing.T) {
	lists := everyIndex()
	if len(lists) != 256 {
		t.Fatalf("%d indexes, want 256", len(lists))
	}
	for _, list := range lists {
		checkIndexFault(t, "of few keys", list, impl.OK)
		for _, key := range []int64{0, 1, 2, 50, 99} {
			each := []impl.Before{hadNone(key), had(key, 0), had(key, 1), had(key, 9999)}
			for _, old := range each {
				for _, now := range each {
					checkTurned(t, list, key, old, now)
				}
			}
		}
		for _, value := range []int64{-1, 0, 1, 2, 9998, 9999, 10000} {
			if got, want := impl.LookIndex(list, value), wantedLook(list, value); !sameInts(got, want) {
				t.Fatalf("LookIndex of %d in %v: %v, want %v", value, list, got, want)
			}
		}
	}
}

func TestLookIndexAtEveryValue(t *testing.T) {
	list := pairsNamed("0:50 1:10 1:20 1:30 2:40 2:60 9998:0 9999:1 9999:99")
	found := 0
	for value := int64(-3); value <= impl.MaxValue+3; value++ {
		got, want := impl.LookIndex(list, value), wantedLook(list, value)
		if !sameInts(got, want) {
			t.Fatalf("LookIndex of %d: %v, want %v", value, got, want)
		}
		found += len(got.List)
	}
	if found != len(list) {
		t.Errorf("%d keys at all values, want %d", found, len(list))
	}
}

// turnedRun is a store of rows and an index that is turned with them.
type turnedRun struct {
	leaves  []impl.Leaf
	index   []impl.Pair
	befores []impl.Before
}

// set sets a value and turns the index with it: by what was before, and by what is then.
func (run *turnedRun) set(t *testing.T, key int64, now some, values []int64) {
	t.Helper()
	set := impl.SetValue(run.leaves, 7, key, now.has, now.value)
	if set.Code != impl.OK {
		return
	}
	was, is := impl.BeforeOf(run.leaves, key), impl.BeforeOf(set.Leaves, key)
	turned := impl.TurnIndex(run.index, key, was, is)
	if turned.Code != impl.OK {
		t.Fatalf("TurnIndex of %v, %d, %v, %v: %v", run.index, key, was, is, turned)
	}
	run.leaves, run.index, run.befores = set.Leaves, turned.Pairs, append(run.befores, was)
	checkIndexTells(t, run.index, run.leaves, values)
}

// takeBack takes the changes back, and turns the index by the records of it.
func (run *turnedRun) takeBack(t *testing.T, values []int64) {
	t.Helper()
	back := impl.UndoAll(run.leaves, 7, run.befores)
	if back.Code != impl.OK {
		t.Fatalf("UndoAll of %v: %v", run.befores, back)
	}
	for _, r := range back.Recs {
		old, now := impl.Before{Key: r.Key, Had: r.Had, Value: r.Old}, impl.Before{Key: r.Key, Had: r.Has, Value: r.New}
		turned := impl.TurnIndex(run.index, r.Key, old, now)
		if turned.Code != impl.OK {
			t.Fatalf("TurnIndex of %v by %v: %v", run.index, r, turned)
		}
		run.index = turned.Pairs
	}
	run.leaves, run.befores = back.Leaves, nil
	checkIndexTells(t, run.index, run.leaves, values)
}

// TestIndexIsTurnedWithTheRows sets values of few and of many kinds, so that many are alike or none, and takes keys' values from them.
func TestIndexIsTurnedWithTheRows(t *testing.T) {
	next := numbersFrom(21)
	for _, list := range someLeaves() {
		for _, kinds := range [][]int64{{0}, {0, 9999}, {3, 1, 4, 9998}, {5, 505, 1010, 2, 0, 7777, 4242, 606, 99}} {
			run := turnedRun{leaves: list, index: impl.IndexOf(list).Pairs}
			checkIndexTells(t, run.index, run.leaves, kinds)
			for range impl.MaxUndo {
				now := some{true, kinds[next(int64(len(kinds)))]}
				if next(3) == 0 {
					now = some{}
				}
				run.set(t, next(100), now, kinds)
			}
			run.takeBack(t, kinds)
			if got := impl.IndexOf(list); !impl.SameIndex(got.Pairs, run.index) {
				t.Fatalf("turned back: %v, want %v", run.index, got)
			}
		}
	}
}

// TestIndexFromNothingAndBack gives every key a value, then another one, and then none, from an index of no pairs on.
func TestIndexFromNothingAndBack(t *testing.T) {
	for _, step := range []int64{1, 37, 99} {
		run := turnedRun{}
		for round := range int64(3) {
			for i := range int64(100) {
				key := i * step % 100
				now := some{true, key * (round + 1) * 7 % 13}
				if round == 2 {
					now = some{}
				}
				run.set(t, key, now, []int64{0, 1, 6, 12, 13})
			}
			if want := []int{100, 100, 0}[round]; len(run.index) != want {
				t.Fatalf("round %d: %d pairs, want %d", round, len(run.index), want)
			}
		}
	}
}
