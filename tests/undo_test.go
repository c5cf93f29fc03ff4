package tests

import (
	"slices"
	"testing"

	"loop.example/g00270/impl"
)

// valuesIn has what ValueIn tells of each key.
func valuesIn(list []impl.Leaf) []impl.IntResult {
	var values []impl.IntResult
	for key := int64(0); key <= impl.MaxKey; key++ {
		values = append(values, impl.ValueIn(list, key))
	}
	return values
}

// checkSet holds an answer against the document and against the promise: the value is there, and that of all other keys is as it was then.
func checkSet(t *testing.T, list []impl.Leaf, then []impl.IntResult, txn, key int64, now some) impl.UndoResult {
	t.Helper()
	got := impl.SetValue(list, txn, key, now.has, now.value)
	if want := wantedSet(list, txn, key, now.has, now.value); !sameUndo(got, want) {
		t.Fatalf("SetValue of %d, %d, %v in %v: %v, want %v", txn, key, now, list, got, want)
	}
	if got.Code != impl.OK {
		return got
	}
	want := slices.Clone(then)
	want[key] = impl.IntResult{Value: now.value}
	if !now.has {
		want[key] = impl.IntResult{Code: impl.ErrNone}
	}
	if values := valuesIn(got.Leaves); !slices.Equal(values, want) {
		t.Fatalf("SetValue of %d, %v in %v: the values %v, want %v", key, now, list, values, want)
	}
	if code := impl.LeavesFault(got.Leaves); code != impl.OK {
		t.Fatalf("SetValue of %d, %v in %v: the fault %d", key, now, list, code)
	}
	return got
}

// checkBack holds an answer against the document and against the promise: behind it the values are those of then.
func checkBack(t *testing.T, list []impl.Leaf, txn int64, befores []impl.Before, then []impl.IntResult) impl.UndoResult {
	t.Helper()
	got := impl.UndoAll(list, txn, befores)
	if want := wantedUndo(list, txn, befores); !sameUndo(got, want) {
		t.Fatalf("UndoAll of %d, %v in %v: %v, want %v", txn, befores, list, got, want)
	}
	if got.Code == impl.OK && !slices.Equal(valuesIn(got.Leaves), then) {
		t.Fatalf("UndoAll of %d, %v in %v: the values %v, want %v", txn, befores, list, valuesIn(got.Leaves), then)
	}
	return got
}

func TestValueInAtEveryKey(t *testing.T) {
	for _, list := range someLeaves() {
		for key := int64(0); key <= impl.MaxKey; key++ {
			if got, want := impl.ValueIn(list, key), wantedValue(list, key); got != want {
				t.Fatalf("ValueIn %d in %v: %v, want %v", key, list, got, want)
			}
			if got, want := impl.BeforeOf(list, key), wantedBefore(list, key); got != want {
				t.Fatalf("BeforeOf %d in %v: %v, want %v", key, list, got, want)
			}
		}
	}
}

func TestMapOfRowsOfSomeLeaves(t *testing.T) {
	for _, list := range someLeaves() {
		got := impl.MapOfRows(impl.RowsOf(list).Rows)
		if want := impl.ScanRows(list, 0, impl.MaxKey); got.Code != impl.OK || !slices.Equal(got.Rows, want.Rows) {
			t.Fatalf("MapOfRows of %v: %v, want %v", list, got, want)
		}
	}
	for _, rows := range append(oddRows(), somePages()...) {
		got, want := impl.MapOfRows(rows), wantedMap(rows)
		if got.Code != want.Code || !slices.Equal(got.Rows, want.Rows) {
			t.Fatalf("MapOfRows of %v: %v, want %v", rows[:min(len(rows), 5)], got, want)
		}
	}
}

// TestMapOfEveryThreeRows has each of some rows, right and wrong ones, ahead of each other one and a third.
func TestMapOfEveryThreeRows(t *testing.T) {
	each := []impl.Row{row(0, 0), row(1, 9999), ghost(1), row(2, 7), ghost(99), row(99, 1), row(-1, 0), row(100, 0), row(3, -1), row(3, 10000), {Key: 2, Value: 1, Ghost: true}}
	for _, first := range each {
		for _, second := range each {
			for _, third := range each {
				for _, rows := range [][]impl.Row{{first}, {first, second}, {first, second, third}} {
					got, want := impl.MapOfRows(rows), wantedMap(rows)
					if got.Code != want.Code || !slices.Equal(got.Rows, want.Rows) {
						t.Fatalf("MapOfRows of %v: %v, want %v", rows, got, want)
					}
				}
			}
		}
	}
}

// TestSetAndTakenBackAtEveryKey takes a single change back.
func TestSetAndTakenBackAtEveryKey(t *testing.T) {
	for _, list := range someLeaves() {
		then := valuesIn(list)
		for key := int64(0); key <= impl.MaxKey; key++ {
			for _, now := range []some{{true, 0}, {true, 9999}, {false, 0}} {
				set := checkSet(t, list, then, 1+key*10, key, now)
				if set.Code != impl.OK {
					continue
				}
				befores := []impl.Before{impl.BeforeOf(list, key)}
				back := checkBack(t, set.Leaves, 1+key*10, befores, then)
				if back.Code != impl.OK || len(back.Recs) != 1 {
					t.Fatalf("%d, %v in %v is not taken back: %v", key, now, list, back)
				}
				one, other := set.Recs[0], back.Recs[0]
				if other != change(impl.LogBack, one.Txn, one.Key, some{one.Has, one.New}, some{one.Had, one.Old}) {
					t.Fatalf("%d, %v in %v: the record %v is taken back by %v", key, now, list, one, other)
				}
			}
		}
	}
}

// changed is a run of changes: the leaves behind them all, the values behind each of them (those ahead of all first), and what was before each.
type changed struct {
	leaves  []impl.Leaf
	values  [][]impl.IntResult
	befores []impl.Before
}

// changedFrom makes changes of a plain rule's making, of so many keys alone, up to as many as can be taken back.
func changedFrom(t *testing.T, list []impl.Leaf, next func(int64) int64, keys int64) changed {
	t.Helper()
	run := changed{leaves: list, values: [][]impl.IntResult{valuesIn(list)}}
	first := next(100 - keys + 1)
	for range 2 * impl.MaxUndo {
		now := some{true, next(10000)}
		if next(3) == 0 {
			now = some{}
		}
		key := first + next(keys)
		set := checkSet(t, run.leaves, run.values[len(run.befores)], 7, key, now)
		if set.Code != impl.OK {
			continue
		}
		run.befores = append(run.befores, impl.BeforeOf(run.leaves, key))
		run.values = append(run.values, valuesIn(set.Leaves))
		run.leaves = set.Leaves
		if len(run.befores) == impl.MaxUndo {
			break
		}
	}
	return run
}

// TestManyChangesAreTakenBack takes runs of changes back, whole and from each of their places on.
func TestManyChangesAreTakenBack(t *testing.T) {
	next := numbersFrom(5)
	for _, list := range someLeaves() {
		for _, keys := range []int64{1, 5, 100} {
			run := changedFrom(t, list, next, keys)
			for from, then := range run.values {
				back := checkBack(t, run.leaves, 7, run.befores[from:], then)
				if back.Code != impl.OK || len(back.Recs) != len(run.befores)-from {
					t.Fatalf("changes from %d on are not taken back: %v", from, back)
				}
			}
		}
	}
}

// TestTakenBackInTwoParts holds what is taken back in two parts, the last changes first, against what is taken back in one.
func TestTakenBackInTwoParts(t *testing.T) {
	next := numbersFrom(6)
	for _, list := range someLeaves() {
		run := changedFrom(t, list, next, 12)
		whole := impl.UndoAll(run.leaves, 7, run.befores)
		for at := range run.values {
			one := impl.UndoAll(run.leaves, 7, run.befores[at:])
			other := impl.UndoAll(one.Leaves, 7, run.befores[:at])
			both := impl.UndoResult{Code: other.Code, Leaves: other.Leaves, Recs: slices.Concat(one.Recs, other.Recs)}
			if one.Code != impl.OK || !sameUndo(both, whole) {
				t.Fatalf("taken back in two parts, from %d on first: %v, want %v", at, both, whole)
			}
		}
	}
}

// TestRecordsOfWhatIsTakenBack follows the records: each had what is there as it is met, and has what is there behind it.
func TestRecordsOfWhatIsTakenBack(t *testing.T) {
	next := numbersFrom(9)
	for _, list := range someLeaves() {
		run := changedFrom(t, list, next, 15)
		values := valuesIn(run.leaves)
		back := impl.UndoAll(run.leaves, 7, run.befores)
		for i, r := range back.Recs {
			if r.Kind != impl.LogBack || r.Txn != 7 || impl.RecFault(r) != impl.OK {
				t.Fatalf("record %d: %v", i, r)
			}
			was := values[r.Key]
			if r.Had != (was.Code == impl.OK) || r.Old != was.Value {
				t.Fatalf("record %d: %v, and there was %v", i, r, was)
			}
			values[r.Key] = impl.IntResult{Value: r.New}
			if !r.Has {
				values[r.Key] = impl.IntResult{Code: impl.ErrNone}
			}
		}
		if !slices.Equal(values, valuesIn(back.Leaves)) {
			t.Fatalf("the records %v come to %v, the leaves to %v", back.Recs, values, valuesIn(back.Leaves))
		}
	}
}

// TestMadeUpBefores takes back what never was, with and without faults.
func TestMadeUpBefores(t *testing.T) {
	next := numbersFrom(12)
	codes := map[int64]int{}
	lists := append(someLeaves(), []impl.Leaf{leaf()}, []impl.Leaf{keyed(5, 4)}, []impl.Leaf{keyed(100)}, cutLeaves(0, 1, 61, 1))
	for range 4000 {
		list := lists[next(int64(len(lists)))]
		var befores []impl.Before
		for range next(45) {
			b := had(next(100), next(10000))
			switch next(200) {
			case 0:
				b = had(next(3)+98, 0)
			case 1:
				b = had(5, next(3)+9998)
			case 2:
				b.Had = false
			}
			if next(3) == 0 {
				b.Had, b.Value = false, 0
			}
			befores = append(befores, b)
		}
		txn := next(1003)
		got, want := impl.UndoAll(list, txn, befores), wantedUndo(list, txn, befores)
		if !sameUndo(got, want) || impl.BeforesFault(befores) != wantedBeforesFault(befores) {
			t.Fatalf("UndoAll of %d, %v in %v: %v, want %v", txn, befores, list, got, want)
		}
		codes[got.Code]++
	}
	for _, code := range []int64{impl.OK, impl.ErrForm, impl.ErrMany, impl.ErrRange} {
		if codes[code] == 0 {
			t.Errorf("the code %d never came: %v", code, codes)
		}
	}
}
