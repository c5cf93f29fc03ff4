package tests

import (
	"math"
	"reflect"
	"testing"

	"loop.example/g00270/impl"
)

// wrongValues has numbers that are no values; some are one, if bits or the sign of them are lost.
func wrongValues() []int64 {
	return []int64{math.MinInt64, math.MinInt64 + 5, -1 << 32, -9999, -1, 10000, 10001, 1<<14 + 5, 1<<16 + 5, 1 << 32, 1<<62 + 5, math.MaxInt64}
}

// manyBefores has what was before changes of keys from 0 on, each third one without a value.
func manyBefores(count int64) []impl.Before {
	var list []impl.Before
	for key := range count {
		b := had(key%100, key*7%10000)
		if key%3 == 0 {
			b = hadNone(key % 100)
		}
		list = append(list, b)
	}
	return list
}

// oddBefores has single ones, with and without a fault.
func oddBefores() []impl.Before {
	list := []impl.Before{
		{}, had(0, 0), had(99, 9999), had(7, 70), hadNone(99), hadNone(7),
		{Key: 7, Value: 1}, {Key: 0, Value: 9999}, {Key: 99, Value: 10000}, {Key: 100, Value: 1},
	}
	for _, key := range wrongKeys() {
		list = append(list, had(key, 0), hadNone(key))
	}
	for _, value := range wrongValues() {
		list = append(list, had(7, value), impl.Before{Key: 7, Value: value})
	}
	return list
}

// checkUndoFault asks all that takes leaves which have a fault, with arguments that have faults of their own, which come behind the leaves'.
func checkUndoFault(t *testing.T, name string, list []impl.Leaf, want int64) {
	t.Helper()
	for _, key := range []int64{0, 1, impl.MaxKey, -1, impl.MaxKey + 1, math.MinInt64} {
		if got := impl.ValueIn(list, key); got != (impl.IntResult{Code: want}) {
			t.Fatalf("ValueIn %d, %s: %v, want the code %d", key, name, got, want)
		}
		if got := impl.BeforeOf(list, key); got != (impl.Before{}) {
			t.Fatalf("BeforeOf %d, %s: %v, want the zero value", key, name, got)
		}
	}
	none := impl.UndoResult{Code: want}
	for _, txn := range []int64{1, 0, impl.MaxTxn + 1} {
		for _, b := range []impl.Before{had(1, 1), hadNone(99), {Key: 1, Value: 1}, had(100, 0), had(1, 10000)} {
			if got := impl.SetValue(list, txn, b.Key, b.Had, b.Value); !reflect.DeepEqual(got, none) {
				t.Fatalf("SetValue of %d and %v, %s: %v, want the code %d", txn, b, name, got, want)
			}
			if got := impl.UndoAll(list, txn, []impl.Before{b}); !reflect.DeepEqual(got, none) {
				t.Fatalf("UndoAll of %d and %v, %s: %v, want the code %d", txn, b, name, got, want)
			}
		}
		for _, befores := range [][]impl.Before{nil, manyBefores(41)} {
			if got := impl.UndoAll(list, txn, befores); !reflect.DeepEqual(got, none) {
				t.Fatalf("UndoAll of %d and %d befores, %s: %v, want the code %d", txn, len(befores), name, got, want)
			}
		}
	}
}

func TestBeforesFault(t *testing.T) {
	formless := impl.Before{Key: 5, Value: 1}
	for _, c := range []struct {
		name string
		list []impl.Before
		want int64
	}{
		{"none", nil, impl.OK},
		{"none, not nil", []impl.Before{}, impl.OK},
		{"the zero value", []impl.Before{{}}, impl.OK},
		{"as many as there may be", manyBefores(impl.MaxUndo), impl.OK},
		{"as many as there may be, all alike", make([]impl.Before, impl.MaxUndo), impl.OK},
		{"one too many", manyBefores(impl.MaxUndo + 1), impl.ErrMany},
		{"far too many", make([]impl.Before, 100000), impl.ErrMany},
		{"one too many, the first one out of bounds", append([]impl.Before{had(-1, 0)}, manyBefores(40)...), impl.ErrMany},
		{"one too many, the last one of a wrong form", append(manyBefores(40), formless), impl.ErrMany},
		{"a key just at its lower bound", []impl.Before{had(0, 5), hadNone(0)}, impl.OK},
		{"a key just at its upper bound", []impl.Before{had(99, 5), hadNone(99)}, impl.OK},
		{"a key below", []impl.Before{had(-1, 5)}, impl.ErrRange},
		{"a key below, without a value", []impl.Before{hadNone(-1)}, impl.ErrRange},
		{"a key above", []impl.Before{had(100, 5)}, impl.ErrRange},
		{"a key above, without a value", []impl.Before{hadNone(100)}, impl.ErrRange},
		{"a value just at its lower bound", []impl.Before{had(5, 0)}, impl.OK},
		{"a value just at its upper bound", []impl.Before{had(5, 9999)}, impl.OK},
		{"a value below", []impl.Before{had(5, -1)}, impl.ErrRange},
		{"a value above", []impl.Before{had(5, 10000)}, impl.ErrRange},
		{"a value that it had not", []impl.Before{formless}, impl.ErrForm},
		{"the greatest value that it had not", []impl.Before{{Key: 5, Value: 9999}}, impl.ErrForm},
		{"a value that it had not, and below", []impl.Before{{Key: 5, Value: -1}}, impl.ErrRange},
		{"a value that it had not, and above", []impl.Before{{Key: 5, Value: 10000}}, impl.ErrRange},
		{"a value that it had not, of a wrong key", []impl.Before{{Key: 100, Value: 1}}, impl.ErrRange},
		{"a wrong form ahead of a wrong number", []impl.Before{formless, had(100, 0)}, impl.ErrForm},
		{"a wrong number ahead of a wrong form", []impl.Before{had(100, 0), formless}, impl.ErrRange},
		{"the last one out of bounds", append(manyBefores(39), had(0, 10000)), impl.ErrRange},
		{"the last one of a wrong form", append(manyBefores(39), formless), impl.ErrForm},
		{"a key twice", []impl.Before{had(5, 1), had(5, 2), hadNone(5)}, impl.OK},
		{"keys that fall", []impl.Before{had(9, 1), had(5, 2), hadNone(0)}, impl.OK},
	} {
		checkBeforesFault(t, c.name, c.list, c.want)
	}
}

// checkBeforesFault asks UndoAll too, which tells a fault of befores behind one of its transaction and ahead of all that it does.
func checkBeforesFault(t *testing.T, name string, list []impl.Before, want int64) {
	t.Helper()
	if got := impl.BeforesFault(list); got != want {
		t.Fatalf("BeforesFault, %s: %d, want %d", name, got, want)
	}
	for _, leaves := range [][]impl.Leaf{nil, {keyed(3, 5, 7)}, fullLeaves()} {
		if got := impl.UndoAll(leaves, 0, list); !reflect.DeepEqual(got, impl.UndoResult{Code: impl.ErrRange}) {
			t.Fatalf("UndoAll of a wrong transaction, %s: %v", name, got)
		}
		got := impl.UndoAll(leaves, 1, list)
		if want != impl.OK && !reflect.DeepEqual(got, impl.UndoResult{Code: want}) || !sameUndo(got, wantedUndo(leaves, 1, list)) {
			t.Fatalf("UndoAll of %d leaves, %s: %v, want the code %d", len(leaves), name, got, want)
		}
	}
}

func TestBeforesFaultOfEveryThree(t *testing.T) {
	odd := oddBefores()
	for _, first := range odd {
		checkBeforesFault(t, "one", []impl.Before{first}, wantedBeforesFault([]impl.Before{first}))
		for _, second := range odd {
			checkBeforesFault(t, "two", []impl.Before{first, second}, wantedBeforesFault([]impl.Before{first, second}))
			for _, third := range odd {
				list := []impl.Before{first, second, third}
				if got, want := impl.BeforesFault(list), wantedBeforesFault(list); got != want {
					t.Fatalf("BeforesFault %v: %d, want %d", list, got, want)
				}
			}
		}
	}
}

func TestValueInAndBeforeOfWrongKeys(t *testing.T) {
	for _, list := range someLeaves() {
		for _, key := range wrongKeys() {
			if got := impl.ValueIn(list, key); got != (impl.IntResult{Code: impl.ErrRange}) {
				t.Fatalf("ValueIn %d in %v: %v", key, list, got)
			}
			if got := impl.BeforeOf(list, key); got != (impl.Before{}) {
				t.Fatalf("BeforeOf %d in %v: %v", key, list, got)
			}
		}
	}
}

// TestSetValueOfWrongNumbers has one wrong number at a time, with the others right, and then with a wrong form as well.
func TestSetValueOfWrongNumbers(t *testing.T) {
	for _, list := range someLeaves() {
		check := func(txn, key int64, has bool, value int64, want int64) {
			t.Helper()
			if got := impl.SetValue(list, txn, key, has, value); !reflect.DeepEqual(got, impl.UndoResult{Code: want}) {
				t.Fatalf("SetValue of %d, %d, %v, %d in %v: %v, want the code %d", txn, key, has, value, list, got, want)
			}
		}
		for _, txn := range wrongTxns() {
			check(txn, 7, true, 1, impl.ErrRange)
			check(txn, 7, false, 0, impl.ErrRange)
			check(txn, 7, false, 1, impl.ErrRange)
		}
		for _, key := range wrongKeys() {
			check(1, key, true, 1, impl.ErrRange)
			check(1, key, false, 0, impl.ErrRange)
			check(1, key, false, 1, impl.ErrRange)
		}
		for _, value := range wrongValues() {
			check(1, 7, true, value, impl.ErrRange)
			check(1, 7, false, value, impl.ErrRange)
		}
		for _, value := range []int64{1, 2, 256, 9998, 9999} {
			check(1, 7, false, value, impl.ErrForm)
			check(999, 0, false, value, impl.ErrForm)
			check(1, 99, false, value, impl.ErrForm)
		}
	}
}

func TestSetValueAtItsBounds(t *testing.T) {
	for _, txn := range []int64{1, 999} {
		for _, key := range []int64{0, 99} {
			for _, now := range []some{{true, 0}, {true, 9999}, {false, 0}} {
				list := []impl.Leaf{keyed(0, 50, 99)}
				got := impl.SetValue(list, txn, key, now.has, now.value)
				if got.Code != impl.OK || !sameUndo(got, wantedSet(list, txn, key, now.has, now.value)) {
					t.Errorf("SetValue of %d, %d, %v: %v", txn, key, now, got)
				}
			}
		}
	}
}

// TestSetValueAsksTheFormAheadOfTheRoom sets into as many leaves as there may be.
func TestSetValueAsksTheFormAheadOfTheRoom(t *testing.T) {
	list := fullLeaves()
	for _, key := range []int64{0, 3, 6, 41, 47, 49, 81, 99} {
		if got := impl.SetValue(list, 1, key, true, 1); !reflect.DeepEqual(got, impl.UndoResult{Code: impl.ErrMany}) {
			t.Errorf("SetValue of %d: %v, want ErrMany", key, got)
		}
		if got := impl.SetValue(list, 1, key, true, 10000); !reflect.DeepEqual(got, impl.UndoResult{Code: impl.ErrRange}) {
			t.Errorf("SetValue of %d, the value out of bounds: %v, want ErrRange", key, got)
		}
		if got := impl.SetValue(list, 1, key, false, 1); !reflect.DeepEqual(got, impl.UndoResult{Code: impl.ErrForm}) {
			t.Errorf("SetValue of %d to have none, with a value: %v, want ErrForm", key, got)
		}
		want := impl.UndoResult{Leaves: list, Recs: []impl.Rec{change(impl.LogSet, 1, key, some{}, some{})}}
		if got := impl.SetValue(list, 1, key, false, 0); !sameUndo(got, want) {
			t.Errorf("SetValue of %d to have none: %v", key, got)
		}
	}
	for _, key := range []int64{1, 2, 5, 39, 40, 46, 95} {
		if got := impl.SetValue(list, 1, key, true, 77); got.Code != impl.OK || len(got.Leaves) != impl.MaxLeaves || impl.ValueIn(got.Leaves, key).Value != 77 {
			t.Errorf("SetValue of %d where there is room: %v", key, got)
		}
	}
}

func TestUndoAllOfWrongTransactions(t *testing.T) {
	for _, list := range someLeaves() {
		for _, befores := range [][]impl.Before{nil, {had(7, 1)}, {hadNone(100)}, {{Key: 7, Value: 1}}, manyBefores(40), manyBefores(41)} {
			for _, txn := range wrongTxns() {
				if got := impl.UndoAll(list, txn, befores); !reflect.DeepEqual(got, impl.UndoResult{Code: impl.ErrRange}) {
					t.Fatalf("UndoAll of %d, %d befores: %v", txn, len(befores), got)
				}
			}
		}
	}
}

// TestUndoAllWithACodeOnTheWay has befores of which one has no room, at each place among others that have.
func TestUndoAllWithACodeOnTheWay(t *testing.T) {
	list := fullLeaves()
	right := []impl.Before{had(1, 5), hadNone(5), had(39, 9), hadNone(3), had(95, 0), hadNone(40)}
	if got := impl.UndoAll(list, 1, right); got.Code != impl.OK || len(got.Recs) != len(right) {
		t.Fatalf("UndoAll of befores that have room: %v", got)
	}
	for _, key := range []int64{0, 3, 41, 99} {
		for at := range len(right) + 1 {
			befores := append(append(append([]impl.Before{}, right[:at]...), had(key, 7)), right[at:]...)
			if got := impl.UndoAll(list, 1, befores); !reflect.DeepEqual(got, impl.UndoResult{Code: impl.ErrMany}) {
				t.Errorf("UndoAll with no room for %d at %d: %v, want ErrMany alone", key, at, got)
			}
		}
	}
	one := impl.DropRow(list, 7).Leaves
	if got := impl.UndoAll(one, 1, []impl.Before{had(0, 1)}); got.Code != impl.OK || len(got.Leaves) != impl.MaxLeaves {
		t.Errorf("UndoAll up to the last leaf there may be: %v", got)
	}
	if got := impl.UndoAll(one, 1, []impl.Before{had(99, 1), had(0, 1)}); !reflect.DeepEqual(got, impl.UndoResult{Code: impl.ErrMany}) {
		t.Errorf("UndoAll of two that have room each, but not both: %v, want ErrMany alone", got)
	}
}

// manyRows has rows of the keys from 0 on; there are no more than 100 keys, so that behind these they begin anew.
func manyRows(count int64) []impl.Row {
	var rows []impl.Row
	for i := range count {
		rows = append(rows, row(i%100, i))
	}
	return rows
}

// rowsCase is a list of rows, and the code that MapOfRows has for it.
type rowsCase struct {
	name string
	rows []impl.Row
	want int64
}

func rowsCases() []rowsCase {
	odd := impl.Row{Key: 50, Value: 1, Ghost: true}
	return []rowsCase{
		{"241", manyRows(241), impl.ErrMany},
		{"far too many", make([]impl.Row, 100000), impl.ErrMany},
		{"241, the first one out of bounds", append([]impl.Row{row(-1, 0)}, manyRows(240)...), impl.ErrMany},
		{"240, which cannot rise", manyRows(240), impl.ErrForm},
		{"240, the last one out of bounds", append(manyRows(239), row(0, 10000)), impl.ErrRange},
		{"101, which cannot rise", manyRows(101), impl.ErrForm},
		{"100, all that can rise", manyRows(100), impl.OK},
		{"a key below", []impl.Row{row(-1, 0)}, impl.ErrRange},
		{"a key above", []impl.Row{row(100, 0)}, impl.ErrRange},
		{"a key far below", []impl.Row{row(math.MinInt64, 0)}, impl.ErrRange},
		{"a key far above", []impl.Row{row(math.MaxInt64, 0)}, impl.ErrRange},
		{"a value below", []impl.Row{row(0, -1)}, impl.ErrRange},
		{"a value above", []impl.Row{row(0, 10000)}, impl.ErrRange},
		{"a ghost with a value", []impl.Row{odd}, impl.ErrForm},
		{"a ghost with a value out of bounds", []impl.Row{{Key: 50, Value: 10000, Ghost: true}}, impl.ErrRange},
		{"a ghost with a value ahead of a wrong key", []impl.Row{odd, row(100, 0)}, impl.ErrForm},
		{"a wrong key ahead of a ghost with a value", []impl.Row{row(100, 0), odd}, impl.ErrRange},
		{"a key twice", []impl.Row{row(5, 1), row(5, 2)}, impl.ErrForm},
		{"a key twice, one of a ghost", []impl.Row{ghost(5), row(5, 2)}, impl.ErrForm},
		{"a key twice, the other one of a ghost", []impl.Row{row(5, 2), ghost(5)}, impl.ErrForm},
		{"a key twice, both of ghosts", []impl.Row{ghost(5), ghost(5)}, impl.ErrForm},
		{"a key that falls", []impl.Row{row(5, 1), row(4, 2)}, impl.ErrForm},
		{"a ghost's key that falls", []impl.Row{row(5, 1), ghost(4), row(6, 1)}, impl.ErrForm},
		{"a key that falls at the end", append(manyRows(99), row(50, 0)), impl.ErrForm},
		{"keys that fall, then a wrong value", []impl.Row{row(5, 1), row(4, 2), row(6, 10000)}, impl.ErrRange},
		{"a key twice, then a wrong key", []impl.Row{row(5, 1), row(5, 1), row(-1, 0)}, impl.ErrRange},
		{"keys alike, and a wrong key at the end of 240", append(make([]impl.Row, 239), row(100, 0)), impl.ErrRange},
	}
}

func TestMapOfRowsFaults(t *testing.T) {
	for _, c := range rowsCases() {
		got := impl.MapOfRows(c.rows)
		if got.Code != c.want || c.want != impl.OK && !reflect.DeepEqual(got, impl.RowsResult{Code: c.want}) {
			t.Errorf("MapOfRows, %s: %v, want the code %d", c.name, got, c.want)
		}
	}
}
