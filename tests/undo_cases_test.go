package tests

import (
	"reflect"
	"slices"
	"testing"

	"loop.example/g00270/impl"
)

func checkUndo(t *testing.T, name string, got, want impl.UndoResult) {
	t.Helper()
	if !sameUndo(got, want) {
		t.Errorf("%s: %v, want %v", name, got, want)
	}
}

func TestValueInAndBeforeOfCases(t *testing.T) {
	list := []impl.Leaf{leaf(row(0, 5), ghost(2)), leaf(row(4, 0), row(6, 9999)), leaf(ghost(8)), leaf(row(99, 1))}
	none := impl.IntResult{Code: impl.ErrNone}
	for _, c := range []struct {
		key    int64
		value  impl.IntResult
		before impl.Before
	}{
		{0, impl.IntResult{Value: 5}, had(0, 5)},
		{1, none, hadNone(1)},
		{2, none, hadNone(2)},
		{3, none, hadNone(3)},
		{4, impl.IntResult{}, had(4, 0)},
		{6, impl.IntResult{Value: 9999}, had(6, 9999)},
		{8, none, hadNone(8)},
		{98, none, hadNone(98)},
		{99, impl.IntResult{Value: 1}, had(99, 1)},
		{-1, impl.IntResult{Code: impl.ErrRange}, impl.Before{}},
		{100, impl.IntResult{Code: impl.ErrRange}, impl.Before{}},
	} {
		if got := impl.ValueIn(list, c.key); got != c.value {
			t.Errorf("ValueIn %d: %v, want %v", c.key, got, c.value)
		}
		if got := impl.BeforeOf(list, c.key); got != c.before {
			t.Errorf("BeforeOf %d: %v, want %v", c.key, got, c.before)
		}
	}
}

func TestMapOfRowsCases(t *testing.T) {
	for _, c := range []struct{ rows, want []impl.Row }{
		{nil, nil},
		{[]impl.Row{}, nil},
		{[]impl.Row{ghost(0)}, nil},
		{[]impl.Row{ghost(0), ghost(99)}, nil},
		{[]impl.Row{row(0, 0)}, []impl.Row{row(0, 0)}},
		{[]impl.Row{row(0, 9999), row(99, 0)}, []impl.Row{row(0, 9999), row(99, 0)}},
		{[]impl.Row{ghost(1), row(2, 2), row(3, 3)}, []impl.Row{row(2, 2), row(3, 3)}},
		{[]impl.Row{row(1, 1), ghost(2), row(3, 3)}, []impl.Row{row(1, 1), row(3, 3)}},
		{[]impl.Row{row(1, 1), row(2, 2), ghost(3)}, []impl.Row{row(1, 1), row(2, 2)}},
		{[]impl.Row{ghost(1), ghost(2), row(3, 0), ghost(4)}, []impl.Row{row(3, 0)}},
		{manyRows(100), manyRows(100)},
	} {
		if got := impl.MapOfRows(c.rows); got.Code != impl.OK || !slices.Equal(got.Rows, c.want) {
			t.Errorf("MapOfRows of %v: %v, want %v", c.rows, got, c.want)
		}
	}
}

func TestSetValueWithAValue(t *testing.T) {
	list := []impl.Leaf{leaf(row(10, 1), ghost(20), row(30, 0), row(40, 4)), leaf(row(50, 5))}
	for _, c := range []struct {
		name       string
		list       []impl.Leaf
		key, value int64
		old        some
		want       []impl.Leaf
	}{
		{"the first of all", nil, 7, 70, some{}, []impl.Leaf{leaf(row(7, 70))}},
		{"the first of all, 0", []impl.Leaf{}, 0, 0, some{}, []impl.Leaf{leaf(row(0, 0))}},
		{"a new key", list, 60, 6, some{}, []impl.Leaf{list[0], leaf(row(50, 5), row(60, 6))}},
		{"a new key that cuts a leaf", list, 25, 9999, some{}, []impl.Leaf{leaf(row(10, 1), ghost(20)), leaf(row(25, 9999), row(30, 0), row(40, 4)), list[1]}},
		{"a key that is there", list, 10, 9, some{true, 1}, []impl.Leaf{leaf(row(10, 9), ghost(20), row(30, 0), row(40, 4)), list[1]}},
		{"a key that is there, with what it has", list, 50, 5, some{true, 5}, list},
		{"a key that is there with 0", list, 30, 3, some{true, 0}, []impl.Leaf{leaf(row(10, 1), ghost(20), row(30, 3), row(40, 4)), list[1]}},
		{"a key that is there, then 0", list, 40, 0, some{true, 4}, []impl.Leaf{leaf(row(10, 1), ghost(20), row(30, 0), row(40, 0)), list[1]}},
		{"a ghost's key", list, 20, 2, some{}, []impl.Leaf{leaf(row(10, 1), row(20, 2), row(30, 0), row(40, 4)), list[1]}},
		{"a ghost's key, 0", list, 20, 0, some{}, []impl.Leaf{leaf(row(10, 1), row(20, 0), row(30, 0), row(40, 4)), list[1]}},
	} {
		rec := change(impl.LogSet, 3, c.key, c.old, some{true, c.value})
		checkUndo(t, c.name, impl.SetValue(c.list, 3, c.key, true, c.value), impl.UndoResult{Leaves: c.want, Recs: []impl.Rec{rec}})
	}
}

func TestSetValueWithoutAValue(t *testing.T) {
	list := []impl.Leaf{leaf(row(10, 1), ghost(20), row(30, 0)), leaf(row(50, 5))}
	for _, c := range []struct {
		name string
		list []impl.Leaf
		key  int64
		old  some
		want []impl.Leaf
	}{
		{"no leaves", nil, 7, some{}, nil},
		{"no leaves, not nil", []impl.Leaf{}, 0, some{}, nil},
		{"a key that is there", list, 10, some{true, 1}, []impl.Leaf{leaf(ghost(10), ghost(20), row(30, 0)), list[1]}},
		{"a key that is there with 0", list, 30, some{true, 0}, []impl.Leaf{leaf(row(10, 1), ghost(20), ghost(30)), list[1]}},
		{"a key that is alone in its leaf", list, 50, some{true, 5}, []impl.Leaf{list[0], leaf(ghost(50))}},
		{"a ghost's key", list, 20, some{}, list},
		{"a key ahead of all", list, 0, some{}, list},
		{"a key between others of a leaf", list, 25, some{}, list},
		{"a key between leaves", list, 49, some{}, list},
		{"a key behind all", list, 99, some{}, list},
	} {
		rec := change(impl.LogSet, 3, c.key, c.old, some{})
		checkUndo(t, c.name, impl.SetValue(c.list, 3, c.key, false, 0), impl.UndoResult{Leaves: c.want, Recs: []impl.Rec{rec}})
	}
}

func TestUndoAllCases(t *testing.T) {
	list := []impl.Leaf{leaf(row(10, 1), ghost(20), row(30, 0))}
	back := func(key int64, old, now some) impl.Rec {
		return change(impl.LogBack, 8, key, old, now)
	}
	for _, c := range []struct {
		name    string
		list    []impl.Leaf
		befores []impl.Before
		want    []impl.Leaf
		recs    []impl.Rec
	}{
		{"nothing in no leaves", nil, nil, nil, nil},
		{"nothing", list, nil, list, nil},
		{"nothing, not nil", list, []impl.Before{}, list, nil},
		{"one that had a value", list, []impl.Before{had(10, 9)}, []impl.Leaf{leaf(row(10, 9), ghost(20), row(30, 0))}, []impl.Rec{back(10, some{true, 1}, some{true, 9})}},
		{"one that had none", list, []impl.Before{hadNone(10)}, []impl.Leaf{leaf(ghost(10), ghost(20), row(30, 0))}, []impl.Rec{back(10, some{true, 1}, some{})}},
		{"a ghost that had a value", list, []impl.Before{had(20, 2)}, []impl.Leaf{leaf(row(10, 1), row(20, 2), row(30, 0))}, []impl.Rec{back(20, some{}, some{true, 2})}},
		{"a ghost that had none", list, []impl.Before{hadNone(20)}, list, []impl.Rec{back(20, some{}, some{})}},
		{"a key that is not there, and had a value", list, []impl.Before{had(40, 0)}, []impl.Leaf{leaf(row(10, 1), ghost(20), row(30, 0), row(40, 0))}, []impl.Rec{back(40, some{}, some{true, 0})}},
		{"a key that is not there, and had none", list, []impl.Before{hadNone(40)}, list, []impl.Rec{back(40, some{}, some{})}},
		{"no leaves, and one that had none", nil, []impl.Before{hadNone(0)}, nil, []impl.Rec{back(0, some{}, some{})}},
		{
			"two keys, the last one first", list, []impl.Before{hadNone(30), had(20, 7)},
			[]impl.Leaf{leaf(row(10, 1), row(20, 7), ghost(30))},
			[]impl.Rec{back(20, some{}, some{true, 7}), back(30, some{true, 0}, some{})},
		},
		{
			"one key, the first one of it in the end", list, []impl.Before{had(10, 5), had(10, 6), hadNone(10)},
			[]impl.Leaf{leaf(row(10, 5), ghost(20), row(30, 0))},
			[]impl.Rec{back(10, some{true, 1}, some{}), back(10, some{}, some{true, 6}), back(10, some{true, 6}, some{true, 5})},
		},
		{
			"one key about another one", list, []impl.Before{hadNone(40), had(30, 3), had(40, 4)},
			[]impl.Leaf{leaf(row(10, 1), ghost(20), row(30, 3), ghost(40))},
			[]impl.Rec{back(40, some{}, some{true, 4}), back(30, some{true, 0}, some{true, 3}), back(40, some{true, 4}, some{})},
		},
		{
			"a leaf that is cut by the last one", []impl.Leaf{keyed(10, 20, 30, 40)}, []impl.Before{had(35, 3), had(15, 1)},
			[]impl.Leaf{leaf(row(10, 10), row(15, 1)), leaf(row(20, 20), row(30, 30), row(35, 3), row(40, 40))},
			[]impl.Rec{back(15, some{}, some{true, 1}), back(35, some{}, some{true, 3})},
		},
	} {
		checkUndo(t, c.name, impl.UndoAll(c.list, 8, c.befores), impl.UndoResult{Leaves: c.want, Recs: c.recs})
	}
}

// TestUndoAllOfAsManyAsThereMayBe has a key of its own for each, and then one key for all.
func TestUndoAllOfAsManyAsThereMayBe(t *testing.T) {
	var others, alike []impl.Before
	for i := range int64(impl.MaxUndo) {
		others = append(others, had(i*2, i+100))
		alike = append(alike, had(50, i+100))
	}
	list := cutLeaves(0, 1, 25, 4)
	apart, together := impl.UndoAll(list, 999, others), impl.UndoAll(list, 999, alike)
	checkUndo(t, "keys of their own", apart, wantedUndo(list, 999, others))
	checkUndo(t, "one key", together, wantedUndo(list, 999, alike))
	for i, r := range apart.Recs {
		if want := others[impl.MaxUndo-1-i]; r.Kind != impl.LogBack || r.Txn != 999 || r.Key != want.Key || r.New != want.Value {
			t.Errorf("record %d: %v, want one of %v", i, r, want)
		}
	}
	if got := impl.ValueIn(together.Leaves, 50); got != (impl.IntResult{Value: 100}) || len(together.Recs) != impl.MaxUndo {
		t.Errorf("one key %d times: %v, %d records", impl.MaxUndo, got, len(together.Recs))
	}
}

func TestOneRecordAlone(t *testing.T) {
	for _, list := range someLeaves() {
		for key := int64(0); key <= impl.MaxKey; key++ {
			for _, now := range []some{{true, 0}, {true, 9999}, {false, 0}} {
				got := impl.SetValue(list, 5, key, now.has, now.value)
				if got.Code == impl.OK && (len(got.Recs) != 1 || got.Recs[0].Kind != impl.LogSet || impl.RecFault(got.Recs[0]) != impl.OK) {
					t.Fatalf("SetValue of %d, %v in %v: the records %v", key, now, list, got.Recs)
				}
				if got.Code != impl.OK && !reflect.DeepEqual(got, impl.UndoResult{Code: got.Code}) {
					t.Fatalf("SetValue of %d, %v in %v: more than a code: %v", key, now, list, got)
				}
			}
		}
	}
}
