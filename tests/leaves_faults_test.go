package tests

import (
	"math"
	"reflect"
	"testing"

	"loop.example/g00270/impl"
)

// wrongKeys has numbers that are no keys; some are one, if bits of them are lost.
func wrongKeys() []int64 {
	return []int64{math.MinInt64, -256, -1, impl.MaxKey + 1, 128, 256, 1 << 32, math.MaxInt64}
}

// checkLeavesFault asks the others too, with arguments that have faults of their own, which come behind the leaves'.
func checkLeavesFault(t *testing.T, name string, list []impl.Leaf, want int64) {
	t.Helper()
	if got := impl.LeavesFault(list); got != want {
		t.Fatalf("LeavesFault, %s: %d, want %d", name, got, want)
	}
	if want == impl.OK {
		return
	}
	none, noRows, noLeaves := impl.IntResult{Code: want}, impl.RowsResult{Code: want}, impl.LeavesResult{Code: want}
	for _, key := range []int64{0, 50, impl.MaxKey, -1, impl.MaxKey + 1, math.MinInt64, math.MaxInt64} {
		if got := impl.LeafFor(list, key); got != none {
			t.Fatalf("LeafFor %d, %s: %v, want the code %d", key, name, got, want)
		}
		for _, got := range []impl.RowsResult{impl.FindRow(list, key), impl.ScanRows(list, key, 99), impl.ScanRows(list, 0, key), impl.RowsOf(list)} {
			if !reflect.DeepEqual(got, noRows) {
				t.Fatalf("rows for %d, %s: %v, want the code %d", key, name, got, want)
			}
		}
		for _, got := range []impl.LeavesResult{impl.DropRow(list, key), impl.PutRow(list, row(key, 0)), impl.PutRow(list, row(key, -1)), impl.PutRow(list, impl.Row{Key: key, Value: 1, Ghost: true})} {
			if !reflect.DeepEqual(got, noLeaves) {
				t.Fatalf("leaves for %d, %s: %v, want the code %d", key, name, got, want)
			}
		}
	}
	checkPackFault(t, name, list, want)
	checkUndoFault(t, name, list, want)
	checkIndexOfFault(t, name, list, want)
}

func TestLeavesFault(t *testing.T) {
	empty, five, odd := leaf(), keyed(60, 61, 62, 63, 64), leaf(impl.Row{Key: 60, Value: 1, Ghost: true})
	most := cutLeaves(0, 1, impl.MaxLeaves, 1)
	for _, c := range []struct {
		name string
		list []impl.Leaf
		want int64
	}{
		{"no leaves", nil, impl.OK},
		{"no leaves, not nil", []impl.Leaf{}, impl.OK},
		{"as many as there may be", most, impl.OK},
		{"one too many", cutLeaves(0, 1, impl.MaxLeaves+1, 1), impl.ErrMany},
		{"too many, all empty", make([]impl.Leaf, impl.MaxLeaves+1), impl.ErrMany},
		{"far too many", make([]impl.Leaf, 100000), impl.ErrMany},
		{"too many, the first of them wrong", append([]impl.Leaf{keyed(-1)}, most...), impl.ErrMany},
		{"an empty leaf", []impl.Leaf{empty}, impl.ErrForm},
		{"an empty leaf, not nil", []impl.Leaf{{Rows: []impl.Row{}}}, impl.ErrForm},
		{"an empty leaf first", []impl.Leaf{empty, keyed(1)}, impl.ErrForm},
		{"an empty leaf between", []impl.Leaf{keyed(1), empty, keyed(2)}, impl.ErrForm},
		{"an empty leaf last", []impl.Leaf{keyed(1), keyed(2), empty}, impl.ErrForm},
		{"as many empty leaves as there may be", make([]impl.Leaf, impl.MaxLeaves), impl.ErrForm},
		{"an empty leaf ahead of a leaf with too many", []impl.Leaf{empty, five}, impl.ErrForm},
		{"an empty leaf ahead of a wrong key", []impl.Leaf{empty, keyed(100)}, impl.ErrForm},
		{"five rows", []impl.Leaf{five}, impl.ErrMany},
		{"five rows in the last leaf", []impl.Leaf{keyed(1), five}, impl.ErrMany},
		{"five rows, the first of them wrong", []impl.Leaf{keyed(-1, 0, 1, 2, 3)}, impl.ErrMany},
		{"five rows, not above the leaf ahead", []impl.Leaf{keyed(99), five}, impl.ErrMany},
		{"five rows ahead of an empty leaf", []impl.Leaf{five, empty}, impl.ErrMany},
		{"a key below its bound in the first leaf", []impl.Leaf{keyed(-1)}, impl.ErrRange},
		{"a key above its bound", []impl.Leaf{keyed(1), keyed(100)}, impl.ErrRange},
		{"a key far below its bound behind another leaf", []impl.Leaf{keyed(1), keyed(math.MinInt64)}, impl.ErrRange},
		{"a value below its bound", []impl.Leaf{leaf(row(1, -1))}, impl.ErrRange},
		{"a value above its bound", []impl.Leaf{keyed(1), leaf(row(2, 2), row(3, 10000))}, impl.ErrRange},
		{"a wrong value in a leaf that is not above", []impl.Leaf{keyed(9), leaf(row(9, 10000))}, impl.ErrRange},
		{"a wrong value ahead of an empty leaf", []impl.Leaf{leaf(row(1, -1)), empty}, impl.ErrRange},
		{"a ghost with a value", []impl.Leaf{odd}, impl.ErrForm},
		{"a ghost with a value ahead of five rows", []impl.Leaf{odd, keyed(65, 66, 67, 68, 69)}, impl.ErrForm},
		{"keys alike in a leaf", []impl.Leaf{keyed(5, 5)}, impl.ErrForm},
		{"keys that fall in a leaf", []impl.Leaf{keyed(1), keyed(3, 2)}, impl.ErrForm},
		{"keys alike in two leaves", []impl.Leaf{keyed(5), keyed(5)}, impl.ErrForm},
		{"keys that fall from leaf to leaf", []impl.Leaf{keyed(5), keyed(4)}, impl.ErrForm},
		{"a first key between those of the leaf ahead", []impl.Leaf{keyed(1, 5), keyed(3)}, impl.ErrForm},
		{"a first key that is the last one of the leaf ahead", []impl.Leaf{keyed(1, 5), keyed(5, 6)}, impl.ErrForm},
		{"a last leaf with the keys of the first", []impl.Leaf{keyed(1), keyed(5), keyed(1)}, impl.ErrForm},
		{"a leaf that is not above, ahead of five rows", []impl.Leaf{keyed(5), keyed(5), five}, impl.ErrForm},
		{"a leaf that is not above, ahead of a wrong key", []impl.Leaf{keyed(5), keyed(4), keyed(100)}, impl.ErrForm},
		{"leaves that touch", []impl.Leaf{keyed(0, 1), keyed(2), keyed(3, 4, 5, 6), keyed(7)}, impl.OK},
	} {
		checkLeavesFault(t, c.name, c.list, c.want)
	}
}

// wantedPageFault and wantedLeavesFault tell the codes by the document alone.
func wantedPageFault(rows []impl.Row) int64 {
	if len(rows) > 4 {
		return impl.ErrMany
	}
	last := int64(-1)
	for _, r := range rows {
		switch {
		case r.Key < 0 || r.Key > 99 || r.Value < 0 || r.Value > 9999:
			return impl.ErrRange
		case r.Ghost && r.Value != 0 || r.Key <= last:
			return impl.ErrForm
		}
		last = r.Key
	}
	return impl.OK
}

func wantedLeavesFault(list []impl.Leaf) int64 {
	if len(list) > 60 {
		return impl.ErrMany
	}
	last := int64(math.MinInt64)
	for _, l := range list {
		if len(l.Rows) == 0 {
			return impl.ErrForm
		}
		if code := wantedPageFault(l.Rows); code != impl.OK {
			return code
		}
		if l.Rows[0].Key <= last {
			return impl.ErrForm
		}
		last = l.Rows[len(l.Rows)-1].Key
	}
	return impl.OK
}

// TestLeavesFaultOfEveryThree has each of some leaves, right and wrong ones, ahead of each other one and a third.
func TestLeavesFaultOfEveryThree(t *testing.T) {
	each := []impl.Leaf{
		leaf(), keyed(0), keyed(1, 2), keyed(2, 3), leaf(ghost(3)), keyed(98, 99), keyed(1, 97, 98, 99),
		keyed(4, 3), keyed(-1), keyed(99, 100), leaf(row(1, 10000)), leaf(impl.Row{Key: 2, Value: 2, Ghost: true}), keyed(1, 2, 3, 4, 5),
	}
	for _, first := range each {
		checkLeavesFault(t, "one leaf", []impl.Leaf{first}, wantedLeavesFault([]impl.Leaf{first}))
		for _, second := range each {
			for _, third := range each {
				for _, list := range [][]impl.Leaf{{first, second}, {first, second, third}} {
					checkLeavesFault(t, "some leaves", list, wantedLeavesFault(list))
				}
			}
		}
	}
}

func TestWrongKeysForLeaves(t *testing.T) {
	none, noRows, noLeaves := impl.IntResult{Code: impl.ErrRange}, impl.RowsResult{Code: impl.ErrRange}, impl.LeavesResult{Code: impl.ErrRange}
	for _, list := range someLeaves() {
		for _, key := range wrongKeys() {
			if got := impl.LeafFor(list, key); got != none {
				t.Fatalf("LeafFor %d in %v: %v", key, list, got)
			}
			if got := impl.FindRow(list, key); !reflect.DeepEqual(got, noRows) {
				t.Fatalf("FindRow %d in %v: %v", key, list, got)
			}
			if got := impl.DropRow(list, key); !reflect.DeepEqual(got, noLeaves) {
				t.Fatalf("DropRow %d in %v: %v", key, list, got)
			}
			for _, good := range []int64{0, 50, impl.MaxKey} {
				low, high, both := impl.ScanRows(list, key, good), impl.ScanRows(list, good, key), impl.ScanRows(list, key, key)
				if !reflect.DeepEqual(low, noRows) || !reflect.DeepEqual(high, noRows) || !reflect.DeepEqual(both, noRows) {
					t.Fatalf("ScanRows with %d and %d in %v: %v, %v, %v", key, good, list, low, high, both)
				}
			}
		}
	}
}

func TestPutRowOfWrongRows(t *testing.T) {
	for _, list := range someLeaves() {
		for _, c := range []struct {
			put  impl.Row
			want int64
		}{
			{row(-1, 0), impl.ErrRange},
			{row(100, 0), impl.ErrRange},
			{row(math.MinInt64, 0), impl.ErrRange},
			{row(math.MaxInt64, 0), impl.ErrRange},
			{row(0, -1), impl.ErrRange},
			{row(3, 10000), impl.ErrRange},
			{row(99, math.MaxInt64), impl.ErrRange},
			{impl.Row{Key: 100, Value: 1, Ghost: true}, impl.ErrRange},
			{impl.Row{Key: 3, Value: 10000, Ghost: true}, impl.ErrRange},
			{impl.Row{Key: 3, Value: 1, Ghost: true}, impl.ErrForm},
			{impl.Row{Key: 0, Value: 9999, Ghost: true}, impl.ErrForm},
		} {
			if got := impl.PutRow(list, c.put); !reflect.DeepEqual(got, impl.LeavesResult{Code: c.want}) {
				t.Fatalf("PutRow of %v in %v: %v, want the code %d", c.put, list, got, c.want)
			}
		}
	}
}

func TestNoRowHasTheKey(t *testing.T) {
	for _, list := range someLeaves() {
		for key := int64(0); key <= impl.MaxKey; key++ {
			if code, _ := wantedDrop(list, key); code == impl.OK {
				continue
			}
			found, dropped := impl.FindRow(list, key), impl.DropRow(list, key)
			if !reflect.DeepEqual(found, impl.RowsResult{Code: impl.ErrNone}) || !reflect.DeepEqual(dropped, impl.LeavesResult{Code: impl.ErrNone}) {
				t.Fatalf("%d is not in %v: %v, %v", key, list, found, dropped)
			}
		}
	}
	if got := impl.LeafFor(nil, 0); got != (impl.IntResult{Code: impl.ErrNone}) {
		t.Errorf("LeafFor without leaves: %v", got)
	}
}
