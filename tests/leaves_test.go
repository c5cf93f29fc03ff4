package tests

import (
	"reflect"
	"slices"
	"testing"

	"loop.example/g00270/impl"
)

func leaf(rows ...impl.Row) impl.Leaf {
	return impl.Leaf{Rows: rows}
}

// keyed has a leaf of rows that have their Key as Value.
func keyed(keys ...int64) impl.Leaf {
	var rows []impl.Row
	for _, key := range keys {
		rows = append(rows, row(key, key))
	}
	return leaf(rows...)
}

// cutLeaves has the keys first, first+step and so on, each third one a ghost, in leaves of the sizes, which are taken in turns.
func cutLeaves(first, step int64, count int, sizes ...int) []impl.Leaf {
	var leaves []impl.Leaf
	key := first
	for i := range count {
		var rows []impl.Row
		for range sizes[i%len(sizes)] {
			r := row(key, key*101)
			if key%3 == 1 {
				r = ghost(key)
			}
			rows = append(rows, r)
			key += step
		}
		leaves = append(leaves, leaf(rows...))
	}
	return leaves
}

// fullLeaves has as many leaves as there may be; the first one, one between and the last one have as many rows as they may, with keys left between them.
func fullLeaves() []impl.Leaf {
	leaves := []impl.Leaf{leaf(row(1, 9999), ghost(2), row(4, 0), row(5, 1))}
	leaves = append(leaves, cutLeaves(7, 1, 28, 1)...)
	leaves = append(leaves, keyed(40, 42, 44, 46))
	leaves = append(leaves, cutLeaves(50, 1, 29, 1)...)
	return append(leaves, keyed(80, 85, 90, 95))
}

// someLeaves has leaves without faults: none, one, several, as many as there may be, of every size.
func someLeaves() [][]impl.Leaf {
	lists := [][]impl.Leaf{
		nil,
		{},
		{keyed(0)},
		{keyed(99)},
		{leaf(ghost(50))},
		{keyed(0, 99)},
		{keyed(0), keyed(99)},
		{keyed(10, 20), keyed(50, 60)},
		{keyed(10, 20, 30, 40), keyed(50, 60, 70, 80)},
		{keyed(0, 1, 2, 3), keyed(96, 97, 98, 99)},
		{keyed(0, 1, 2), keyed(50), keyed(97, 98, 99)},
		cutLeaves(0, 1, 25, 4),
		cutLeaves(0, 1, 60, 1),
		cutLeaves(40, 1, 60, 1),
		cutLeaves(0, 1, 60, 2, 2, 1),
		cutLeaves(0, 2, 20, 2, 3),
		cutLeaves(1, 3, 12, 4, 1, 3),
		cutLeaves(5, 7, 4, 4, 2),
		fullLeaves(),
	}
	for size := 1; size <= impl.LeafRows; size++ {
		lists = append(lists, cutLeaves(20, 20, 1, size), cutLeaves(11, 13, 1, size), cutLeaves(2, 4, 24/size, size))
	}
	return lists
}

func cloneOf(list []impl.Leaf) []impl.Leaf {
	var leaves []impl.Leaf
	for _, l := range list {
		leaves = append(leaves, impl.Leaf{Rows: slices.Clone(l.Rows)})
	}
	return leaves
}

func sameLeaves(a, b []impl.Leaf) bool {
	return slices.EqualFunc(a, b, func(one, other impl.Leaf) bool { return slices.Equal(one.Rows, other.Rows) })
}

func rowsIn(list []impl.Leaf) []impl.Row {
	var rows []impl.Row
	for _, l := range list {
		rows = append(rows, l.Rows...)
	}
	return rows
}

func isKeyOf(key int64) func(impl.Row) bool {
	return func(r impl.Row) bool { return r.Key == key }
}

// wantedLeaf tells by the document alone in which leaf a key stands.
func wantedLeaf(list []impl.Leaf, key int64) int {
	for i := len(list) - 1; i > 0; i-- {
		if list[i].Rows[0].Key <= key {
			return i
		}
	}
	return 0
}

func wantedPut(list []impl.Leaf, r impl.Row) (int64, []impl.Leaf) {
	leaves := cloneOf(list)
	for _, l := range leaves {
		if i := slices.IndexFunc(l.Rows, isKeyOf(r.Key)); i >= 0 {
			l.Rows[i] = r
			return impl.OK, leaves
		}
	}
	if len(leaves) == 0 {
		return impl.OK, []impl.Leaf{leaf(r)}
	}
	at := wantedLeaf(leaves, r.Key)
	rows := append(leaves[at].Rows, r)
	slices.SortFunc(rows, func(a, b impl.Row) int { return int(a.Key - b.Key) })
	if len(rows) <= 4 {
		leaves[at].Rows = rows
		return impl.OK, leaves
	}
	if len(leaves) >= 60 {
		return impl.ErrMany, nil
	}
	return impl.OK, slices.Concat(leaves[:at], []impl.Leaf{leaf(rows[:2]...), leaf(rows[2:]...)}, leaves[at+1:])
}

func wantedDrop(list []impl.Leaf, key int64) (int64, []impl.Leaf) {
	code := int64(impl.ErrNone)
	var leaves []impl.Leaf
	for _, l := range list {
		var rows []impl.Row
		for _, r := range l.Rows {
			if r.Key == key {
				code = impl.OK
			} else {
				rows = append(rows, r)
			}
		}
		if len(rows) > 0 {
			leaves = append(leaves, leaf(rows...))
		}
	}
	if code != impl.OK {
		return code, nil
	}
	return code, leaves
}

func checkLeaves(t *testing.T, name string, list []impl.Leaf, got impl.LeavesResult, code int64, want []impl.Leaf) {
	t.Helper()
	if got.Code != code || !sameLeaves(got.Leaves, want) {
		t.Fatalf("%s in %v: %v, want %d %v", name, list, got, code, want)
	}
	if fault := impl.LeavesFault(got.Leaves); fault != impl.OK {
		t.Fatalf("%s in %v: %v has the fault %d", name, list, got.Leaves, fault)
	}
}

// foundIn has what is found of each key.
func foundIn(list []impl.Leaf) []impl.RowsResult {
	var found []impl.RowsResult
	for key := int64(0); key <= impl.MaxKey; key++ {
		found = append(found, impl.FindRow(list, key))
	}
	return found
}

// checkOthers holds what is found of every other key against what was found ahead.
func checkOthers(t *testing.T, name string, key int64, before []impl.RowsResult, after []impl.Leaf) {
	t.Helper()
	for other, is := range foundIn(after) {
		was := before[other]
		if int64(other) != key && (was.Code != is.Code || !slices.Equal(was.Rows, is.Rows)) {
			t.Fatalf("%s of %d: of %d there was %v, there is %v", name, key, other, was, is)
		}
	}
}

func TestSomeLeavesHaveNoFault(t *testing.T) {
	for _, list := range someLeaves() {
		if code := impl.LeavesFault(list); code != impl.OK {
			t.Errorf("%v: %d", list, code)
		}
	}
}

func TestLeafForEveryKey(t *testing.T) {
	for _, list := range someLeaves() {
		for key := int64(0); key <= impl.MaxKey; key++ {
			want := impl.IntResult{Value: int64(wantedLeaf(list, key))}
			if len(list) == 0 {
				want = impl.IntResult{Code: impl.ErrNone}
			}
			if got := impl.LeafFor(list, key); got != want {
				t.Fatalf("LeafFor %d in %v: %v, want %v", key, list, got, want)
			}
		}
	}
}

func TestLeafForAboutTheFirstKeys(t *testing.T) {
	list := []impl.Leaf{keyed(10, 20), keyed(50), keyed(51, 60), keyed(99)}
	for _, c := range []struct{ key, want int64 }{
		{0, 0}, {9, 0}, {10, 0}, {11, 0}, {20, 0}, {21, 0}, {49, 0}, {50, 1}, {51, 2}, {60, 2}, {61, 2}, {98, 2}, {99, 3},
	} {
		if got := impl.LeafFor(list, c.key); got != (impl.IntResult{Value: c.want}) {
			t.Errorf("LeafFor %d: %v, want %d", c.key, got, c.want)
		}
	}
}

func TestFindRowAtEveryKey(t *testing.T) {
	for _, list := range someLeaves() {
		for key := int64(0); key <= impl.MaxKey; key++ {
			want := impl.RowsResult{Code: impl.ErrNone}
			for _, r := range rowsIn(list) {
				if r.Key == key {
					want = impl.RowsResult{Rows: []impl.Row{r}}
				}
			}
			if got := impl.FindRow(list, key); got.Code != want.Code || !slices.Equal(got.Rows, want.Rows) {
				t.Fatalf("FindRow %d in %v: %v, want %v", key, list, got, want)
			}
		}
	}
}

func TestPutRowAtEveryKey(t *testing.T) {
	for _, list := range someLeaves() {
		before := foundIn(list)
		for key := int64(0); key <= impl.MaxKey; key++ {
			for _, r := range []impl.Row{row(key, 0), row(key, impl.MaxValue), ghost(key)} {
				code, want := wantedPut(list, r)
				got := impl.PutRow(list, r)
				checkLeaves(t, "PutRow", list, got, code, want)
				if code != impl.OK {
					continue
				}
				if found := impl.FindRow(got.Leaves, key); found.Code != impl.OK || !slices.Equal(found.Rows, []impl.Row{r}) {
					t.Fatalf("%v is put into %v, and %v is found", r, list, found)
				}
				checkOthers(t, "PutRow", key, before, got.Leaves)
			}
		}
	}
}

func TestPutRowCutsALeaf(t *testing.T) {
	ten := keyed(10, 20, 30, 40)
	for _, c := range []struct {
		list []impl.Leaf
		key  int64
		want []impl.Leaf
	}{
		{nil, 7, []impl.Leaf{keyed(7)}},
		{[]impl.Leaf{}, 0, []impl.Leaf{keyed(0)}},
		{[]impl.Leaf{keyed(7)}, 0, []impl.Leaf{keyed(0, 7)}},
		{[]impl.Leaf{keyed(7)}, 99, []impl.Leaf{keyed(7, 99)}},
		{[]impl.Leaf{keyed(10, 20, 40)}, 30, []impl.Leaf{ten}},
		{[]impl.Leaf{ten}, 5, []impl.Leaf{keyed(5, 10), keyed(20, 30, 40)}},
		{[]impl.Leaf{ten}, 15, []impl.Leaf{keyed(10, 15), keyed(20, 30, 40)}},
		{[]impl.Leaf{ten}, 25, []impl.Leaf{keyed(10, 20), keyed(25, 30, 40)}},
		{[]impl.Leaf{ten}, 35, []impl.Leaf{keyed(10, 20), keyed(30, 35, 40)}},
		{[]impl.Leaf{ten}, 45, []impl.Leaf{keyed(10, 20), keyed(30, 40, 45)}},
		{[]impl.Leaf{ten, keyed(50)}, 45, []impl.Leaf{keyed(10, 20), keyed(30, 40, 45), keyed(50)}},
		{[]impl.Leaf{ten, keyed(50)}, 55, []impl.Leaf{ten, keyed(50, 55)}},
		{[]impl.Leaf{ten, keyed(50)}, 5, []impl.Leaf{keyed(5, 10), keyed(20, 30, 40), keyed(50)}},
		{[]impl.Leaf{keyed(1), ten}, 0, []impl.Leaf{keyed(0, 1), ten}},
		{[]impl.Leaf{keyed(1), ten}, 9, []impl.Leaf{keyed(1, 9), ten}},
		{[]impl.Leaf{keyed(1), ten}, 11, []impl.Leaf{keyed(1), keyed(10, 11), keyed(20, 30, 40)}},
		{[]impl.Leaf{keyed(1), ten, keyed(99)}, 98, []impl.Leaf{keyed(1), keyed(10, 20), keyed(30, 40, 98), keyed(99)}},
	} {
		checkLeaves(t, "PutRow", c.list, impl.PutRow(c.list, row(c.key, c.key)), impl.OK, c.want)
	}
}

func TestPutRowTakesThePlaceOfItsKey(t *testing.T) {
	list := []impl.Leaf{leaf(row(1, 1), ghost(2), row(3, 3), row(4, 4)), leaf(row(9, 9))}
	for _, c := range []struct {
		put  impl.Row
		want []impl.Leaf
	}{
		{row(1, 7), []impl.Leaf{leaf(row(1, 7), ghost(2), row(3, 3), row(4, 4)), leaf(row(9, 9))}},
		{row(2, 7), []impl.Leaf{leaf(row(1, 1), row(2, 7), row(3, 3), row(4, 4)), leaf(row(9, 9))}},
		{ghost(4), []impl.Leaf{leaf(row(1, 1), ghost(2), row(3, 3), ghost(4)), leaf(row(9, 9))}},
		{ghost(9), []impl.Leaf{leaf(row(1, 1), ghost(2), row(3, 3), row(4, 4)), leaf(ghost(9))}},
		{row(3, 3), list},
	} {
		checkLeaves(t, "PutRow", list, impl.PutRow(list, c.put), impl.OK, c.want)
	}
}

func TestPutRowIntoAsManyLeavesAsThereMayBe(t *testing.T) {
	list := fullLeaves()
	if len(list) != impl.MaxLeaves || impl.LeavesFault(list) != impl.OK {
		t.Fatalf("%d leaves, the fault %d", len(list), impl.LeavesFault(list))
	}
	for _, key := range []int64{0, 3, 6, 41, 47, 49, 81, 99} {
		if got := impl.PutRow(list, row(key, 1)); !reflect.DeepEqual(got, impl.LeavesResult{Code: impl.ErrMany}) {
			t.Errorf("PutRow of %d: %v, want ErrMany", key, got)
		}
	}
	for _, key := range []int64{1, 5, 7, 36, 40, 46, 79, 95} {
		if got := impl.PutRow(list, row(key, 77)); got.Code != impl.OK || len(got.Leaves) != impl.MaxLeaves {
			t.Errorf("PutRow of %d: %v", key, got)
		}
	}
	if got := impl.PutRow(list, row(39, 39)); got.Code != impl.OK || len(got.Leaves[28].Rows) != 2 {
		t.Errorf("PutRow into a leaf that has room: %v", got)
	}
	one := impl.DropRow(list, 7).Leaves
	if got := impl.PutRow(one, row(0, 0)); got.Code != impl.OK || len(got.Leaves) != impl.MaxLeaves {
		t.Errorf("PutRow up to the last leaf there may be: %v", got)
	}
}

func TestDropRowAtEveryKey(t *testing.T) {
	for _, list := range someLeaves() {
		before := foundIn(list)
		for key := int64(0); key <= impl.MaxKey; key++ {
			code, want := wantedDrop(list, key)
			got := impl.DropRow(list, key)
			checkLeaves(t, "DropRow", list, got, code, want)
			if code != impl.OK {
				continue
			}
			if found := impl.FindRow(got.Leaves, key); !reflect.DeepEqual(found, impl.RowsResult{Code: impl.ErrNone}) {
				t.Fatalf("%d is dropped from %v, and %v is found", key, list, found)
			}
			checkOthers(t, "DropRow", key, before, got.Leaves)
		}
	}
}

func TestDropRowTakesALeafAway(t *testing.T) {
	for _, c := range []struct {
		list []impl.Leaf
		key  int64
		want []impl.Leaf
	}{
		{[]impl.Leaf{keyed(7)}, 7, nil},
		{[]impl.Leaf{leaf(ghost(0))}, 0, nil},
		{[]impl.Leaf{keyed(1), keyed(5), keyed(9)}, 1, []impl.Leaf{keyed(5), keyed(9)}},
		{[]impl.Leaf{keyed(1), keyed(5), keyed(9)}, 5, []impl.Leaf{keyed(1), keyed(9)}},
		{[]impl.Leaf{keyed(1), keyed(5), keyed(9)}, 9, []impl.Leaf{keyed(1), keyed(5)}},
		{[]impl.Leaf{keyed(1, 2, 3, 4)}, 1, []impl.Leaf{keyed(2, 3, 4)}},
		{[]impl.Leaf{keyed(1, 2, 3, 4)}, 3, []impl.Leaf{keyed(1, 2, 4)}},
		{[]impl.Leaf{keyed(1, 2), keyed(3, 4)}, 4, []impl.Leaf{keyed(1, 2), keyed(3)}},
	} {
		checkLeaves(t, "DropRow", c.list, impl.DropRow(c.list, c.key), impl.OK, c.want)
	}
}

func TestRowsOf(t *testing.T) {
	for _, list := range someLeaves() {
		if got := impl.RowsOf(list); got.Code != impl.OK || !slices.Equal(got.Rows, rowsIn(list)) {
			t.Fatalf("RowsOf %v: %v", list, got)
		}
	}
}

func TestScanRowsFromEveryKeyToEveryKey(t *testing.T) {
	for _, list := range someLeaves() {
		for low := int64(0); low <= impl.MaxKey; low++ {
			for high := int64(0); high <= impl.MaxKey; high++ {
				var want []impl.Row
				for _, r := range rowsIn(list) {
					if r.Key >= low && r.Key <= high && !r.Ghost {
						want = append(want, r)
					}
				}
				if got := impl.ScanRows(list, low, high); got.Code != impl.OK || !slices.Equal(got.Rows, want) {
					t.Fatalf("ScanRows %d to %d of %v: %v, want %v", low, high, list, got, want)
				}
			}
		}
	}
}

func TestScanRowsEnds(t *testing.T) {
	list := []impl.Leaf{leaf(row(0, 5), ghost(2)), leaf(row(4, 0), row(6, 9999)), leaf(ghost(8)), leaf(row(99, 1))}
	for _, c := range []struct {
		low, high int64
		want      []impl.Row
	}{
		{0, 99, []impl.Row{row(0, 5), row(4, 0), row(6, 9999), row(99, 1)}},
		{0, 0, []impl.Row{row(0, 5)}},
		{1, 98, []impl.Row{row(4, 0), row(6, 9999)}},
		{2, 2, nil},
		{4, 4, []impl.Row{row(4, 0)}},
		{5, 6, []impl.Row{row(6, 9999)}},
		{7, 98, nil},
		{99, 99, []impl.Row{row(99, 1)}},
		{99, 0, nil},
		{6, 4, nil},
		{5, 4, nil},
	} {
		if got := impl.ScanRows(list, c.low, c.high); got.Code != impl.OK || !slices.Equal(got.Rows, c.want) {
			t.Errorf("ScanRows %d to %d: %v, want %v", c.low, c.high, got, c.want)
		}
	}
}

// TestManyPutsAndDrops follows leaves through puts and drops of a plain rule's making, from none on and from as many as there may be.
func TestManyPutsAndDrops(t *testing.T) {
	state := uint32(7)
	next := func(bound uint32) int64 {
		state = state*1664525 + 1013904223
		return int64((state >> 8) % bound)
	}
	for _, start := range [][]impl.Leaf{nil, fullLeaves(), cutLeaves(0, 1, 60, 2, 2, 1)} {
		list := start
		for range 4000 {
			key := next(100)
			r := row(key, next(10000))
			if next(4) == 0 {
				r = ghost(key)
			}
			name, got := "PutRow", impl.PutRow(list, r)
			code, want := wantedPut(list, r)
			if next(5) < 2 {
				name, got = "DropRow", impl.DropRow(list, key)
				code, want = wantedDrop(list, key)
			}
			checkLeaves(t, name, list, got, code, want)
			if code == impl.OK {
				list = got.Leaves
			}
		}
	}
}

func TestAllKeysComeAndGo(t *testing.T) {
	for _, step := range []int64{1, 99, 37, 63} {
		var list []impl.Leaf
		for i := range int64(100) {
			key := (i*step + 50) % 100
			put := impl.PutRow(list, row(key, i))
			if put.Code != impl.OK || int64(len(rowsIn(put.Leaves))) != i+1 {
				t.Fatalf("PutRow of %d as number %d: %v", key, i, put)
			}
			list = put.Leaves
		}
		for i := range int64(100) {
			key := (i*step + 25) % 100
			drop := impl.DropRow(list, key)
			if drop.Code != impl.OK || int64(len(rowsIn(drop.Leaves))) != 99-i {
				t.Fatalf("DropRow of %d as number %d: %v", key, i, drop)
			}
			list = drop.Leaves
		}
		if len(list) != 0 {
			t.Fatalf("all are dropped, and there is %v", list)
		}
	}
}
