package tests

import (
	"slices"
	"testing"

	"loop.example/g00270/impl"
)

// sizesOf has every row of count sizes, each one of 1 to 4.
func sizesOf(count int) [][]int {
	all := [][]int{nil}
	for range count {
		var longer [][]int
		for _, sizes := range all {
			for size := 1; size <= impl.LeafRows; size++ {
				longer = append(longer, append(slices.Clone(sizes), size))
			}
		}
		all = longer
	}
	return all
}

// sizedLeaves has leaves of every size behind leaves of every size, one to four of them, besides someLeaves.
func sizedLeaves() [][]impl.Leaf {
	lists := someLeaves()
	for count := 1; count <= 4; count++ {
		for i, sizes := range sizesOf(count) {
			lists = append(lists, cutLeaves(int64(i%20), 1+int64(i%5), count, sizes...))
		}
	}
	return lists
}

// cutsOf has the rows in leaves in every way there is.
func cutsOf(rows []impl.Row) [][]impl.Leaf {
	if len(rows) == 0 {
		return [][]impl.Leaf{nil}
	}
	var lists [][]impl.Leaf
	for size := 1; size <= min(impl.LeafRows, len(rows)); size++ {
		for _, rest := range cutsOf(rows[size:]) {
			lists = append(lists, append([]impl.Leaf{leaf(rows[:size]...)}, rest...))
		}
	}
	return lists
}

// wantedMerge, wantedEven and wantedPack tell by the document alone what leaves without faults become.
func wantedMerge(list []impl.Leaf, at int64) (int64, []impl.Leaf) {
	if at < 0 || at > int64(len(list))-2 {
		return impl.ErrRange, nil
	}
	var leaves []impl.Leaf
	for i, l := range cloneOf(list) {
		if int64(i) == at+1 {
			leaves[at].Rows = append(leaves[at].Rows, l.Rows...)
		} else {
			leaves = append(leaves, l)
		}
	}
	if len(leaves[at].Rows) > 4 {
		return impl.ErrMany, nil
	}
	return impl.OK, leaves
}

func wantedEven(list []impl.Leaf, at int64) (int64, []impl.Leaf) {
	if at < 0 || at > int64(len(list))-2 {
		return impl.ErrRange, nil
	}
	leaves := cloneOf(list)
	first, second := leaves[at].Rows, leaves[at+1].Rows
	for len(first) > len(second)+1 {
		second = append([]impl.Row{first[len(first)-1]}, second...)
		first = first[:len(first)-1]
	}
	for len(first) < len(second) {
		first = append(first, second[0])
		second = second[1:]
	}
	leaves[at].Rows, leaves[at+1].Rows = first, second
	return impl.OK, leaves
}

func wantedPack(list []impl.Leaf) []impl.Leaf {
	var leaves []impl.Leaf
	for i, r := range rowsIn(list) {
		if i%4 == 0 {
			leaves = append(leaves, leaf())
		}
		leaves[i/4].Rows = append(leaves[i/4].Rows, r)
	}
	return leaves
}

// wantedFill counts up from 0, so it must have leaves.
func wantedFill(list []impl.Leaf) int64 {
	fill := int64(0)
	for 4*len(list)*int(fill+1) <= 100*len(rowsIn(list)) {
		fill++
	}
	return fill
}

func checkHeld(t *testing.T, name string, list []impl.Leaf, got impl.LeavesResult) {
	t.Helper()
	if got.Code != impl.OK {
		return
	}
	before, after := impl.RowsOf(list), impl.RowsOf(got.Leaves)
	if after.Code != impl.OK || !slices.Equal(before.Rows, after.Rows) || !slices.Equal(rowsIn(list), after.Rows) {
		t.Fatalf("%s: %v held %v, %v holds %v", name, list, before, got.Leaves, after)
	}
	if !impl.SameRows(list, got.Leaves) || !impl.SameRows(got.Leaves, list) {
		t.Fatalf("%s: %v and %v are not the same rows", name, list, got.Leaves)
	}
}

func TestMergeLeavesAtEveryPlace(t *testing.T) {
	for _, list := range sizedLeaves() {
		for at := int64(-2); at <= int64(len(list))+2; at++ {
			code, want := wantedMerge(list, at)
			got := impl.MergeLeaves(list, at)
			checkLeaves(t, "MergeLeaves", list, got, code, want)
			checkHeld(t, "MergeLeaves", list, got)
		}
	}
}

func TestEvenLeavesAtEveryPlace(t *testing.T) {
	for _, list := range sizedLeaves() {
		for at := int64(-2); at <= int64(len(list))+2; at++ {
			code, want := wantedEven(list, at)
			got := impl.EvenLeaves(list, at)
			checkLeaves(t, "EvenLeaves", list, got, code, want)
			checkHeld(t, "EvenLeaves", list, got)
		}
	}
}

func TestPackLeavesOfEverySize(t *testing.T) {
	for _, list := range sizedLeaves() {
		want := wantedPack(list)
		got := impl.PackLeaves(list)
		checkLeaves(t, "PackLeaves", list, got, impl.OK, want)
		checkHeld(t, "PackLeaves", list, got)
		checkLeaves(t, "PackLeaves once more", list, impl.PackLeaves(got.Leaves), impl.OK, want)
	}
}

func TestPackLeavesOfEveryNumberOfRows(t *testing.T) {
	for count := 1; count <= impl.MaxKey+1; count++ {
		size := 1 + (count-1)/impl.MaxLeaves
		sizes := slices.Repeat([]int{size}, count/size)
		if left := count % size; left > 0 {
			sizes = append(sizes, left)
		}
		list := cutLeaves(0, 1, len(sizes), sizes...)
		got := impl.PackLeaves(list)
		checkLeaves(t, "PackLeaves", list, got, impl.OK, wantedPack(list))
		last := got.Leaves[len(got.Leaves)-1]
		if len(got.Leaves) != (count+3)/4 || len(last.Rows) != 1+(count-1)%4 {
			t.Fatalf("%d rows: %d leaves, %d rows in the last one", count, len(got.Leaves), len(last.Rows))
		}
	}
}

func TestMergeLeavesUpToAFullOne(t *testing.T) {
	list := []impl.Leaf{keyed(1), keyed(2, 3, 4), keyed(5, 6), keyed(7, 8), keyed(9, 10, 11), keyed(12), leaf(ghost(13))}
	for _, c := range []struct {
		at   int64
		code int64
		want []impl.Leaf
	}{
		{0, impl.OK, []impl.Leaf{keyed(1, 2, 3, 4), keyed(5, 6), keyed(7, 8), keyed(9, 10, 11), keyed(12), leaf(ghost(13))}},
		{1, impl.ErrMany, nil},
		{2, impl.OK, []impl.Leaf{keyed(1), keyed(2, 3, 4), keyed(5, 6, 7, 8), keyed(9, 10, 11), keyed(12), leaf(ghost(13))}},
		{3, impl.ErrMany, nil},
		{4, impl.OK, []impl.Leaf{keyed(1), keyed(2, 3, 4), keyed(5, 6), keyed(7, 8), keyed(9, 10, 11, 12), leaf(ghost(13))}},
		{5, impl.OK, []impl.Leaf{keyed(1), keyed(2, 3, 4), keyed(5, 6), keyed(7, 8), keyed(9, 10, 11), leaf(row(12, 12), ghost(13))}},
		{6, impl.ErrRange, nil},
		{7, impl.ErrRange, nil},
	} {
		checkLeaves(t, "MergeLeaves", list, impl.MergeLeaves(list, c.at), c.code, c.want)
	}
}

func TestEvenLeavesHalves(t *testing.T) {
	for _, c := range []struct {
		list []impl.Leaf
		at   int64
		want []impl.Leaf
	}{
		{[]impl.Leaf{keyed(1), keyed(2)}, 0, []impl.Leaf{keyed(1), keyed(2)}},
		{[]impl.Leaf{keyed(1), keyed(2, 3)}, 0, []impl.Leaf{keyed(1, 2), keyed(3)}},
		{[]impl.Leaf{keyed(1, 2), keyed(3)}, 0, []impl.Leaf{keyed(1, 2), keyed(3)}},
		{[]impl.Leaf{keyed(1, 2, 3), keyed(4)}, 0, []impl.Leaf{keyed(1, 2), keyed(3, 4)}},
		{[]impl.Leaf{keyed(1), keyed(2, 3, 4, 5)}, 0, []impl.Leaf{keyed(1, 2, 3), keyed(4, 5)}},
		{[]impl.Leaf{keyed(1, 2, 3, 4), keyed(5)}, 0, []impl.Leaf{keyed(1, 2, 3), keyed(4, 5)}},
		{[]impl.Leaf{keyed(1, 2), keyed(3, 4, 5, 6)}, 0, []impl.Leaf{keyed(1, 2, 3), keyed(4, 5, 6)}},
		{[]impl.Leaf{keyed(1, 2, 3), keyed(4, 5, 6, 7)}, 0, []impl.Leaf{keyed(1, 2, 3, 4), keyed(5, 6, 7)}},
		{[]impl.Leaf{keyed(1, 2, 3, 4), keyed(5, 6, 7, 8)}, 0, []impl.Leaf{keyed(1, 2, 3, 4), keyed(5, 6, 7, 8)}},
		{[]impl.Leaf{keyed(0), keyed(1), keyed(2, 3, 4), keyed(99)}, 1, []impl.Leaf{keyed(0), keyed(1, 2), keyed(3, 4), keyed(99)}},
		{[]impl.Leaf{keyed(0), keyed(1), keyed(2, 3, 4), leaf(ghost(99))}, 2, []impl.Leaf{keyed(0), keyed(1), keyed(2, 3), leaf(row(4, 4), ghost(99))}},
	} {
		checkLeaves(t, "EvenLeaves", c.list, impl.EvenLeaves(c.list, c.at), impl.OK, c.want)
	}
}

func TestPackLeavesLast(t *testing.T) {
	for _, c := range []struct{ list, want []impl.Leaf }{
		{nil, nil},
		{[]impl.Leaf{}, nil},
		{[]impl.Leaf{keyed(7)}, []impl.Leaf{keyed(7)}},
		{[]impl.Leaf{keyed(1), keyed(2), keyed(3), keyed(4)}, []impl.Leaf{keyed(1, 2, 3, 4)}},
		{[]impl.Leaf{keyed(1), keyed(2), keyed(3), keyed(4), keyed(5)}, []impl.Leaf{keyed(1, 2, 3, 4), keyed(5)}},
		{[]impl.Leaf{keyed(1, 2, 3), keyed(4, 5, 6), leaf(ghost(7))}, []impl.Leaf{keyed(1, 2, 3, 4), leaf(row(5, 5), row(6, 6), ghost(7))}},
		{[]impl.Leaf{keyed(1, 2, 3, 4), keyed(5, 6)}, []impl.Leaf{keyed(1, 2, 3, 4), keyed(5, 6)}},
		{[]impl.Leaf{keyed(1, 2), keyed(3, 4, 5, 6), keyed(9, 99)}, []impl.Leaf{keyed(1, 2, 3, 4), keyed(5, 6, 9, 99)}},
		{[]impl.Leaf{keyed(1, 2, 3, 4), keyed(5, 6, 7, 8)}, []impl.Leaf{keyed(1, 2, 3, 4), keyed(5, 6, 7, 8)}},
	} {
		checkLeaves(t, "PackLeaves", c.list, impl.PackLeaves(c.list), impl.OK, c.want)
	}
}

func TestFillOfEverySize(t *testing.T) {
	for _, list := range sizedLeaves() {
		want := impl.IntResult{Code: impl.ErrNone}
		if len(list) > 0 {
			want = impl.IntResult{Value: wantedFill(list)}
		}
		if got := impl.FillOf(list); got != want {
			t.Fatalf("FillOf %v: %v, want %v", list, got, want)
		}
	}
}

func TestFillOfIsRoundedDown(t *testing.T) {
	for _, c := range []struct {
		count int
		sizes []int
		want  int64
	}{
		{1, []int{1}, 25}, {1, []int{3}, 75}, {1, []int{4}, 100},
		{2, []int{1, 2}, 37}, {2, []int{4, 3}, 87},
		{3, []int{1, 1, 2}, 33}, {3, []int{2, 2, 1}, 41}, {3, []int{2, 3, 3}, 66}, {3, []int{4, 4, 3}, 91},
		{25, []int{4}, 100}, {60, []int{1}, 25}, {60, []int{2, 2, 1}, 41},
		{25, []int{4, 4, 4, 4, 3}, 95}, {26, []int{4, 4, 4, 4, 3, 4, 4, 4, 4, 4, 4, 4, 3}, 96},
	} {
		list := cutLeaves(0, 1, c.count, c.sizes...)
		if got := impl.FillOf(list); got != (impl.IntResult{Value: c.want}) {
			t.Errorf("FillOf %d leaves of %v: %v, want %d", c.count, c.sizes, got, c.want)
		}
	}
}

func TestSameRowsInOtherLeaves(t *testing.T) {
	for count := 0; count <= 7; count++ {
		cuts := cutsOf(rowsIn(cutLeaves(10, 5, count, 1)))
		for _, a := range cuts {
			for _, b := range cuts {
				if !impl.SameRows(a, b) {
					t.Fatalf("SameRows of %v and %v", a, b)
				}
			}
		}
	}
	if !impl.SameRows(nil, []impl.Leaf{}) || !impl.SameRows([]impl.Leaf{}, nil) {
		t.Error("no leaves are not the same rows as no leaves")
	}
}

func TestSameRowsOfOthers(t *testing.T) {
	rows := []impl.Row{row(10, 1), ghost(20), row(30, 0), row(40, 9999), row(50, 5)}
	others := [][]impl.Row{nil, rows[:1], rows[:4], rows[1:], slices.Concat(rows[:2], rows[3:])}
	for i, r := range rows {
		for _, turned := range []impl.Row{row(r.Key, 77), row(r.Key+1, r.Value), row(r.Key-1, r.Value)} {
			others = append(others, slices.Replace(slices.Clone(rows), i, i+1, turned))
		}
	}
	others = append(others,
		slices.Replace(slices.Clone(rows), 1, 2, row(20, 0)),
		slices.Replace(slices.Clone(rows), 2, 3, ghost(30)),
		slices.Insert(slices.Clone(rows), 0, ghost(0)),
		slices.Insert(slices.Clone(rows), 5, row(99, 5)),
	)
	for _, a := range cutsOf(rows) {
		for _, other := range others {
			for _, b := range cutsOf(other) {
				if impl.LeavesFault(b) != impl.OK || impl.SameRows(a, b) || impl.SameRows(b, a) {
					t.Fatalf("SameRows of %v and %v", a, b)
				}
			}
		}
	}
}

func TestSameRowsOfEveryTwo(t *testing.T) {
	lists := someLeaves()
	for _, a := range lists {
		for _, b := range lists {
			if got := impl.SameRows(a, b); got != slices.Equal(rowsIn(a), rowsIn(b)) {
				t.Fatalf("SameRows of %v and %v: %v", a, b, got)
			}
		}
	}
}

// TestLeavesTurnedOverAndOver puts leaves otherwise by a plain rule, step behind step, and looks for their rows.
func TestLeavesTurnedOverAndOver(t *testing.T) {
	state := uint32(11)
	next := func(bound uint32) int64 {
		state = state*1664525 + 1013904223
		return int64((state >> 8) % bound)
	}
	for _, start := range [][]impl.Leaf{fullLeaves(), cutLeaves(0, 1, 60, 2, 2, 1), cutLeaves(0, 2, 20, 2, 3)} {
		list := start
		for range 400 {
			at := next(uint32(len(list)))
			got := impl.EvenLeaves(list, at)
			code, want := wantedEven(list, at)
			if next(3) == 0 {
				got = impl.MergeLeaves(list, at)
				code, want = wantedMerge(list, at)
			}
			checkLeaves(t, "turned", list, got, code, want)
			if code == impl.OK {
				list = got.Leaves
			}
			if !slices.Equal(impl.RowsOf(list).Rows, rowsIn(start)) {
				t.Fatalf("%v became %v", start, list)
			}
		}
		checkLeaves(t, "packed", list, impl.PackLeaves(list), impl.OK, wantedPack(start))
	}
}
