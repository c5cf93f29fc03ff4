package tests

import (
	"reflect"
	"slices"
	"testing"

	"loop.example/g00270/impl"
)

// roomyLeaves has leaves with room behind them and behind the rows of each, so that an append to the argument would be seen there.
func roomyLeaves(list []impl.Leaf) []impl.Leaf {
	var whole []impl.Leaf
	for _, l := range list {
		whole = append(whole, impl.Leaf{Rows: roomyRows(l.Rows)})
	}
	whole = append(whole, leaf(row(87, 87)), leaf(row(88, 88)), leaf(row(89, 89)))
	return whole[:len(list)]
}

// oddLeaves has leaves with and without faults.
func oddLeaves() [][]impl.Leaf {
	lists := someLeaves()
	for _, rows := range oddRows() {
		lists = append(lists, []impl.Leaf{leaf(rows...)}, []impl.Leaf{keyed(1, 2, 3, 4), leaf(rows...)})
	}
	return append(lists, make([]impl.Leaf, impl.MaxLeaves), make([]impl.Leaf, 100000))
}

// wholeLeaves has all that is within reach of leaves, their room and that of their rows with it.
func wholeLeaves(list []impl.Leaf) [][]impl.Row {
	var all [][]impl.Row
	for _, l := range list[:cap(list)] {
		all = append(all, l.Rows[:cap(l.Rows)])
	}
	return all
}

func keptRows(lists [][]impl.Row) [][]impl.Row {
	var kept [][]impl.Row
	for _, rows := range lists {
		kept = append(kept, slices.Clone(rows))
	}
	return kept
}

func sameRowLists(a, b [][]impl.Row) bool {
	return slices.EqualFunc(a, b, slices.Equal[[]impl.Row])
}

func leavesCalls(list []impl.Leaf) []impl.LeavesResult {
	var answers []impl.LeavesResult
	for _, key := range []int64{-1, 0, 1, 2, 3, 5, 20, 35, 47, 50, 99, 100} {
		answers = append(answers, impl.DropRow(list, key))
		for _, r := range []impl.Row{row(key, 1), ghost(key), row(key, 10000)} {
			answers = append(answers, impl.PutRow(list, r))
		}
	}
	return append(answers, packCalls(list)...)
}

func rowsCalls(list []impl.Leaf) []impl.RowsResult {
	answers := []impl.RowsResult{impl.RowsOf(list)}
	for _, key := range []int64{-1, 0, 1, 20, 50, 99, 100} {
		answers = append(answers, impl.FindRow(list, key), impl.ScanRows(list, key, 99), impl.ScanRows(list, 0, key))
	}
	return answers
}

func intCalls(list []impl.Leaf) []impl.IntResult {
	answers := []impl.IntResult{{Code: impl.LeavesFault(list)}, impl.FillOf(list)}
	for _, key := range []int64{-1, 0, 1, 20, 50, 99, 100} {
		answers = append(answers, impl.LeafFor(list, key))
	}
	return answers
}

func TestLeavesStayAndAnswersRepeat(t *testing.T) {
	for _, odd := range oddLeaves() {
		list := roomyLeaves(odd)
		before := keptRows(wholeLeaves(list))
		leaves, rows, ints := leavesCalls(list), rowsCalls(list), intCalls(list)
		if !sameRowLists(wholeLeaves(list), before) {
			t.Fatalf("%d leaves are changed", len(list))
		}
		if !reflect.DeepEqual(leavesCalls(list), leaves) || !reflect.DeepEqual(rowsCalls(list), rows) || !slices.Equal(intCalls(list), ints) {
			t.Fatalf("another answer at the second call, of %d leaves", len(list))
		}
		for _, got := range leaves {
			if got.Code != impl.OK && !reflect.DeepEqual(got, impl.LeavesResult{Code: got.Code}) {
				t.Fatalf("leaves beside the code %d", got.Code)
			}
		}
		for _, got := range rows {
			if got.Code != impl.OK && !reflect.DeepEqual(got, impl.RowsResult{Code: got.Code}) {
				t.Fatalf("rows beside the code %d", got.Code)
			}
		}
		for _, got := range ints {
			if got.Code != impl.OK && got.Value != 0 {
				t.Fatalf("a number beside the code %d", got.Code)
			}
		}
	}
}

// TestLeavesOfOneAnswerShareNothing turns the rows of one leaf of an answer after the other, and all that is within their reach.
func TestLeavesOfOneAnswerShareNothing(t *testing.T) {
	for _, list := range someLeaves() {
		for _, got := range leavesCalls(list) {
			kept := cloneOf(got.Leaves)
			for i, l := range got.Leaves {
				clear(l.Rows[:cap(l.Rows)])
				kept[i].Rows = make([]impl.Row, len(l.Rows))
				if !sameLeaves(got.Leaves, kept) {
					t.Fatalf("leaf %d of an answer for %v shares memory with another one", i, list)
				}
			}
		}
	}
}

func TestLeavesAreNewMemory(t *testing.T) {
	for _, some := range someLeaves() {
		list := roomyLeaves(some)
		before := keptRows(wholeLeaves(list))
		answers, others := leavesCalls(list), leavesCalls(list)
		var want [][]impl.Leaf
		for i, got := range answers {
			want = append(want, cloneOf(got.Leaves))
			for _, rows := range wholeLeaves(got.Leaves) {
				clear(rows)
			}
			clear(got.Leaves[:cap(got.Leaves)])
			if !sameRowLists(wholeLeaves(list), before) {
				t.Fatalf("%v turned with answer %d", some, i)
			}
		}
		for _, rows := range wholeLeaves(list) {
			clear(rows)
		}
		clear(list[:cap(list)])
		for i, got := range others {
			if !sameLeaves(got.Leaves, want[i]) {
				t.Fatalf("an answer turned with another one or with its leaves: %v, want %v", got.Leaves, want[i])
			}
		}
	}
}

func TestRowsOfLeavesAreNewMemory(t *testing.T) {
	for _, some := range someLeaves() {
		list := roomyLeaves(some)
		before := keptRows(wholeLeaves(list))
		answers, others := rowsCalls(list), rowsCalls(list)
		var want [][]impl.Row
		for i, got := range answers {
			want = append(want, slices.Clone(got.Rows))
			clear(got.Rows[:cap(got.Rows)])
			if !sameRowLists(wholeLeaves(list), before) {
				t.Fatalf("%v turned with answer %d", some, i)
			}
		}
		for _, rows := range wholeLeaves(list) {
			clear(rows)
		}
		for i, got := range others {
			if !slices.Equal(got.Rows, want[i]) {
				t.Fatalf("an answer turned with another one or with its leaves: %v, want %v", got.Rows, want[i])
			}
		}
	}
}
