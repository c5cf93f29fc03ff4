package tests

import (
	"math"
	"reflect"
	"slices"
	"testing"

	"loop.example/g00270/impl"
)

// roomyBefores has befores with room behind them, so that an append to the argument would be seen there.
func roomyBefores(list []impl.Before) []impl.Before {
	whole := append(slices.Clone(list), had(87, 87), hadNone(88), had(89, 89))
	return whole[:len(list)]
}

func someBefores() [][]impl.Before {
	return [][]impl.Before{
		nil, {}, {had(0, 1)}, {hadNone(50)}, {had(5, 1), hadNone(5), had(5, 3)}, {hadNone(1), had(2, 9), hadNone(99), had(47, 1)},
		manyBefores(40), manyBefores(41), make([]impl.Before, 40), make([]impl.Before, 100000),
		{had(-1, 0)}, {had(5, 10000)}, {{Key: 5, Value: 5}}, {had(1, 1), hadNone(100)},
	}
}

// setCalls and undoCalls have all that is told of leaves in which something is set or taken back.
func setCalls(list []impl.Leaf) []impl.UndoResult {
	var answers []impl.UndoResult
	for _, txn := range []int64{0, 1, 999, 1000} {
		for _, key := range []int64{-1, 0, 1, 2, 3, 20, 47, 50, 99, 100} {
			for _, now := range []some{{true, 7}, {false, 0}, {false, 7}, {true, 10000}, {true, math.MinInt64}} {
				answers = append(answers, impl.SetValue(list, txn, key, now.has, now.value))
			}
		}
	}
	return answers
}

func undoCalls(list []impl.Leaf, befores []impl.Before) []impl.UndoResult {
	var answers []impl.UndoResult
	for _, txn := range []int64{0, 1, 999, math.MaxInt64} {
		answers = append(answers, impl.UndoAll(list, txn, befores))
	}
	return answers
}

func valueCalls(list []impl.Leaf) ([]impl.IntResult, []impl.Before) {
	var values []impl.IntResult
	var befores []impl.Before
	for _, key := range []int64{math.MinInt64, -1, 0, 1, 2, 20, 50, 99, 100, math.MaxInt64} {
		values = append(values, impl.ValueIn(list, key))
		befores = append(befores, impl.BeforeOf(list, key))
	}
	return values, befores
}

func checkCodesAreAlone(t *testing.T, answers []impl.UndoResult) {
	t.Helper()
	for _, got := range answers {
		if got.Code != impl.OK && !reflect.DeepEqual(got, impl.UndoResult{Code: got.Code}) {
			t.Fatalf("leaves or records beside the code %d", got.Code)
		}
	}
}

func TestLeavesStayBehindWhatIsSet(t *testing.T) {
	for _, odd := range oddLeaves() {
		list := roomyLeaves(odd)
		before := keptRows(wholeLeaves(list))
		sets := setCalls(list)
		values, befores := valueCalls(list)
		if !sameRowLists(wholeLeaves(list), before) {
			t.Fatalf("%d leaves are changed", len(list))
		}
		moreValues, moreBefores := valueCalls(list)
		if !reflect.DeepEqual(setCalls(list), sets) || !slices.Equal(moreValues, values) || !slices.Equal(moreBefores, befores) {
			t.Fatalf("another answer at the second call, of %d leaves", len(list))
		}
		checkCodesAreAlone(t, sets)
		for _, value := range values {
			if value.Code != impl.OK && value.Value != 0 {
				t.Fatalf("a value beside the code %d", value.Code)
			}
		}
	}
}

func checkTakenBackStays(t *testing.T, odd []impl.Leaf, some []impl.Before) {
	t.Helper()
	list, befores := roomyLeaves(odd), roomyBefores(some)
	leavesBefore, beforesBefore := keptRows(wholeLeaves(list)), slices.Clone(befores[:cap(befores)])
	first, fault := undoCalls(list, befores), impl.BeforesFault(befores)
	if !sameRowLists(wholeLeaves(list), leavesBefore) || !slices.Equal(befores[:cap(befores)], beforesBefore) {
		t.Fatalf("%d leaves or %d befores are changed", len(list), len(befores))
	}
	if !reflect.DeepEqual(undoCalls(list, befores), first) || impl.BeforesFault(befores) != fault {
		t.Fatalf("another answer at the second call, of %d leaves and %d befores", len(list), len(befores))
	}
	checkCodesAreAlone(t, first)
}

// TestLeavesAndBeforesStayBehindWhatIsTakenBack has all befores for leaves without faults; of odd leaves there are many, and the befores are taken in turns.
func TestLeavesAndBeforesStayBehindWhatIsTakenBack(t *testing.T) {
	each := someBefores()
	for _, list := range someLeaves() {
		for _, befores := range each {
			checkTakenBackStays(t, list, befores)
		}
	}
	for i, odd := range oddLeaves() {
		checkTakenBackStays(t, odd, each[i%len(each)])
	}
}

// turnUndo clears all that is within reach of an answer.
func turnUndo(got impl.UndoResult) {
	for _, rows := range wholeLeaves(got.Leaves) {
		clear(rows)
	}
	clear(got.Leaves[:cap(got.Leaves)])
	clear(got.Recs[:cap(got.Recs)])
}

func keptUndo(got impl.UndoResult) impl.UndoResult {
	return impl.UndoResult{Code: got.Code, Leaves: cloneOf(got.Leaves), Recs: slices.Clone(got.Recs)}
}

func TestWhatIsSetAndTakenBackIsNewMemory(t *testing.T) {
	for _, some := range someLeaves() {
		for _, someOf := range someBefores() {
			list, befores := roomyLeaves(some), roomyBefores(someOf)
			leavesBefore, beforesBefore := keptRows(wholeLeaves(list)), slices.Clone(befores[:cap(befores)])
			calls := func() []impl.UndoResult {
				return append(undoCalls(list, befores), impl.SetValue(list, 1, 50, true, 5), impl.SetValue(list, 1, 50, false, 0), impl.SetValue(list, 1, 51, false, 0))
			}
			answers, others := calls(), calls()
			var want []impl.UndoResult
			for i, got := range answers {
				want = append(want, keptUndo(got))
				turnUndo(got)
				if !sameRowLists(wholeLeaves(list), leavesBefore) || !slices.Equal(befores[:cap(befores)], beforesBefore) {
					t.Fatalf("%v or %d befores turned with answer %d", some, len(befores), i)
				}
			}
			for _, rows := range wholeLeaves(list) {
				clear(rows)
			}
			clear(list[:cap(list)])
			clear(befores[:cap(befores)])
			for i, got := range others {
				if !sameUndo(got, want[i]) {
					t.Fatalf("an answer turned with another one or with its arguments: %v, want %v", got, want[i])
				}
			}
		}
	}
}

// TestLeavesThatAreSetShareNothing turns the rows of one leaf of an answer after the other, and all that is within their reach.
func TestLeavesThatAreSetShareNothing(t *testing.T) {
	for _, list := range someLeaves() {
		answers := setCalls(list)
		for _, befores := range someBefores() {
			answers = append(answers, undoCalls(list, befores)...)
		}
		for _, got := range answers {
			kept := cloneOf(got.Leaves)
			for i, l := range got.Leaves {
				clear(l.Rows[:cap(l.Rows)])
				kept[i].Rows = make([]impl.Row, len(l.Rows))
				if !sameLeaves(got.Leaves, kept) {
					t.Fatalf("leaf %d of an answer for %v shares memory with another one", i, list)
				}
			}
		}
	}
}

func TestMapOfRowsLeavesItsRows(t *testing.T) {
	lists := append(oddRows(), manyRows(100), manyRows(240), manyRows(241), []impl.Row{ghost(0), row(1, 1), ghost(2), row(3, 3)})
	for _, odd := range append(lists, somePages()...) {
		rows := roomyRows(odd)
		before := slices.Clone(rows[:cap(rows)])
		first, second := impl.MapOfRows(rows), impl.MapOfRows(rows)
		if !reflect.DeepEqual(first, second) || first.Code != impl.OK && first.Rows != nil {
			t.Fatalf("MapOfRows of %d rows: %v, then %v", len(rows), first, second)
		}
		want := slices.Clone(first.Rows)
		clear(first.Rows[:cap(first.Rows)])
		if !slices.Equal(rows[:cap(rows)], before) {
			t.Fatalf("%d rows are changed, or turned with an answer", len(rows))
		}
		clear(rows[:cap(rows)])
		if !slices.Equal(second.Rows, want) {
			t.Fatalf("an answer turned with another one or with its %d rows", len(rows))
		}
	}
}
