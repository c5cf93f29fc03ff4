package tests

import (
	"slices"
	"testing"

	"loop.example/g00270/impl"
)

func TestEdgesOfCases(t *testing.T) {
	for _, c := range []struct {
		name  string
		locks string
		want  string
	}{
		{"no locks", "", ""},
		{"nobody waits", "0 1:is 2:ix | 5 1:s", ""},
		{"one for one", "5 1:x 2?s", "2>1"},
		{"the least and the greatest of all", "0 1:x | 100 1:x 999?is", "999>1"},
		{"each that does not fit", "5 3:s 1:s 2:s 4?x", "4>1 4>2 4>3"},
		{"not one that fits, the first", "5 1:is 2:ix 3?s", "3>2"},
		{"not one that fits, the last", "5 1:ix 2:is 3?s", "3>1"},
		{"not one that fits, between", "5 1:ix 2:is 3:ix 4?six", "4>1 4>3"},
		{"one ahead in the queue", "5 1:x 2?s 3?s", "2>1 3>1 3>2"},
		{"one ahead that would fit", "5 1:ix 2?s 3?is", "2>1 3>2"},
		{"all ahead in the queue", "5 9:x 4?is 2?is 7?is", "2>4 2>9 4>9 7>2 7>4 7>9"},
		{"one that converts does not wait for itself", "5 1:s 2:s 1?x", "1>2"},
		{"two that convert", "5 1:s 2:s 1?x 2?x", "1>2 2>1"},
		{"two that convert, and one that fits with both", "5 1:is 2:is 3:ix 1?s 2?s", "1>3 2>1 2>3"},
		{"one behind those that convert, met twice", "5 1:s 2:s 1?x 2?x 3?x", "1>2 2>1 3>1 3>2"},
		{"one behind one that converts, met in the queue alone", "5 1:is 2:ix 1?s 3?is", "1>2 3>1"},
		{"one behind one that converts, met among holds alone", "5 1:s 2:s 1?x 3?ix", "1>2 3>1 3>2"},
		{"one who holds several", "4 1:x 2?s | 5 1:x 3?s | 6 1:x 4?s 5?s", "2>1 3>1 4>1 5>1 5>4"},
		{"at one lock alone, though others are in the way elsewhere", "4 1:x | 5 1:x 2?s | 6 1:x", "2>1"},
		{"holds at one, waits at another", "4 1:x 2?s | 5 2:x 1?s", "1>2 2>1"},
		{"who waits falls from lock to lock", "4 1:x 9?s | 5 1:x 8?s | 6 1:x 7?s", "7>1 8>1 9>1"},
		{"in the order of numbers, not of digits", "5 100:is 20:is 3:is 11?x", "11>3 11>20 11>100"},
		{"who waits for room alone", "5 " + manyOf(1, 20, ":is") + " 21?is", ""},
		{"behind one who waits for room alone", "5 " + manyOf(1, 20, ":is") + " 21?is 22?is", "22>21"},
	} {
		if got, want := impl.EdgesOf(locksOf(c.locks)), (impl.EdgesResult{Edges: edgesNamed(c.want)}); !sameEdges(got, want) {
			t.Errorf("EdgesOf, %s: %v, want %v", c.name, got, want)
		}
	}
}

// TestEdgesOfMoreThanOthersTake has a lock of which more edges come than the other functions take.
func TestEdgesOfMoreThanOthersTake(t *testing.T) {
	got := impl.EdgesOf(locksOf("5 " + manyOf(1, 20, ":s") + " " + manyOf(21, 20, "?x")))
	if got.Code != impl.OK || len(got.Edges) != 20*20+20*19/2 {
		t.Fatalf("EdgesOf: the code %d and %d edges", got.Code, len(got.Edges))
	}
	if code := impl.CycleFrom(got.Edges, 21).Code; code != impl.ErrMany {
		t.Errorf("CycleFrom: %d", code)
	}
}

func TestCycleFromCases(t *testing.T) {
	for _, c := range []struct {
		name  string
		edges string
		txn   int64
		want  []int64
	}{
		{"no edges", "", 1, nil},
		{"no edge of it", "2>3 3>2", 1, nil},
		{"one edge", "1>2", 1, nil},
		{"one edge to it", "2>1", 1, nil},
		{"a circle of two", "1>2 2>1", 1, []int64{1, 2}},
		{"a circle of two from the other one", "1>2 2>1", 2, []int64{2, 1}},
		{"the least and the greatest of all", "999>1 1>999", 999, []int64{999, 1}},
		{"a circle of three", "1>2 2>3 3>1", 1, []int64{1, 2, 3}},
		{"a circle of three from the second", "1>2 2>3 3>1", 2, []int64{2, 3, 1}},
		{"a circle of three from the third", "1>2 2>3 3>1", 3, []int64{3, 1, 2}},
		{"a circle of three the other way round", "1>3 3>2 2>1", 1, []int64{1, 3, 2}},
		{"a way into a circle that it is not of", "1>2 2>3 3>2", 1, nil},
		{"a way out of a circle that it is not of", "2>3 3>2 3>1", 1, nil},
		{"between two circles", "2>3 3>2 3>1 1>4 4>5 5>4", 1, nil},
		{"a shorter one behind a greater transaction", "1>2 2>3 3>1 1>9 9>1", 1, []int64{1, 9}},
		{"a shorter one through a longer one's end", "1>2 2>3 3>4 4>1 1>4", 1, []int64{1, 4}},
		{"a shorter one through a longer one's beginning", "1>2 2>3 3>4 4>1 2>1", 1, []int64{1, 2}},
		{"two that part at the first", "1>3 3>1 1>2 2>1", 1, []int64{1, 2}},
		{"three that part at the first", "1>7 7>8 8>1 1>6 6>9 9>1 1>10 10>2 2>1", 1, []int64{1, 6, 9}},
		{"the first counts ahead of the second", "1>2 2>9 9>1 1>3 3>4 4>1", 1, []int64{1, 2, 9}},
		{"the first counts ahead of where they meet", "1>3 3>5 5>1 1>2 2>6 6>1 3>4 4>1", 1, []int64{1, 2, 6}},
		{"two that part at the second", "1>5 5>4 4>1 5>3 3>1", 1, []int64{1, 5, 3}},
		{"two that part and meet again", "1>3 1>2 2>4 3>4 4>1", 1, []int64{1, 2, 4}},
		{"two that part at the third", "1>5 5>6 6>8 8>1 6>7 7>1", 1, []int64{1, 5, 6, 7}},
		{"the second counts ahead of the third", "1>5 5>6 6>9 9>1 5>7 7>2 2>1", 1, []int64{1, 5, 6, 9}},
		{"the least first leads nowhere", "1>2 1>3 3>1", 1, []int64{1, 3}},
		{"the least first leads around longer", "1>2 2>4 4>5 5>1 1>3 3>4 3>5", 1, []int64{1, 3, 5}},
		{"the least second leads nowhere", "1>2 2>3 2>4 4>1", 1, []int64{1, 2, 4}},
		{"in the order of numbers, not of digits", "1>10 10>1 1>9 9>1", 1, []int64{1, 9}},
		{"edges that stand twice", "1>3 1>3 3>1 1>2 2>1 1>3 2>1 3>1", 1, []int64{1, 2}},
		{"another circle at the way's end", "1>2 2>3 3>2 3>4 4>1", 1, []int64{1, 2, 3, 4}},
	} {
		want := impl.IntsResult{List: c.want}
		if c.want == nil {
			want.Code = impl.ErrNone
		}
		edges := edgesNamed(c.edges)
		for range 2 {
			if got := impl.CycleFrom(edges, c.txn); !sameInts(got, want) {
				t.Errorf("CycleFrom %d, %s: %v, want %v", c.txn, c.name, got, want)
			}
			slices.Reverse(edges)
		}
	}
}

func TestHasCycleCases(t *testing.T) {
	for _, c := range []struct {
		name  string
		edges string
		want  bool
	}{
		{"no edges", "", false},
		{"one edge", "1>2", false},
		{"one edge twice", "1>2 1>2", false},
		{"two of the same", "1>2 1>3", false},
		{"two to the same", "1>3 2>3", false},
		{"two ways that part and meet", "1>2 1>3 2>4 3>4", false},
		{"all edges that rise", "1>2 1>3 1>4 2>3 2>4 3>4", false},
		{"all edges that fall", "4>3 4>2 4>1 3>2 3>1 2>1", false},
		{"a circle of two", "1>2 2>1", true},
		{"a circle of three", "3>1 1>2 2>3", true},
		{"a circle behind a way", "1>2 2>3 3>4 4>3", true},
		{"a circle ahead of a way", "4>3 3>4 3>2 2>1", true},
		{"a circle beside ways", "1>2 2>3 8>9 9>8 4>5", true},
		{"the greatest alone", "1>2 998>999 999>998", true},
		{"all that rise, and one that falls", "1>2 1>3 1>4 2>3 2>4 3>4 4>1", true},
	} {
		edges := edgesNamed(c.edges)
		for range 2 {
			if got := impl.HasCycle(edges); got != c.want {
				t.Errorf("HasCycle, %s: %v", c.name, got)
			}
			slices.Reverse(edges)
		}
	}
}

func TestVictimOfCases(t *testing.T) {
	for _, c := range []struct {
		name    string
		cycle   []int64
		systems []int64
		code    int64
		want    int64
	}{
		{"no circle", nil, nil, impl.ErrNone, 0},
		{"no circle, but systems", nil, []int64{1, 2}, impl.ErrNone, 0},
		{"an empty circle", []int64{}, []int64{}, impl.ErrNone, 0},
		{"one alone", []int64{7}, nil, 0, 7},
		{"the greatest, the first", []int64{3, 1, 2}, nil, 0, 3},
		{"the greatest, between", []int64{1, 3, 2}, nil, 0, 3},
		{"the greatest, the last", []int64{1, 2, 3}, nil, 0, 3},
		{"the least and the greatest of all", []int64{999, 1}, nil, 0, 999},
		{"one of the system, the least", []int64{2, 1, 3}, []int64{1}, 0, 1},
		{"one of the system, the greatest", []int64{2, 1, 3}, []int64{3}, 0, 3},
		{"two of the system, rising", []int64{1, 2, 3, 4}, []int64{1, 2}, 0, 2},
		{"two of the system, falling", []int64{1, 2, 3, 4}, []int64{2, 1}, 0, 2},
		{"all of the system", []int64{1, 3, 2}, []int64{2, 3, 1}, 0, 3},
		{"one of the system twice", []int64{1, 3, 2}, []int64{2, 2}, 0, 2},
		{"systems that are not of the circle", []int64{1, 2}, []int64{3, 999}, 0, 2},
		{"greater ones that are not of the circle", []int64{1, 2}, []int64{3, 1, 999}, 0, 1},
		{"systems that are no transactions", []int64{1, 2}, []int64{0, -1, 1000, 1 << 62}, 0, 2},
		{"systems that are no transactions, and one that is", []int64{1, 2}, []int64{1000, 1, 0}, 0, 1},
		{"one of the circle twice", []int64{1, 2, 1, 2}, nil, 0, 2},
		{"a wrong one, the first", []int64{0, 1}, nil, impl.ErrRange, 0},
		{"a wrong one, the last", []int64{1, 2, 1000}, nil, impl.ErrRange, 0},
		{"a wrong one of the system", []int64{1, 0}, []int64{0}, impl.ErrRange, 0},
		{"a wrong one beside one of the system", []int64{1, 2, -5}, []int64{2}, impl.ErrRange, 0},
	} {
		if got, want := impl.VictimOf(c.cycle, c.systems), (impl.IntResult{Code: c.code, Value: c.want}); got != want {
			t.Errorf("VictimOf, %s: %v, want %v", c.name, got, want)
		}
	}
}

func TestWithoutTxnCases(t *testing.T) {
	for _, c := range []struct {
		name  string
		edges string
		txn   int64
		want  string
	}{
		{"no edges", "", 1, ""},
		{"as From", "1>2 2>3", 1, "2>3"},
		{"as To", "2>1 2>3", 1, "2>3"},
		{"as neither", "2>3 3>2", 1, "2>3 3>2"},
		{"as both", "1>2 2>1", 1, ""},
		{"among others", "3>2 1>2 2>3 3>1 2>4", 1, "3>2 2>3 2>4"},
		{"the order of what is left", "9>8 8>7 1>9 7>9 5>6", 1, "9>8 8>7 7>9 5>6"},
		{"edges that stand twice", "3>2 1>2 3>2 2>3 1>2 3>2", 1, "3>2 3>2 2>3 3>2"},
		{"the least of all", "1>999 999>2 2>1", 1, "999>2"},
		{"the greatest of all", "1>999 999>2 2>1", 999, "2>1"},
		{"numbers that begin alike", "1>10 11>12 2>1 100>2", 1, "11>12 100>2"},
	} {
		if got, want := impl.WithoutTxn(edgesNamed(c.edges), c.txn), (impl.EdgesResult{Edges: edgesNamed(c.want)}); !sameEdges(got, want) {
			t.Errorf("WithoutTxn %d, %s: %v, want %v", c.txn, c.name, got, want)
		}
	}
}
