package tests

import (
	"slices"
	"testing"

	"loop.example/g00270/impl"
)

// numbersFrom tells numbers of a plain rule's making, each below the bound that is asked for.
func numbersFrom(state uint32) func(bound int64) int64 {
	return func(bound int64) int64 {
		state = state*1664525 + 1013904223
		return int64(state>>8) % bound
	}
}

// checkEdges holds an answer against the document, and against the promise: just who waits waits for somebody, where a lock has room.
func checkEdges(t *testing.T, list []impl.Lock) []impl.Edge {
	t.Helper()
	got := impl.EdgesOf(list)
	if want := wantedEdges(list); !sameEdges(got, want) {
		t.Fatalf("EdgesOf %v: %v, want %v", list, got, want)
	}
	for _, e := range got.Edges {
		if impl.WaitsAt(list, e.From).Code != impl.OK {
			t.Fatalf("EdgesOf %v: %d does not wait", list, e.From)
		}
	}
	for _, lock := range list {
		for _, h := range lock.Queue {
			waits := slices.ContainsFunc(got.Edges, func(e impl.Edge) bool { return e.From == h.Txn })
			if !waits && len(lock.Holds) < impl.MaxHolds {
				t.Fatalf("EdgesOf %v: %d waits for nobody", list, h.Txn)
			}
		}
	}
	return got.Edges
}

// checkCircle asks of a circle whether it is one, and of who gives way whether it is of it, and of the system where one is.
func checkCircle(t *testing.T, edges []impl.Edge, txn int64, circle []int64) {
	t.Helper()
	if circle[0] != txn {
		t.Fatalf("the circle %v from %d, %v", circle, txn, edges)
	}
	for i, from := range circle {
		to := circle[(i+1)%len(circle)]
		if !slices.Contains(edges, impl.Edge{From: from, To: to}) || slices.Contains(circle[:i], from) {
			t.Fatalf("the circle %v is none, %v", circle, edges)
		}
	}
	for _, systems := range [][]int64{nil, {1000}, {2}, {3, 1}, {txn}, circle[len(circle)/2:]} {
		got := impl.VictimOf(circle, systems)
		isSystem := func(txn int64) bool { return slices.Contains(systems, txn) }
		if got.Code != impl.OK || !slices.Contains(circle, got.Value) || slices.ContainsFunc(circle, isSystem) && !isSystem(got.Value) {
			t.Fatalf("VictimOf %v and %v: %v", circle, systems, got)
		}
	}
}

// checkWaits asks all that takes edges, of each of the transactions.
func checkWaits(t *testing.T, edges []impl.Edge, txns []int64) {
	t.Helper()
	some := false
	for _, txn := range txns {
		got := impl.CycleFrom(edges, txn)
		if want := wantedCycle(edges, txn); !sameInts(got, want) {
			t.Fatalf("CycleFrom %d, %v: %v, want %v", txn, edges, got, want)
		}
		if got.Code == impl.OK {
			some = true
			checkCircle(t, edges, txn, got.List)
		}
		if got, want := impl.WithoutTxn(edges, txn), wantedWithout(edges, txn); !sameEdges(got, want) {
			t.Fatalf("WithoutTxn %d, %v: %v, want %v", txn, edges, got, want)
		}
	}
	got := impl.HasCycle(edges)
	if want := wantedHasCycle(edges); got != want || some && !got {
		t.Fatalf("HasCycle of %v: %v, want %v", edges, got, want)
	}
}

func TestEdgesOfEveryLock(t *testing.T) {
	for _, list := range everyLock(5) {
		checkWaits(t, checkEdges(t, list), []int64{1, 2, 3, 4})
	}
}

func TestEdgesOfSomeLocks(t *testing.T) {
	for _, list := range someLocks() {
		checkWaits(t, checkEdges(t, list), manyTxns(1, 45))
	}
}

// TestEdgesOfLocksThatComeAndGo follows a lock table; whoever comes into a circle gives way, or, now and then, does not.
func TestEdgesOfLocksThatComeAndGo(t *testing.T) {
	next := numbersFrom(23)
	circles, gaveWay := 0, 0
	for _, c := range []struct{ txns, resources, frees, lets int64 }{
		{3, 3, 9, 2}, {5, 4, 9, 3}, {8, 8, 12, 5}, {12, 3, 12, 50}, {60, 1, 40, 50}, {40, 20, 12, 20},
	} {
		var list []impl.Lock
		for range 1500 {
			txn := 1 + next(c.txns)
			if next(c.frees) == 0 {
				list = impl.FreeLocks(list, txn).Locks
				continue
			}
			ask := impl.AskLock(list, txn, next(c.resources), 1+next(5))
			if ask.Code != impl.OK {
				continue
			}
			list = ask.Locks
			edges := checkEdges(t, list)
			checkWaits(t, edges, []int64{txn, 1 + next(c.txns)})
			for cycle := impl.CycleFrom(edges, txn); cycle.Code == impl.OK; cycle = impl.CycleFrom(edges, txn) {
				circles++
				if next(c.lets) == 0 {
					break
				}
				gaveWay++
				list = impl.FreeLocks(list, impl.VictimOf(cycle.List, nil).Value).Locks
				edges = checkEdges(t, list)
			}
		}
	}
	if circles < 100 || gaveWay < 100 {
		t.Errorf("too little was met: %d circles, %d gave way", circles, gaveWay)
	}
}

// waysFrom has txn and some of the first count transactions behind it, in every order: shorter ones first, lesser ones ahead of greater ones.
func waysFrom(txn, count int64) [][]int64 {
	ways := [][]int64{{txn}}
	for at := 0; at < len(ways); at++ {
		for other := int64(1); other <= count; other++ {
			if !slices.Contains(ways[at], other) {
				ways = append(ways, append(slices.Clone(ways[at]), other))
			}
		}
	}
	return ways
}

func isCircleIn(edges []impl.Edge, way []int64) bool {
	for i, from := range way {
		if !slices.Contains(edges, impl.Edge{From: from, To: way[(i+1)%len(way)]}) {
			return false
		}
	}
	return true
}

// allEdges has the edges from each of the first count transactions to each other one.
func allEdges(count int64) []impl.Edge {
	var edges []impl.Edge
	for from := int64(1); from <= count; from++ {
		for to := int64(1); to <= count; to++ {
			if from != to {
				edges = append(edges, impl.Edge{From: from, To: to})
			}
		}
	}
	return edges
}

// TestCirclesOfEveryEdges has every set of edges of four transactions, and takes of all ways in their order the first that is a circle.
func TestCirclesOfEveryEdges(t *testing.T) {
	all := allEdges(4)
	ways := [5][][]int64{}
	for txn := int64(1); txn <= 4; txn++ {
		ways[txn] = waysFrom(txn, 4)
	}
	for set := range 1 << len(all) {
		var edges []impl.Edge
		for i, e := range all {
			if set>>i&1 == 1 {
				edges = append(edges, e)
			}
		}
		some := false
		for txn := int64(1); txn <= 4; txn++ {
			want := impl.IntsResult{Code: impl.ErrNone}
			if at := slices.IndexFunc(ways[txn], func(way []int64) bool { return isCircleIn(edges, way) }); at >= 0 {
				want = impl.IntsResult{List: ways[txn][at]}
				some = true
			}
			if got := impl.CycleFrom(edges, txn); !sameInts(got, want) {
				t.Fatalf("CycleFrom %d, %v: %v, want %v", txn, edges, got, want)
			}
		}
		if got := impl.HasCycle(edges); got != some {
			t.Fatalf("HasCycle of %v: %v", edges, got)
		}
	}
}

// TestCirclesOfManyEdges has edges of more transactions, few and many, in any order, some of them twice.
func TestCirclesOfManyEdges(t *testing.T) {
	next := numbersFrom(5)
	lengths := map[int]int{}
	for _, c := range []struct{ txns, edges, times int64 }{
		{5, 8, 1500}, {6, 9, 1500}, {8, 12, 1500}, {12, 18, 500}, {30, 40, 200}, {100, 130, 60}, {21, 400, 5}, {300, 400, 10},
	} {
		for range c.times {
			var edges []impl.Edge
			first := next(1000 - c.txns)
			for len(edges) < int(c.edges) {
				e := impl.Edge{From: first + 1 + next(c.txns), To: first + 1 + next(c.txns)}
				if e.From != e.To {
					edges = append(edges, e)
				}
			}
			txns := []int64{edges[0].From, edges[1].To, 1 + next(999)}
			checkWaits(t, edges, txns)
			lengths[len(impl.CycleFrom(edges, txns[0]).List)]++
		}
	}
	for length := 2; length <= 6; length++ {
		if lengths[length] < 20 {
			t.Errorf("too few circles of %d: %v", length, lengths)
		}
	}
}

// TestEdgesInAnyOrder turns the order of edges, and has them twice: the circle is the same.
func TestEdgesInAnyOrder(t *testing.T) {
	next := numbersFrom(77)
	for range 300 {
		var edges []impl.Edge
		for _, e := range allEdges(6) {
			if next(3) == 0 {
				edges = append(edges, e)
			}
		}
		turned := slices.Concat(edges, edges)
		for i := range turned {
			at := next(int64(len(turned)))
			turned[i], turned[at] = turned[at], turned[i]
		}
		for txn := int64(1); txn <= 6; txn++ {
			if got, want := impl.CycleFrom(turned, txn), impl.CycleFrom(edges, txn); !sameInts(got, want) {
				t.Fatalf("CycleFrom %d, %v: %v, in order %v", txn, turned, got, want)
			}
		}
		if impl.HasCycle(turned) != impl.HasCycle(edges) {
			t.Fatalf("HasCycle of %v is another one in order", turned)
		}
	}
}

func TestLongWays(t *testing.T) {
	chain := chainOf(1, 400)
	falling := make([]impl.Edge, len(chain))
	for i, e := range chain {
		falling[i] = impl.Edge{From: e.To, To: e.From}
	}
	for _, edges := range [][]impl.Edge{chain, falling, chainOf(599, 400)} {
		if impl.HasCycle(edges) {
			t.Errorf("HasCycle of a way from %d on", edges[0].From)
		}
		if got := impl.CycleFrom(edges, edges[0].From); !sameInts(got, impl.IntsResult{Code: impl.ErrNone}) {
			t.Errorf("CycleFrom of a way: %v", got)
		}
	}
	closed := append(chainOf(1, 399), impl.Edge{From: 400, To: 399})
	if !impl.HasCycle(closed) || impl.CycleFrom(closed, 1).Code != impl.ErrNone || !slices.Equal(impl.CycleFrom(closed, 400).List, []int64{400, 399}) {
		t.Error("a circle at the end of a way is not found")
	}
}

func TestLongCircles(t *testing.T) {
	for _, c := range []struct{ first, count int64 }{{1, 3}, {1, 50}, {600, 400}, {1, 400}, {998, 2}} {
		ring := ringOf(c.first, c.count)
		if !impl.HasCycle(ring) {
			t.Errorf("HasCycle of a ring of %d", c.count)
		}
		for i := int64(0); i < c.count; i += max(1, c.count/7) {
			want := append(manyTxns(c.first+i, c.count-i), manyTxns(c.first, i)...)
			if got := impl.CycleFrom(ring, c.first+i); !sameInts(got, impl.IntsResult{List: want}) {
				t.Errorf("CycleFrom %d of a ring of %d from %d on: %v", c.first+i, c.count, c.first, got)
			}
		}
	}
}

// TestManyWaysAsShort has rows of transactions, each of which waits for all of the next row: the least of each row are told.
func TestManyWaysAsShort(t *testing.T) {
	var edges []impl.Edge
	rows := [][]int64{{500}, {90, 12, 40}, {3, 800, 7, 9}, {999, 998}, {60, 50, 70}, {500}}
	for i := range len(rows) - 1 {
		for _, from := range rows[i] {
			for _, to := range rows[i+1] {
				edges = append(edges, impl.Edge{From: from, To: to})
			}
		}
	}
	checkWaits(t, edges, []int64{500, 12, 3, 998, 50, 1})
	if got := impl.CycleFrom(edges, 500); !sameInts(got, impl.IntsResult{List: []int64{500, 12, 3, 998, 50}}) {
		t.Errorf("CycleFrom 500: %v", got)
	}
	less := impl.WithoutTxn(impl.WithoutTxn(edges, 12).Edges, 998).Edges
	if got := impl.CycleFrom(less, 500); !sameInts(got, impl.IntsResult{List: []int64{500, 40, 3, 999, 50}}) {
		t.Errorf("CycleFrom 500 without 12 and 998: %v", got)
	}
}

// TestVictimOfEveryCircle has every circle of up to three of some numbers, with every two systems of them.
func TestVictimOfEveryCircle(t *testing.T) {
	numbers := []int64{1, 2, 3, 999, 0, 1000}
	circles := [][]int64{nil}
	for at := 0; len(circles[at]) < 3; at++ {
		for _, n := range numbers {
			circles = append(circles, append(slices.Clone(circles[at]), n))
		}
	}
	for _, cycle := range circles {
		for _, one := range numbers {
			for _, other := range numbers {
				systems := []int64{one, other}
				if got, want := impl.VictimOf(cycle, systems), wantedVictim(cycle, systems); got != want {
					t.Fatalf("VictimOf %v and %v: %v, want %v", cycle, systems, got, want)
				}
			}
		}
	}
}
