package tests

import (
	"reflect"
	"testing"

	"loop.example/g00270/impl"
)

// checkEdgesCode asks all that takes edges, which must answer the code and nothing beside it, whatever the transaction is.
func checkEdgesCode(t *testing.T, name string, edges []impl.Edge, want int64) {
	t.Helper()
	if got := wantedEdgesCode(edges); got != want {
		t.Fatalf("%s: %d is wanted elsewhere, %d here", name, got, want)
	}
	for _, txn := range append(wrongTxns(), 1, 2, 3, 400, 999) {
		if got := impl.CycleFrom(edges, txn); !reflect.DeepEqual(got, impl.IntsResult{Code: want}) {
			t.Fatalf("CycleFrom %d, %s: %v, want the code %d", txn, name, got, want)
		}
		if got := impl.WithoutTxn(edges, txn); !reflect.DeepEqual(got, impl.EdgesResult{Code: want}) {
			t.Fatalf("WithoutTxn %d, %s: %v, want the code %d", txn, name, got, want)
		}
	}
	if impl.HasCycle(edges) {
		t.Fatalf("HasCycle, %s: true", name)
	}
}

// checkNoEdgesCode has edges without a code, in which 1 and 2 wait for one another.
func checkNoEdgesCode(t *testing.T, name string, edges []impl.Edge) {
	t.Helper()
	if !impl.HasCycle(edges) {
		t.Errorf("HasCycle, %s: false", name)
	}
	if got := impl.CycleFrom(edges, 2); !sameInts(got, impl.IntsResult{List: []int64{2, 1}}) {
		t.Errorf("CycleFrom 2, %s: %v", name, got)
	}
	if got := impl.WithoutTxn(edges, 2); !sameEdges(got, wantedWithout(edges, 2)) || got.Code != impl.OK {
		t.Errorf("WithoutTxn 2, %s: %v", name, got)
	}
}

// withCircle has edges, and at the end those of a circle of 1 and 2.
func withCircle(edges []impl.Edge) []impl.Edge {
	return append(edges, edgesNamed("1>2 2>1")...)
}

func repeatedEdge(e impl.Edge, count int) []impl.Edge {
	edges := make([]impl.Edge, count)
	for i := range edges {
		edges[i] = e
	}
	return edges
}

func TestEdgesAsManyAsThereMayBe(t *testing.T) {
	rising := impl.Edge{From: 3, To: 4}
	checkNoEdgesCode(t, "400 edges", withCircle(chainOf(500, 398)))
	checkNoEdgesCode(t, "399 edges", withCircle(chainOf(500, 397)))
	checkNoEdgesCode(t, "400 edges, most of them the same", withCircle(repeatedEdge(rising, 398)))
	checkEdgesCode(t, "401 edges", withCircle(chainOf(500, 399)), impl.ErrMany)
	checkEdgesCode(t, "401 edges, most of them the same", withCircle(repeatedEdge(rising, 399)), impl.ErrMany)
	checkEdgesCode(t, "401 edges of a circle", ringOf(1, 401), impl.ErrMany)
	checkEdgesCode(t, "far too many edges", withCircle(repeatedEdge(rising, 100000)), impl.ErrMany)
	checkEdgesCode(t, "far too many wrong edges", make([]impl.Edge, 100000), impl.ErrMany)
	checkEdgesCode(t, "401 edges, the first one wrong", append(edgesNamed("0>1"), chainOf(1, 400)...), impl.ErrMany)
	checkEdgesCode(t, "401 edges, the last one wrong", append(chainOf(1, 400), edgesNamed("5>5")...), impl.ErrMany)
	checkEdgesCode(t, "400 edges, the first one wrong", append(edgesNamed("0>1"), chainOf(1, 399)...), impl.ErrRange)
	checkEdgesCode(t, "400 edges, the last one wrong", append(chainOf(1, 399), edgesNamed("5>5")...), impl.ErrRange)
}

func TestEdgesAtTheirBounds(t *testing.T) {
	for _, text := range []string{"1>999", "999>1", "1>3", "999>998", "998>999", "3>1"} {
		checkNoEdgesCode(t, text, withCircle(edgesNamed(text)))
		checkNoEdgesCode(t, text+" behind others", append(withCircle(nil), edgesNamed(text)...))
	}
}

func TestEdgesOutOfTheirBounds(t *testing.T) {
	var wrong []impl.Edge
	for _, txn := range wrongTxns() {
		wrong = append(wrong, impl.Edge{From: txn, To: 1}, impl.Edge{From: 1, To: txn}, impl.Edge{From: txn, To: txn}, impl.Edge{From: 999, To: txn}, impl.Edge{From: txn, To: 999})
	}
	wrong = append(wrong, edgesNamed("1>1 2>2 500>500 999>999 0>0 1000>1000 0>1000")...)
	for _, e := range wrong {
		checkEdgesCode(t, "a wrong edge", []impl.Edge{e}, impl.ErrRange)
		checkEdgesCode(t, "a wrong edge ahead of others", withCircle([]impl.Edge{e}), impl.ErrRange)
		checkEdgesCode(t, "a wrong edge behind others", append(withCircle(nil), e), impl.ErrRange)
		checkEdgesCode(t, "a wrong edge between others", append(withCircle([]impl.Edge{{From: 1, To: 3}, e}), impl.Edge{From: 3, To: 1}), impl.ErrRange)
	}
}

func TestWrongTransactionsForEdges(t *testing.T) {
	for _, edges := range [][]impl.Edge{nil, edgesNamed("1>2"), withCircle(nil), ringOf(1, 400), ringOf(600, 400)} {
		for _, txn := range wrongTxns() {
			if got := impl.CycleFrom(edges, txn); !reflect.DeepEqual(got, impl.IntsResult{Code: impl.ErrRange}) {
				t.Errorf("CycleFrom %d: %v", txn, got)
			}
			if got := impl.WithoutTxn(edges, txn); !reflect.DeepEqual(got, impl.EdgesResult{Code: impl.ErrRange}) {
				t.Errorf("WithoutTxn %d: %v", txn, got)
			}
		}
		for _, txn := range []int64{1, 999} {
			if got, want := impl.CycleFrom(edges, txn), wantedCycle(edges, txn); !sameInts(got, want) || got.Code == impl.ErrRange {
				t.Errorf("CycleFrom %d: %v, want %v", txn, got, want)
			}
			if got := impl.WithoutTxn(edges, txn); got.Code != impl.OK {
				t.Errorf("WithoutTxn %d: %v", txn, got)
			}
		}
	}
}

func TestWrongTransactionsInACircle(t *testing.T) {
	for _, txn := range wrongTxns() {
		for _, cycle := range [][]int64{{txn}, {txn, 1, 2}, {1, txn, 2}, {1, 2, txn}, {txn, txn}} {
			for _, systems := range [][]int64{nil, {1}, {txn}, {2, txn}, wrongTxns()} {
				if got := impl.VictimOf(cycle, systems); got != (impl.IntResult{Code: impl.ErrRange}) {
					t.Errorf("VictimOf %v and %v: %v", cycle, systems, got)
				}
			}
		}
	}
	for _, cycle := range [][]int64{{1}, {999, 1}, {2, 3, 1}} {
		if got, want := impl.VictimOf(cycle, wrongTxns()), wantedVictim(cycle, nil); got != want || got.Code != impl.OK {
			t.Errorf("VictimOf %v and systems that are none: %v, want %v", cycle, got, want)
		}
	}
}

func TestVictimOfFarTooMany(t *testing.T) {
	cycle, systems := make([]int64, 200000), make([]int64, 200000)
	for i := range cycle {
		cycle[i], systems[i] = int64(1+i%900), int64(950+i)
	}
	if got := impl.VictimOf(cycle, systems); got != (impl.IntResult{Value: 900}) {
		t.Errorf("VictimOf many: %v", got)
	}
	systems[len(systems)-1] = 17
	if got := impl.VictimOf(cycle, systems); got != (impl.IntResult{Value: 17}) {
		t.Errorf("VictimOf many, one of the system: %v", got)
	}
	cycle[len(cycle)-1] = 1000
	if got := impl.VictimOf(cycle, systems); got != (impl.IntResult{Code: impl.ErrRange}) {
		t.Errorf("VictimOf many, the last one wrong: %v", got)
	}
}

func TestEdgesOfLocksWithFaults(t *testing.T) {
	codes := map[int64]int{}
	for _, list := range oddLocks() {
		want := wantedLocksFault(list)
		codes[want]++
		if got := impl.EdgesOf(list); got.Code != want || want != impl.OK && got.Edges != nil {
			t.Errorf("EdgesOf %d locks: the code %d and %d edges, want the code %d", len(list), got.Code, len(got.Edges), want)
		}
	}
	for _, code := range []int64{impl.OK, impl.ErrForm, impl.ErrMany, impl.ErrRange, impl.ErrTaken, impl.ErrState} {
		if codes[code] == 0 {
			t.Errorf("no locks have the code %d", code)
		}
	}
	for _, text := range []string{"5 1:x 2?s | 6 1:x 2?s", "5 1:x 2?s | 6", "5 1:x 2?s | 5 1:x 3?s", "5 1:x 2?s | 101 1:x 3?s", "5 1:x 2?s 2?x", "5 1:x 2?s 1000?s"} {
		list := locksOf(text)
		if got, want := impl.EdgesOf(list), (impl.EdgesResult{Code: wantedLocksFault(list)}); !reflect.DeepEqual(got, want) || want.Code == impl.OK {
			t.Errorf("EdgesOf %s: %v, want %v", text, got, want)
		}
	}
}
