package tests

import (
	"reflect"
	"slices"
	"testing"

	"loop.example/g00270/impl"
)

// roomyEdges and roomyTxns have lists with room behind them, so that an append to the argument would be seen there.
func roomyEdges(edges []impl.Edge) []impl.Edge {
	whole := append(slices.Clone(edges), edgesNamed("87>88 88>89 89>87")...)
	return whole[:len(edges)]
}

func roomyTxns(txns []int64) []int64 {
	return append(slices.Clone(txns), 87, 88, 89)[:len(txns)]
}

// oddEdges has edges with and without codes.
func oddEdges() [][]impl.Edge {
	lists := [][]impl.Edge{nil, chainOf(1, 400), chainOf(1, 401), ringOf(1, 400), ringOf(600, 400), allEdges(20), make([]impl.Edge, 100000)}
	for _, text := range []string{
		"1>2", "2>1 1>2", "3>1 2>3 1>2", "9>8 8>7 7>9 1>9 7>1 2>1 1>2", "1>3 3>1 1>2 2>1 1>3", "0>1", "1>2 2>1000", "1>2 2>1 3>3",
	} {
		lists = append(lists, edgesNamed(text))
	}
	return lists
}

// edgesAnswers is all that is told of edges.
type edgesAnswers struct {
	has     bool
	circles []impl.IntsResult
	left    []impl.EdgesResult
}

func edgesCalls(edges []impl.Edge) edgesAnswers {
	got := edgesAnswers{has: impl.HasCycle(edges)}
	for _, txn := range []int64{0, 1, 2, 3, 7, 9, 20, 400, 600, 999, 1000} {
		got.circles = append(got.circles, impl.CycleFrom(edges, txn))
		got.left = append(got.left, impl.WithoutTxn(edges, txn))
	}
	return got
}

func TestEdgesStayAndAnswersRepeat(t *testing.T) {
	for _, odd := range oddEdges() {
		edges := roomyEdges(odd)
		before := slices.Clone(edges[:cap(edges)])
		first := edgesCalls(edges)
		for range 3 {
			if !reflect.DeepEqual(edgesCalls(edges), first) {
				t.Fatalf("another answer at another call, of %d edges", len(edges))
			}
		}
		if !slices.Equal(edges[:cap(edges)], before) {
			t.Fatalf("%d edges are changed: %v", len(edges), before)
		}
		if !reflect.DeepEqual(edgesCalls(append([]impl.Edge{}, odd...)), first) {
			t.Fatalf("another answer with a list of its own, of %d edges", len(edges))
		}
		for i := range first.circles {
			if got := first.circles[i]; got.Code != impl.OK && got.List != nil {
				t.Fatalf("a circle beside the code %d", got.Code)
			}
			if got := first.left[i]; got.Code != impl.OK && got.Edges != nil {
				t.Fatalf("edges beside the code %d", got.Code)
			}
		}
	}
}

func TestAnswersOfEdgesAreNewMemory(t *testing.T) {
	for _, odd := range oddEdges() {
		edges := roomyEdges(odd)
		before := slices.Clone(edges[:cap(edges)])
		turned, kept, want := edgesCalls(edges), edgesCalls(edges), edgesCalls(slices.Clone(edges))
		for i := range turned.circles {
			clear(turned.circles[i].List[:cap(turned.circles[i].List)])
			clear(turned.left[i].Edges[:cap(turned.left[i].Edges)])
		}
		if !slices.Equal(edges[:cap(edges)], before) {
			t.Fatalf("%d edges turned with an answer", len(edges))
		}
		clear(edges[:cap(edges)])
		if !reflect.DeepEqual(kept, want) {
			t.Fatalf("an answer turned with another one or with its %d edges", len(edges))
		}
	}
}

func TestLocksStayBehindEdgesOf(t *testing.T) {
	for _, odd := range oddLocks() {
		list := roomyLocks(odd)
		before := cloneLocksOf(wholeLocks(list))
		first := impl.EdgesOf(list)
		want := slices.Clone(first.Edges)
		for range 5 {
			if got := impl.EdgesOf(list); !reflect.DeepEqual(got, first) {
				t.Fatalf("another answer at another call, of %d locks", len(list))
			}
		}
		second := impl.EdgesOf(list)
		clear(first.Edges[:cap(first.Edges)])
		if !sameLocks(wholeLocks(list), before) {
			t.Fatalf("%d locks are changed: %v", len(list), before)
		}
		for _, holds := range holdLists(list) {
			clear(holds)
		}
		if !slices.Equal(second.Edges, want) {
			t.Fatalf("an answer turned with another one or with its %d locks", len(list))
		}
	}
}

func TestCircleAndSystemsStay(t *testing.T) {
	for _, circle := range [][]int64{nil, {1}, {3, 1, 2}, {1, 999, 500}, {0, 1}, {2, 1000}} {
		for _, some := range [][]int64{nil, {1}, {2, 1}, {1000, 0, 3}, {999, 500, 1}} {
			cycle, systems := roomyTxns(circle), roomyTxns(some)
			cycleBefore, systemsBefore := slices.Clone(cycle[:cap(cycle)]), slices.Clone(systems[:cap(systems)])
			first := impl.VictimOf(cycle, systems)
			if !slices.Equal(cycle[:cap(cycle)], cycleBefore) || !slices.Equal(systems[:cap(systems)], systemsBefore) {
				t.Fatalf("VictimOf %v and %v changed one of them", circle, some)
			}
			if got := impl.VictimOf(cycle, systems); got != first || first != wantedVictim(circle, some) {
				t.Fatalf("VictimOf %v and %v: %v, then %v", circle, some, first, got)
			}
			if first.Code != impl.OK && first.Value != 0 {
				t.Fatalf("a victim beside the code %d", first.Code)
			}
		}
	}
}
