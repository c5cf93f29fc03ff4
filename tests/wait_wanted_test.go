package tests

import (
	"slices"
	"strings"

	"loop.example/g00270/impl"
)

// edgesNamed reads edges from a text: "1>2 2>3". Numbers may be any.
func edgesNamed(text string) []impl.Edge {
	var edges []impl.Edge
	for _, word := range strings.Fields(text) {
		from, to, _ := strings.Cut(word, ">")
		edges = append(edges, impl.Edge{From: numberOf(from), To: numberOf(to)})
	}
	return edges
}

// chainOf has the edges from each of count transactions to the next one, from first on.
func chainOf(first, count int64) []impl.Edge {
	var edges []impl.Edge
	for txn := first; txn < first+count; txn++ {
		edges = append(edges, impl.Edge{From: txn, To: txn + 1})
	}
	return edges
}

// ringOf has count transactions, from first on, each of which waits for the next one, and the last one for the first.
func ringOf(first, count int64) []impl.Edge {
	return append(chainOf(first, count-1), impl.Edge{From: first + count - 1, To: first})
}

func sameEdges(a, b impl.EdgesResult) bool {
	return a.Code == b.Code && slices.Equal(a.Edges, b.Edges)
}

func sameInts(a, b impl.IntsResult) bool {
	return a.Code == b.Code && slices.Equal(a.List, b.List)
}

// waitsForAt tells whether from waits for to at a lock.
func waitsForAt(lock impl.Lock, from, to int64) bool {
	at := slices.IndexFunc(lock.Queue, isTxnOf(from))
	if at < 0 || from == to {
		return false
	}
	held := heldBy(lock.Holds, to)
	return slices.ContainsFunc(lock.Queue[:at], isTxnOf(to)) || held != 0 && fitsTable[held][lock.Queue[at].Mode] != '1'
}

// metIn has all transactions of locks, rising.
func metIn(list []impl.Lock) []int64 {
	var txns []int64
	for _, lock := range list {
		for _, h := range slices.Concat(lock.Holds, lock.Queue) {
			txns = append(txns, h.Txn)
		}
	}
	slices.Sort(txns)
	return slices.Compact(txns)
}

// wantedEdges, wantedCycle, wantedWithout and wantedVictim tell by the document alone what is answered.
func wantedEdges(list []impl.Lock) impl.EdgesResult {
	if code := wantedLocksFault(list); code != impl.OK {
		return impl.EdgesResult{Code: code}
	}
	var want impl.EdgesResult
	txns := metIn(list)
	for _, from := range txns {
		for _, to := range txns {
			if slices.ContainsFunc(list, func(l impl.Lock) bool { return waitsForAt(l, from, to) }) {
				want.Edges = append(want.Edges, impl.Edge{From: from, To: to})
			}
		}
	}
	return want
}

func isWrongEdge(e impl.Edge) bool {
	return e.From < 1 || e.From > 999 || e.To < 1 || e.To > 999 || e.From == e.To
}

func wantedEdgesCode(edges []impl.Edge) int64 {
	if len(edges) > 400 {
		return impl.ErrMany
	}
	if slices.ContainsFunc(edges, isWrongEdge) {
		return impl.ErrRange
	}
	return impl.OK
}

// stepsTo tells of each transaction how many edges it has to go at least to come to txn, 0 where it cannot; of txn itself to come back.
func stepsTo(edges []impl.Edge, txn int64) [1000]int {
	var steps [1000]int
	last := []int64{txn}
	for count := 1; len(last) > 0; count++ {
		var next []int64
		for _, e := range edges {
			if slices.Contains(last, e.To) && steps[e.From] == 0 {
				steps[e.From] = count
				next = append(next, e.From)
			}
		}
		last = next
	}
	return steps
}

// wantedCycle reckons from behind how far each one has to go, and then takes the least one that is as near as can be.
func wantedCycle(edges []impl.Edge, txn int64) impl.IntsResult {
	if code := wantedEdgesCode(edges); code != impl.OK {
		return impl.IntsResult{Code: code}
	}
	if txn < 1 || txn > 999 {
		return impl.IntsResult{Code: impl.ErrRange}
	}
	steps := stepsTo(edges, txn)
	if steps[txn] == 0 {
		return impl.IntsResult{Code: impl.ErrNone}
	}
	circle := []int64{txn}
	for left := steps[txn] - 1; left > 0; left-- {
		least := int64(1000)
		for _, e := range edges {
			if e.From == circle[len(circle)-1] && steps[e.To] == left && e.To != txn {
				least = min(least, e.To)
			}
		}
		circle = append(circle, least)
	}
	return impl.IntsResult{List: circle}
}

func wantedHasCycle(edges []impl.Edge) bool {
	return slices.ContainsFunc(edges, func(e impl.Edge) bool { return wantedCycle(edges, e.From).Code == impl.OK })
}

func wantedWithout(edges []impl.Edge, txn int64) impl.EdgesResult {
	if code := wantedEdgesCode(edges); code != impl.OK {
		return impl.EdgesResult{Code: code}
	}
	if txn < 1 || txn > 999 {
		return impl.EdgesResult{Code: impl.ErrRange}
	}
	left := slices.DeleteFunc(slices.Clone(edges), func(e impl.Edge) bool { return e.From == txn || e.To == txn })
	return impl.EdgesResult{Edges: left}
}

func wantedVictim(cycle, systems []int64) impl.IntResult {
	if len(cycle) == 0 {
		return impl.IntResult{Code: impl.ErrNone}
	}
	falling := slices.Clone(cycle)
	slices.Sort(falling)
	slices.Reverse(falling)
	if falling[0] > 999 || falling[len(falling)-1] < 1 {
		return impl.IntResult{Code: impl.ErrRange}
	}
	if at := slices.IndexFunc(falling, func(txn int64) bool { return slices.Contains(systems, txn) }); at >= 0 {
		return impl.IntResult{Value: falling[at]}
	}
	return impl.IntResult{Value: falling[0]}
}
