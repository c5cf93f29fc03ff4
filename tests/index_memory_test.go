package tests

import (
	"math"
	"reflect"
	"slices"
	"testing"

	"loop.example/g00270/impl"
)

// roomyPairs has pairs with room behind them, so that an append to the argument would be seen there.
func roomyPairs(list []impl.Pair) []impl.Pair {
	whole := append(slices.Clone(list), pairsNamed("9987:87 9988:88 9989:89")...)
	return whole[:len(list)]
}

// oddIndexes has indexes with and without faults.
func oddIndexes() [][]impl.Pair {
	lists := append(someIndexes(), pairsFrom(101), pairsFrom(240), pairsFrom(241), make([]impl.Pair, 240), make([]impl.Pair, 100000))
	for _, text := range []string{"-1:0", "0:100", "2:1 1:2", "1:2 1:1", "1:1 1:1", "1:1 2:1", "5:5 4:6 10000:7", "1:1 2:1 3:100"} {
		lists = append(lists, pairsNamed(text))
	}
	return lists
}

// indexAnswers is all that is told of an index.
type indexAnswers struct {
	fault  int64
	turned []impl.PairsResult
	looked []impl.IntsResult
}

// indexCalls turns some keys, from what the list has of them and from what it may not have.
func indexCalls(list []impl.Pair) indexAnswers {
	got := indexAnswers{fault: impl.IndexFault(list)}
	for _, key := range []int64{-1, 0, 1, 20, 50, 99, 100} {
		olds := []impl.Before{hadNone(key), had(key, 3), {Key: key, Value: 1}}
		if at := slices.IndexFunc(list, func(p impl.Pair) bool { return p.Key == key }); at >= 0 {
			olds = append(olds, had(key, list[at].Value))
		}
		for _, old := range olds {
			for _, now := range []impl.Before{hadNone(key), had(key, 0), had(key, 3), had(key, 9999), had(key, 10000), old} {
				got.turned = append(got.turned, impl.TurnIndex(list, key, old, now))
			}
		}
	}
	for _, value := range []int64{math.MinInt64, -1, 0, 1, 3, 5, 7, 9999, 10000, math.MaxInt64} {
		got.looked = append(got.looked, impl.LookIndex(list, value))
	}
	return got
}

func TestIndexStaysAndAnswersRepeat(t *testing.T) {
	for _, odd := range oddIndexes() {
		list := roomyPairs(odd)
		before := slices.Clone(list[:cap(list)])
		first := indexCalls(list)
		for range 5 {
			if !reflect.DeepEqual(indexCalls(list), first) {
				t.Fatalf("another answer at another call, of %d pairs", len(list))
			}
		}
		if !slices.Equal(list[:cap(list)], before) {
			t.Fatalf("%d pairs are changed: %v", len(list), before)
		}
		if !reflect.DeepEqual(indexCalls(append([]impl.Pair{}, odd...)), first) {
			t.Fatalf("another answer with a list of its own, of %d pairs", len(list))
		}
		for _, got := range first.turned {
			if got.Code != impl.OK && got.Pairs != nil {
				t.Fatalf("pairs beside the code %d", got.Code)
			}
		}
		for _, got := range first.looked {
			if got.Code != impl.OK && got.List != nil {
				t.Fatalf("keys beside the code %d", got.Code)
			}
		}
	}
}

func TestAnswersOfIndexesAreNewMemory(t *testing.T) {
	for _, odd := range oddIndexes() {
		list := roomyPairs(odd)
		before := slices.Clone(list[:cap(list)])
		turned, kept, want := indexCalls(list), indexCalls(list), indexCalls(slices.Clone(list))
		for _, got := range turned.turned {
			clear(got.Pairs[:cap(got.Pairs)])
		}
		for _, got := range turned.looked {
			clear(got.List[:cap(got.List)])
		}
		if !slices.Equal(list[:cap(list)], before) {
			t.Fatalf("%d pairs turned with an answer", len(list))
		}
		clear(list[:cap(list)])
		if !reflect.DeepEqual(kept, want) {
			t.Fatalf("an answer turned with another one or with its %d pairs", len(list))
		}
	}
}

func TestLeavesStayBehindIndexOf(t *testing.T) {
	for _, odd := range oddLeaves() {
		list := roomyLeaves(odd)
		before := keptRows(wholeLeaves(list))
		first := impl.IndexOf(list)
		want := slices.Clone(first.Pairs)
		for range 5 {
			if got := impl.IndexOf(list); !reflect.DeepEqual(got, first) {
				t.Fatalf("another answer at another call, of %d leaves", len(list))
			}
		}
		if first.Code != impl.OK && first.Pairs != nil {
			t.Fatalf("pairs beside the code %d", first.Code)
		}
		second := impl.IndexOf(list)
		clear(first.Pairs[:cap(first.Pairs)])
		if !sameRowLists(wholeLeaves(list), before) {
			t.Fatalf("%d leaves are changed", len(list))
		}
		for _, rows := range wholeLeaves(list) {
			clear(rows)
		}
		if !slices.Equal(second.Pairs, want) {
			t.Fatalf("an answer turned with another one or with its %d leaves", len(list))
		}
	}
}

func TestBothIndexesStayBehindSameIndex(t *testing.T) {
	for _, odd := range oddIndexes() {
		for _, other := range [][]impl.Pair{nil, odd, pairsFrom(100), pairsNamed("1:2 1:1")} {
			a, b := roomyPairs(odd), roomyPairs(other)
			beforeA, beforeB := slices.Clone(a[:cap(a)]), slices.Clone(b[:cap(b)])
			first := impl.SameIndex(a, b)
			if impl.SameIndex(a, b) != first || first != slices.Equal(odd, other) {
				t.Fatalf("SameIndex of %d and %d pairs: %v", len(a), len(b), first)
			}
			if !slices.Equal(a[:cap(a)], beforeA) || !slices.Equal(b[:cap(b)], beforeB) {
				t.Fatalf("SameIndex of %d and %d pairs changed one of them", len(a), len(b))
			}
		}
	}
}
