package tests

import (
	"slices"
	"strings"

	"loop.example/g00270/impl"
)

// pairsNamed reads pairs from a text, Value ahead of Key: "3:1 3:2 9:0". Numbers may be any.
func pairsNamed(text string) []impl.Pair {
	var pairs []impl.Pair
	for _, word := range strings.Fields(text) {
		value, key, _ := strings.Cut(word, ":")
		pairs = append(pairs, impl.Pair{Value: numberOf(value), Key: numberOf(key)})
	}
	return pairs
}

// pairsFrom has count pairs that stand in order, their keys from 0 on; there are no more than 100 keys, so that behind these they begin anew.
func pairsFrom(count int64) []impl.Pair {
	var pairs []impl.Pair
	for i := range count {
		pairs = append(pairs, impl.Pair{Value: i, Key: i % 100})
	}
	return pairs
}

// pairsAlike has count pairs of one value, their keys from 0 on.
func pairsAlike(count, value int64) []impl.Pair {
	var pairs []impl.Pair
	for key := range count {
		pairs = append(pairs, impl.Pair{Value: value, Key: key})
	}
	return pairs
}

// someIndexes has indexes without faults: of no pairs, of one, of values alike, of as many pairs as there are keys, and those of some leaves.
func someIndexes() [][]impl.Pair {
	lists := [][]impl.Pair{{}, pairsFrom(100), pairsAlike(100, 0), pairsAlike(100, 9999)}
	for _, text := range []string{
		"", "0:0", "9999:99", "0:99", "9999:0", "7:7", "0:0 0:99", "0:99 9999:0", "3:1 3:2 9:0", "3:9 4:8 5:7 6:6",
		"0:50 1:10 1:20 1:30 2:40 2:60 9998:0 9999:1 9999:99",
	} {
		lists = append(lists, pairsNamed(text))
	}
	for _, leaves := range someLeaves() {
		lists = append(lists, wantedIndex(leaves).Pairs)
	}
	return lists
}

func samePairs(a, b impl.PairsResult) bool {
	return a.Code == b.Code && slices.Equal(a.Pairs, b.Pairs)
}

// standsBehind tells by the document alone whether a pair stands behind another one.
func standsBehind(p, ahead impl.Pair) bool {
	return p.Value > ahead.Value || p.Value == ahead.Value && p.Key > ahead.Key
}

// wantedIndexFault, wantedIndex, wantedTurn and wantedLook tell by the document alone what is answered.
func wantedIndexFault(list []impl.Pair) int64 {
	if len(list) > 240 {
		return impl.ErrMany
	}
	for i, p := range list {
		switch {
		case p.Value < 0 || p.Value > 9999 || p.Key < 0 || p.Key > 99:
			return impl.ErrRange
		case i > 0 && !standsBehind(p, list[i-1]):
			return impl.ErrForm
		}
	}
	for i, p := range list {
		for _, other := range list[:i] {
			if p.Key == other.Key {
				return impl.ErrTaken
			}
		}
	}
	return impl.OK
}

// wantedIndex leans on the rows' standing in the order of their keys: of values alike they stay in it.
func wantedIndex(list []impl.Leaf) impl.PairsResult {
	if code := wantedLeavesFault(list); code != impl.OK {
		return impl.PairsResult{Code: code}
	}
	var want impl.PairsResult
	for _, r := range rowsIn(list) {
		if !r.Ghost {
			want.Pairs = append(want.Pairs, impl.Pair{Value: r.Value, Key: r.Key})
		}
	}
	slices.SortStableFunc(want.Pairs, func(a, b impl.Pair) int { return int(a.Value - b.Value) })
	return want
}

func wantedTurn(list []impl.Pair, key int64, old, now impl.Before) impl.PairsResult {
	code := wantedIndexFault(list)
	if code == impl.OK {
		code = wantedBeforesFault([]impl.Before{old, now})
	}
	if code == impl.OK && (old.Key != key || now.Key != key) {
		code = impl.ErrForm
	}
	gone := impl.Pair{Value: old.Value, Key: key}
	if code == impl.OK && old.Had && !slices.Contains(list, gone) {
		code = impl.ErrNone
	}
	if code == impl.OK && !old.Had && slices.ContainsFunc(list, func(p impl.Pair) bool { return p.Key == key }) {
		code = impl.ErrTaken
	}
	if code != impl.OK {
		return impl.PairsResult{Code: code}
	}
	left := slices.DeleteFunc(slices.Clone(list), func(p impl.Pair) bool { return old.Had && p == gone })
	if !now.Had {
		return impl.PairsResult{Pairs: left}
	}
	come := impl.Pair{Value: now.Value, Key: key}
	at := 0
	for at < len(left) && standsBehind(come, left[at]) {
		at++
	}
	return impl.PairsResult{Pairs: slices.Insert(left, at, come)}
}

func wantedLook(list []impl.Pair, value int64) impl.IntsResult {
	if code := wantedIndexFault(list); code != impl.OK {
		return impl.IntsResult{Code: code}
	}
	if value < 0 || value > 9999 {
		return impl.IntsResult{Code: impl.ErrRange}
	}
	var want impl.IntsResult
	for key := range int64(100) {
		if slices.Contains(list, impl.Pair{Value: value, Key: key}) {
			want.List = append(want.List, key)
		}
	}
	return want
}
