package tests

import (
	"slices"
	"testing"

	"loop.example/g00270/impl"
)

func TestIndexOfCases(t *testing.T) {
	for _, c := range []struct {
		name string
		list []impl.Leaf
		want string
	}{
		{"no leaves", nil, ""},
		{"no leaves, not nil", []impl.Leaf{}, ""},
		{"one row", []impl.Leaf{leaf(row(5, 7))}, "7:5"},
		{"one row of 0 and 0", []impl.Leaf{leaf(row(0, 0))}, "0:0"},
		{"one row of the greatest", []impl.Leaf{leaf(row(99, 9999))}, "9999:99"},
		{"ghosts alone", []impl.Leaf{leaf(ghost(0), ghost(5)), leaf(ghost(99))}, ""},
		{"a ghost ahead of rows", []impl.Leaf{leaf(ghost(0), row(1, 3), row(2, 2))}, "2:2 3:1"},
		{"a ghost between rows", []impl.Leaf{leaf(row(1, 3), ghost(2)), leaf(row(3, 3))}, "3:1 3:3"},
		{"a ghost beside a value of 0", []impl.Leaf{leaf(row(1, 0), ghost(2), row(3, 0))}, "0:1 0:3"},
		{"values that rise", []impl.Leaf{leaf(row(1, 1), row(2, 2)), leaf(row(3, 3))}, "1:1 2:2 3:3"},
		{"values that fall", []impl.Leaf{leaf(row(1, 3), row(2, 2)), leaf(row(3, 1))}, "1:3 2:2 3:1"},
		{"values alike", []impl.Leaf{leaf(row(1, 4), row(20, 4)), leaf(row(30, 4)), leaf(row(99, 4))}, "4:1 4:20 4:30 4:99"},
		{"values alike about others", []impl.Leaf{leaf(row(1, 4), row(2, 3), row(3, 4), row(4, 5)), leaf(row(5, 3), row(6, 4))}, "3:2 3:5 4:1 4:3 4:6 5:4"},
		{"values of one to four digits", []impl.Leaf{leaf(row(1, 1000), row(2, 999), row(3, 10), row(4, 9))}, "9:4 10:3 999:2 1000:1"},
	} {
		want := impl.PairsResult{Pairs: pairsNamed(c.want)}
		if got := impl.IndexOf(c.list); !samePairs(got, want) {
			t.Errorf("IndexOf, %s: %v, want %v", c.name, got, want)
		}
	}
}

// TestIndexOfLeavesFullOfRows has a row of each key, with values that rise, fall, are all alike, or are alike by turns.
func TestIndexOfLeavesFullOfRows(t *testing.T) {
	for name, valueOf := range map[string]func(int64) int64{
		"rising":   func(key int64) int64 { return key * 101 },
		"falling":  func(key int64) int64 { return 9999 - key },
		"alike":    func(int64) int64 { return 5 },
		"by turns": func(key int64) int64 { return key % 7 },
	} {
		var list []impl.Leaf
		for key := int64(0); key < 100; key += 4 {
			list = append(list, leaf(row(key, valueOf(key)), row(key+1, valueOf(key+1)), row(key+2, valueOf(key+2)), row(key+3, valueOf(key+3))))
		}
		got := impl.IndexOf(list)
		if len(got.Pairs) != 100 || !samePairs(got, wantedIndex(list)) || impl.IndexFault(got.Pairs) != impl.OK {
			t.Errorf("IndexOf of leaves full of rows, %s: %v", name, got)
		}
	}
}

func TestTurnIndexCases(t *testing.T) {
	const most = "1:10 3:20 3:40 5:30 9:50"
	for _, c := range []struct {
		name, list string
		key        int64
		old, now   impl.Before
		want       string
	}{
		{"none, and a value comes", "", 7, hadNone(7), had(7, 70), "70:7"},
		{"none, and 0 of the key 0 comes", "", 0, hadNone(0), had(0, 0), "0:0"},
		{"none, and none comes", "", 7, hadNone(7), hadNone(7), ""},
		{"the only one goes", "70:7", 7, had(7, 70), hadNone(7), ""},
		{"the only one, 0 of the key 0, goes", "0:0", 0, had(0, 0), hadNone(0), ""},
		{"the only one turns", "70:7", 7, had(7, 70), had(7, 0), "0:7"},
		{"the only one stays", "70:7", 7, had(7, 70), had(7, 70), "70:7"},
		{"one comes to the first place", most, 7, hadNone(7), had(7, 0), "0:7 1:10 3:20 3:40 5:30 9:50"},
		{"one comes to a middle place", most, 7, hadNone(7), had(7, 4), "1:10 3:20 3:40 4:7 5:30 9:50"},
		{"one comes to the last place", most, 7, hadNone(7), had(7, 9999), "1:10 3:20 3:40 5:30 9:50 9999:7"},
		{"one comes ahead of a value alike", most, 7, hadNone(7), had(7, 3), "1:10 3:7 3:20 3:40 5:30 9:50"},
		{"one comes between values alike", most, 25, hadNone(25), had(25, 3), "1:10 3:20 3:25 3:40 5:30 9:50"},
		{"one comes behind values alike", most, 70, hadNone(70), had(70, 3), "1:10 3:20 3:40 3:70 5:30 9:50"},
		{"one comes ahead of the first one, alike", most, 9, hadNone(9), had(9, 1), "1:9 1:10 3:20 3:40 5:30 9:50"},
		{"one comes behind the last one, alike", most, 51, hadNone(51), had(51, 9), "1:10 3:20 3:40 5:30 9:50 9:51"},
		{"the first one goes", most, 10, had(10, 1), hadNone(10), "3:20 3:40 5:30 9:50"},
		{"a middle one goes", most, 30, had(30, 5), hadNone(30), "1:10 3:20 3:40 9:50"},
		{"the last one goes", most, 50, had(50, 9), hadNone(50), "1:10 3:20 3:40 5:30"},
		{"the first of values alike goes", most, 20, had(20, 3), hadNone(20), "1:10 3:40 5:30 9:50"},
		{"the last of values alike goes", most, 40, had(40, 3), hadNone(40), "1:10 3:20 5:30 9:50"},
		{"the first one turns, and is the first", most, 10, had(10, 1), had(10, 0), "0:10 3:20 3:40 5:30 9:50"},
		{"the first one becomes a middle one", most, 10, had(10, 1), had(10, 3), "3:10 3:20 3:40 5:30 9:50"},
		{"the first one becomes the last", most, 10, had(10, 1), had(10, 10), "3:20 3:40 5:30 9:50 10:10"},
		{"a middle one becomes the first", most, 30, had(30, 5), had(30, 0), "0:30 1:10 3:20 3:40 9:50"},
		{"a middle one comes between values alike", most, 30, had(30, 5), had(30, 3), "1:10 3:20 3:30 3:40 9:50"},
		{"a middle one becomes the last, alike", most, 30, had(30, 5), had(30, 9), "1:10 3:20 3:40 9:30 9:50"},
		{"the last one becomes the first", most, 50, had(50, 9), had(50, 0), "0:50 1:10 3:20 3:40 5:30"},
		{"the last one becomes the first, alike", most, 50, had(50, 9), had(50, 1), "1:10 1:50 3:20 3:40 5:30"},
		{"the last one turns, and is the last", most, 50, had(50, 9), had(50, 9999), "1:10 3:20 3:40 5:30 9999:50"},
		{"old and now alike, the first", most, 10, had(10, 1), had(10, 1), most},
		{"old and now alike, of values alike", most, 40, had(40, 3), had(40, 3), most},
		{"old and now alike, the last", most, 50, had(50, 9), had(50, 9), most},
		{"old and now alike, without a value", most, 60, hadNone(60), hadNone(60), most},
	} {
		want := impl.PairsResult{Pairs: pairsNamed(c.want)}
		if got := impl.TurnIndex(pairsNamed(c.list), c.key, c.old, c.now); !samePairs(got, want) {
			t.Errorf("TurnIndex, %s: %v, want %v", c.name, got, want)
		}
	}
}

func TestLookIndexCases(t *testing.T) {
	list := pairsNamed("0:99 1:10 3:20 3:40 5:30 9999:50")
	var all []int64
	for key := range int64(100) {
		all = append(all, key)
	}
	for _, c := range []struct {
		name  string
		list  []impl.Pair
		value int64
		want  []int64
	}{
		{"no pairs", nil, 0, nil},
		{"no pairs, not nil", []impl.Pair{}, 9999, nil},
		{"the least value", list, 0, []int64{99}},
		{"a value of one key", list, 1, []int64{10}},
		{"a value of several keys", list, 3, []int64{20, 40}},
		{"a value behind these", list, 5, []int64{30}},
		{"the greatest value", list, 9999, []int64{50}},
		{"a value that none has, between others", list, 2, nil},
		{"a value that none has, just behind several", list, 4, nil},
		{"a value that none has, though it is a key", list, 50, nil},
		{"the least value, which none has", pairsNamed("1:0"), 0, nil},
		{"the greatest value, which none has", pairsNamed("9998:9"), 9999, nil},
		{"a value of the key 0", pairsNamed("0:0"), 0, []int64{0}},
		{"a value of every key", pairsAlike(100, 7), 7, all},
		{"a value beside that of every key", pairsAlike(100, 7), 8, nil},
	} {
		if got := impl.LookIndex(c.list, c.value); !sameInts(got, impl.IntsResult{List: c.want}) {
			t.Errorf("LookIndex, %s: %v, want %v", c.name, got, c.want)
		}
	}
}

func TestSameIndexCases(t *testing.T) {
	const most = "1:10 3:20 3:40"
	for _, c := range []struct {
		name, a, b string
		want       bool
	}{
		{"both empty", "", "", true},
		{"one pair", "1:2", "1:2", true},
		{"several pairs", most, most, true},
		{"one empty", "0:0", "", false},
		{"lengths that differ at the end", most, "1:10 3:20", false},
		{"lengths that differ at the beginning", most, "3:20 3:40", false},
		{"a value that differs, the first", most, "0:10 3:20 3:40", false},
		{"a value that differs, in the middle", most, "1:10 2:20 3:40", false},
		{"a value that differs, the last", most, "1:10 3:20 4:40", false},
		{"a key that differs, the first", most, "1:11 3:20 3:40", false},
		{"a key that differs, in the middle", most, "1:10 3:21 3:40", false},
		{"a key that differs, the last", most, "1:10 3:20 3:41", false},
		{"value and key the other way round", "1:2", "2:1", false},
		{"another order", "1:2 3:4", "3:4 1:2", false},
		{"the same pairs, which are no index: out of bounds", "10000:100 -1:-1", "10000:100 -1:-1", true},
		{"the same pairs, which are no index: one Key", "1:1 2:1", "1:1 2:1", true},
		{"the same pairs, which are no index: one pair twice", "1:1 1:1", "1:1 1:1", true},
		{"one pair once and twice", "1:1 1:1", "1:1", false},
		{"pairs that differ, which are no index", "10000:100", "10000:101", false},
	} {
		a, b := pairsNamed(c.a), pairsNamed(c.b)
		if impl.SameIndex(a, b) != c.want || impl.SameIndex(b, a) != c.want {
			t.Errorf("SameIndex, %s: %v, want %v", c.name, !c.want, c.want)
		}
	}
	if !impl.SameIndex(nil, []impl.Pair{}) || !impl.SameIndex([]impl.Pair{}, nil) {
		t.Error("SameIndex of nil and an empty list: false")
	}
	if !impl.SameIndex(pairsFrom(100000), pairsFrom(100000)) || impl.SameIndex(pairsFrom(100000), pairsFrom(99999)) {
		t.Error("SameIndex of lists far longer than an index")
	}
}

// TestSameIndexOfEveryTwo holds each of some indexes against each other one, and against copies of it in which one number is another one.
func TestSameIndexOfEveryTwo(t *testing.T) {
	lists := someIndexes()
	for _, a := range lists {
		for _, b := range lists {
			if got, want := impl.SameIndex(a, b), slices.Equal(a, b); got != want {
				t.Fatalf("SameIndex of %v and %v: %v", a, b, got)
			}
		}
		for i := range a {
			b := slices.Clone(a)
			b[i].Value ^= 1
			if impl.SameIndex(a, b) {
				t.Fatalf("SameIndex of %v and %v, place %d: true", a, b, i)
			}
			b[i] = a[i]
			if !impl.SameIndex(a, b) {
				t.Fatalf("SameIndex of %v and its copy: false", a)
			}
			b[i].Key ^= 64
			if impl.SameIndex(a, b) {
				t.Fatalf("SameIndex of %v and %v, place %d: true", a, b, i)
			}
		}
	}
}
