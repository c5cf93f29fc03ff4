package tests

import (
	"math"
	"reflect"
	"slices"
	"testing"

	"loop.example/g00270/impl"
)

// checkIndexFault asks the others too, with arguments that have faults of their own, which come behind the index's.
func checkIndexFault(t *testing.T, name string, list []impl.Pair, want int64) {
	t.Helper()
	if got := impl.IndexFault(list); got != want {
		t.Fatalf("IndexFault, %s: %d, want %d", name, got, want)
	}
	if want == impl.OK {
		return
	}
	for _, value := range []int64{0, 1, impl.MaxValue, -1, impl.MaxValue + 1, math.MinInt64} {
		if got := impl.LookIndex(list, value); !reflect.DeepEqual(got, impl.IntsResult{Code: want}) {
			t.Fatalf("LookIndex of %d, %s: %v, want the code %d", value, name, got, want)
		}
	}
	for _, key := range []int64{1, 0, -1, impl.MaxKey + 1} {
		for _, old := range []impl.Before{had(1, 1), hadNone(1), {Key: 1, Value: 1}, had(1, 10000), had(key, 0)} {
			for _, now := range []impl.Before{had(1, 2), hadNone(1), {Key: 1, Value: 1}, had(100, 1)} {
				if got := impl.TurnIndex(list, key, old, now); !reflect.DeepEqual(got, impl.PairsResult{Code: want}) {
					t.Fatalf("TurnIndex of %d, %v, %v, %s: %v, want the code %d", key, old, now, name, got, want)
				}
			}
		}
	}
}

// checkIndexOfFault asks what takes leaves that have a fault.
func checkIndexOfFault(t *testing.T, name string, list []impl.Leaf, want int64) {
	t.Helper()
	if got := impl.IndexOf(list); !reflect.DeepEqual(got, impl.PairsResult{Code: want}) {
		t.Fatalf("IndexOf, %s: %v, want the code %d", name, got, want)
	}
}

func TestIndexFaultOfMany(t *testing.T) {
	wrong, first := impl.Pair{Value: 10000}, impl.Pair{Value: -1}
	for _, c := range []struct {
		name string
		list []impl.Pair
		want int64
	}{
		{"none", nil, impl.OK},
		{"none, not nil", []impl.Pair{}, impl.OK},
		{"as many as there are keys", pairsFrom(100), impl.OK},
		{"as many as there are keys, of one value", pairsAlike(100, 9999), impl.OK},
		{"one more than there are keys", pairsFrom(101), impl.ErrTaken},
		{"240, which cannot have keys of their own", pairsFrom(240), impl.ErrTaken},
		{"240, the last one out of bounds", append(pairsFrom(239), wrong), impl.ErrRange},
		{"240, the last one not behind the one ahead", append(pairsFrom(239), impl.Pair{Value: 238}), impl.ErrForm},
		{"240, all alike", make([]impl.Pair, 240), impl.ErrForm},
		{"241", pairsFrom(241), impl.ErrMany},
		{"241, the first one out of bounds", append([]impl.Pair{first}, pairsFrom(240)...), impl.ErrMany},
		{"241, the last one out of bounds", append(pairsFrom(240), wrong), impl.ErrMany},
		{"241, all alike", make([]impl.Pair, 241), impl.ErrMany},
		{"far too many", make([]impl.Pair, 100000), impl.ErrMany},
	} {
		checkIndexFault(t, c.name, c.list, c.want)
	}
}

func TestIndexFaultCases(t *testing.T) {
	for _, c := range []struct {
		name, list string
		want       int64
	}{
		{"a value just at its lower bound", "0:5", impl.OK},
		{"a value just at its upper bound", "9999:5", impl.OK},
		{"a value below", "-1:5", impl.ErrRange},
		{"a value above", "10000:5", impl.ErrRange},
		{"a key just at its lower bound", "5:0", impl.OK},
		{"a key just at its upper bound", "5:99", impl.OK},
		{"a key below", "5:-1", impl.ErrRange},
		{"a key above", "5:100", impl.ErrRange},
		{"a value that would be a key's, the other way round", "99:0", impl.OK},
		{"a key that would be a value", "0:9999", impl.ErrRange},
		{"values that rise, keys that rise", "1:1 2:2 3:3", impl.OK},
		{"values that rise, keys that fall", "1:3 2:2 3:1", impl.OK},
		{"values alike, keys that rise", "1:1 1:2 1:99", impl.OK},
		{"a value that falls", "2:1 1:2", impl.ErrForm},
		{"a value that falls at the end", "1:1 2:2 3:3 2:4", impl.ErrForm},
		{"a value that falls, its key too", "2:2 1:1", impl.ErrForm},
		{"a value that falls, of one key", "2:1 1:1", impl.ErrForm},
		{"a value alike with a key that falls", "1:2 1:1", impl.ErrForm},
		{"a value alike with a key that falls at the end", "0:9 1:1 1:3 1:2", impl.ErrForm},
		{"a pair twice", "1:1 1:1", impl.ErrForm},
		{"a pair of noughts twice", "0:0 0:0", impl.ErrForm},
		{"a pair twice at the end", "1:1 2:2 2:2", impl.ErrForm},
		{"a pair twice, another one between", "1:1 2:2 1:1", impl.ErrForm},
		{"a key twice, side by side", "1:1 2:1", impl.ErrTaken},
		{"a key twice, the first and the last", "1:1 2:2 3:3 4:1", impl.ErrTaken},
		{"a key twice, in the middle", "1:1 2:5 2:6 3:5 4:9", impl.ErrTaken},
		{"the key 0 twice", "0:0 1:0", impl.ErrTaken},
		{"the key 99 twice", "0:99 9999:99", impl.ErrTaken},
		{"a key three times", "1:7 2:7 3:7", impl.ErrTaken},
		{"out of bounds, and not behind the one ahead", "5:5 -1:5", impl.ErrRange},
		{"a key out of bounds, and not behind the one ahead", "5:5 5:-1", impl.ErrRange},
		{"not behind the one ahead, then out of bounds", "5:5 4:6 10000:7", impl.ErrForm},
		{"out of bounds, then not behind the one ahead", "5:5 10000:6 4:7", impl.ErrRange},
		{"a key twice, then out of bounds", "1:1 2:1 3:100", impl.ErrRange},
		{"a key twice, then not behind the one ahead", "1:1 2:1 2:0", impl.ErrForm},
		{"a key twice, the other one not behind", "1:1 3:2 2:1", impl.ErrForm},
		{"a key twice, and it is none", "1:100 2:100", impl.ErrRange},
	} {
		checkIndexFault(t, c.name, pairsNamed(c.list), c.want)
	}
}

// TestIndexFaultOfWrongNumbers has each wrong number alone, and at each place among pairs that are right.
func TestIndexFaultOfWrongNumbers(t *testing.T) {
	var wrong []impl.Pair
	for _, value := range wrongValues() {
		wrong = append(wrong, impl.Pair{Value: value, Key: 50})
	}
	for _, key := range wrongKeys() {
		wrong = append(wrong, impl.Pair{Value: 50, Key: key})
	}
	right := pairsNamed("1:10 3:20 3:40 5:30")
	for _, p := range wrong {
		checkIndexFault(t, "a wrong number", []impl.Pair{p}, impl.ErrRange)
		for at := range len(right) + 1 {
			checkIndexFault(t, "a wrong number among others", slices.Insert(slices.Clone(right), at, p), impl.ErrRange)
		}
	}
}

// TestIndexFaultOfEveryThree has each of some pairs, right and wrong ones, ahead of each other one and a third.
func TestIndexFaultOfEveryThree(t *testing.T) {
	codes := map[int64]int{}
	each := pairsNamed("0:0 0:1 0:99 1:0 1:1 1:2 2:0 2:1 9998:5 9999:0 9999:99 -1:0 0:-1 10000:0 9999:100 1:100 100:1")
	for _, first := range each {
		for _, second := range each {
			for _, third := range each {
				for _, list := range [][]impl.Pair{{first}, {first, second}, {first, second, third}} {
					want := wantedIndexFault(list)
					checkIndexFault(t, "of three", list, want)
					codes[want]++
				}
			}
		}
	}
	for _, code := range []int64{impl.OK, impl.ErrForm, impl.ErrRange, impl.ErrTaken} {
		if codes[code] == 0 {
			t.Errorf("the code %d never came: %v", code, codes)
		}
	}
}

// TestKeyTwiceAtEveryTwoPlaces gives two places of an index of all keys one key.
func TestKeyTwiceAtEveryTwoPlaces(t *testing.T) {
	for i := range 100 {
		for j := range i {
			list := pairsFrom(100)
			list[i].Key = list[j].Key
			if got := impl.IndexFault(list); got != impl.ErrTaken {
				t.Fatalf("IndexFault, the key of %d at %d: %d, want ErrTaken", j, i, got)
			}
		}
	}
}

func checkTurnCode(t *testing.T, name string, list []impl.Pair, key int64, old, now impl.Before, want int64) {
	t.Helper()
	got := impl.TurnIndex(list, key, old, now)
	if want == impl.OK && got.Code != impl.OK || want != impl.OK && !reflect.DeepEqual(got, impl.PairsResult{Code: want}) {
		t.Fatalf("TurnIndex of %v, %d, %v, %v, %s: %v, want the code %d", list, key, old, now, name, got, want)
	}
}

func TestTurnIndexCodes(t *testing.T) {
	formless := impl.Before{Key: 20, Value: 1}
	list := pairsNamed("1:10 3:20 3:40 5:30")
	for _, c := range []struct {
		name     string
		key      int64
		old, now impl.Before
		want     int64
	}{
		{"nothing wrong", 20, had(20, 3), had(20, 4), impl.OK},
		{"old out of bounds", 20, had(20, 10000), had(20, 4), impl.ErrRange},
		{"now out of bounds", 20, had(20, 3), had(20, 10000), impl.ErrRange},
		{"old of a wrong form", 20, formless, had(20, 4), impl.ErrForm},
		{"now of a wrong form", 20, had(20, 3), formless, impl.ErrForm},
		{"old of a wrong form, now out of bounds", 20, formless, had(20, 10000), impl.ErrForm},
		{"old out of bounds, now of a wrong form", 20, had(20, -1), formless, impl.ErrRange},
		{"old of a wrong form and out of bounds", 20, impl.Before{Key: 20, Value: 10000}, had(20, 4), impl.ErrRange},
		{"now of a wrong form and out of bounds", 20, had(20, 3), impl.Before{Key: 20, Value: -1}, impl.ErrRange},
		{"now out of bounds, ahead of another key", 20, had(10, 1), had(20, 10000), impl.ErrRange},
		{"a key of now that is none, ahead of another key", 20, had(10, 1), had(100, 1), impl.ErrRange},
		{"now out of bounds, ahead of a pair that is not there", 20, had(20, 9), had(20, 10000), impl.ErrRange},
		{"now out of bounds, ahead of a pair that is there", 20, hadNone(20), had(20, 10000), impl.ErrRange},
		{"the key of old is another one", 20, had(10, 1), had(20, 4), impl.ErrForm},
		{"the key of now is another one", 20, had(20, 3), had(10, 4), impl.ErrForm},
		{"the keys of both are another one", 20, had(10, 1), had(10, 4), impl.ErrForm},
		{"the keys of both are other ones", 20, had(10, 1), had(40, 4), impl.ErrForm},
		{"both without a value, the key of old another one", 60, hadNone(61), hadNone(60), impl.ErrForm},
		{"both without a value, the key of now another one", 60, hadNone(60), hadNone(61), impl.ErrForm},
		{"another key, ahead of a pair that is not there", 20, had(10, 9), had(20, 4), impl.ErrForm},
		{"another key of now, ahead of a pair that is not there", 20, had(20, 9), had(10, 4), impl.ErrForm},
		{"another key, ahead of a pair that is there", 20, hadNone(20), had(10, 4), impl.ErrForm},
		{"a key that is none, which old and now cannot have", 100, had(20, 3), had(20, 4), impl.ErrForm},
		{"a key below, which old and now cannot have", -1, hadNone(0), hadNone(0), impl.ErrForm},
		{"a key that is none, and old has it", 100, had(100, 3), had(20, 4), impl.ErrRange},
		{"a key that is none, and now has it", -1, had(20, 3), had(-1, 4), impl.ErrRange},
		{"a key that is none, and both have it", 100, hadNone(100), hadNone(100), impl.ErrRange},
		{"old had a value, and no pair is of the key", 60, had(60, 3), had(60, 4), impl.ErrNone},
		{"old had a value, and none comes, and no pair is of the key", 60, had(60, 3), hadNone(60), impl.ErrNone},
		{"old had 0, and no pair is of the key", 0, had(0, 0), hadNone(0), impl.ErrNone},
		{"old had a lesser value than there is", 20, had(20, 2), had(20, 4), impl.ErrNone},
		{"old had a greater value than there is", 20, had(20, 4), had(20, 4), impl.ErrNone},
		{"old had the value of another key", 20, had(20, 5), hadNone(20), impl.ErrNone},
		{"old had another value, and now has what there is", 20, had(20, 5), had(20, 3), impl.ErrNone},
		{"old had none, and there is a pair", 20, hadNone(20), had(20, 4), impl.ErrTaken},
		{"old had none, and there is just that of now", 20, hadNone(20), had(20, 3), impl.ErrTaken},
		{"neither had one, and there is a pair", 20, hadNone(20), hadNone(20), impl.ErrTaken},
		{"old had none, and there is a pair in the first place", 10, hadNone(10), hadNone(10), impl.ErrTaken},
		{"old had none, and there is a pair in the last place", 30, hadNone(30), had(30, 9), impl.ErrTaken},
		{"neither had one, and there is none", 60, hadNone(60), hadNone(60), impl.OK},
	} {
		checkTurnCode(t, c.name, list, c.key, c.old, c.now, c.want)
	}
	zero := pairsNamed("0:0")
	checkTurnCode(t, "a pair of noughts, and old had none", zero, 0, hadNone(0), had(0, 1), impl.ErrTaken)
	checkTurnCode(t, "a pair of noughts, and old had 1", zero, 0, had(0, 1), had(0, 0), impl.ErrNone)
	checkTurnCode(t, "a pair of noughts, and old had it", zero, 0, had(0, 0), had(0, 1), impl.OK)
	checkTurnCode(t, "no pairs, and old had one", nil, 0, had(0, 0), had(0, 0), impl.ErrNone)
}

// TestTurnIndexOfEveryTwo has each of some, with and without faults, as old and as now, about some keys.
func TestTurnIndexOfEveryTwo(t *testing.T) {
	odd := append(oddBefores(), had(20, 3), had(20, 4), hadNone(20), had(50, 0), had(50, 9999), hadNone(50))
	codes := map[int64]int{}
	for _, list := range [][]impl.Pair{nil, pairsNamed("0:0"), pairsNamed("3:20 70:7"), pairsNamed("0:50 3:20 9999:99"), pairsNamed("2:1 1:2"), pairsNamed("1:7 2:7")} {
		for _, key := range append(wrongKeys(), 0, 7, 20, 50, 99) {
			for _, old := range odd {
				for _, now := range odd {
					got, want := impl.TurnIndex(list, key, old, now), wantedTurn(list, key, old, now)
					if !samePairs(got, want) {
						t.Fatalf("TurnIndex of %v, %d, %v, %v: %v, want %v", list, key, old, now, got, want)
					}
					codes[got.Code]++
				}
			}
		}
	}
	for _, code := range []int64{impl.OK, impl.ErrForm, impl.ErrRange, impl.ErrNone, impl.ErrTaken} {
		if codes[code] == 0 {
			t.Errorf("the code %d never came: %v", code, codes)
		}
	}
}

func TestTurnIndexOfWrongNumbers(t *testing.T) {
	for _, list := range someIndexes() {
		for _, key := range wrongKeys() {
			checkTurnCode(t, "a wrong key", list, key, hadNone(7), hadNone(7), impl.ErrForm)
			checkTurnCode(t, "a wrong key, and old has it", list, key, hadNone(key), hadNone(7), impl.ErrRange)
			checkTurnCode(t, "a wrong key, and now has it", list, key, hadNone(7), hadNone(key), impl.ErrRange)
			checkTurnCode(t, "a wrong key, and both have it", list, key, had(key, 1), had(key, 2), impl.ErrRange)
			checkTurnCode(t, "a wrong key of old", list, 7, had(key, 1), had(7, 2), impl.ErrRange)
			checkTurnCode(t, "a wrong key of now", list, 7, had(7, 1), had(key, 2), impl.ErrRange)
		}
		for _, value := range wrongValues() {
			checkTurnCode(t, "a wrong value of old", list, 7, had(7, value), had(7, 2), impl.ErrRange)
			checkTurnCode(t, "a wrong value of now", list, 7, had(7, 1), had(7, value), impl.ErrRange)
			checkTurnCode(t, "a wrong value that old had not", list, 7, impl.Before{Key: 7, Value: value}, hadNone(7), impl.ErrRange)
			checkTurnCode(t, "a wrong value that now has not", list, 7, hadNone(7), impl.Before{Key: 7, Value: value}, impl.ErrRange)
		}
	}
}

func TestLookIndexOfWrongValues(t *testing.T) {
	for _, list := range someIndexes() {
		for _, value := range wrongValues() {
			if got := impl.LookIndex(list, value); !reflect.DeepEqual(got, impl.IntsResult{Code: impl.ErrRange}) {
				t.Fatalf("LookIndex of %d in %v: %v, want ErrRange", value, list, got)
			}
		}
		for _, value := range []int64{0, impl.MaxValue} {
			if got := impl.LookIndex(list, value); got.Code != impl.OK {
				t.Fatalf("LookIndex of %d in %v: %v", value, list, got)
			}
		}
	}
}
