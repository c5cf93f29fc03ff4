package tests

import (
	"slices"
	"testing"

	"loop.example/g00270/impl"
)

// askCase has what is asked of which locks, the code, and without one whether it is granted, and the locks then.
type askCase struct {
	name    string
	before  string
	txn     int64
	res     int64
	mode    string
	code    int64
	granted bool
	after   string
}

func checkAskCases(t *testing.T, cases []askCase) {
	t.Helper()
	for _, c := range cases {
		want := impl.LockResult{Code: c.code, Granted: c.granted, Locks: locksOf(c.after)}
		if got := impl.AskLock(locksOf(c.before), c.txn, c.res, modeNamed(c.mode)); !sameLockResult(got, want) {
			t.Errorf("AskLock, %s: %v, want %v", c.name, got, want)
		}
	}
}

func TestAskLockOfOneThatHoldsEnough(t *testing.T) {
	checkAskCases(t, []askCase{
		{"the same mode", "5 1:s", 1, 5, "s", 0, true, "5 1:s"},
		{"a lesser mode", "5 1:six", 1, 5, "ix", 0, true, "5 1:six"},
		{"under x", "5 1:x", 1, 5, "is", 0, true, "5 1:x"},
		{"while others wait", "5 1:x 2?x 3?is", 1, 5, "s", 0, true, "5 1:x 2?x 3?is"},
		{"while others convert", "5 1:s 2:s 2?x", 1, 5, "s", 0, true, "5 1:s 2:s 2?x"},
		{"beside other locks", "4 1:is | 5 1:x 2?s | 6 3:x", 1, 5, "x", 0, true, "4 1:is | 5 1:x 2?s | 6 3:x"},
		{"with as many as there may be", "5 " + manyOf(1, 20, ":is"), 20, 5, "is", 0, true, "5 " + manyOf(1, 20, ":is")},
		{"with a full queue", "5 1:x " + manyOf(2, 20, "?is"), 1, 5, "is", 0, true, "5 1:x " + manyOf(2, 20, "?is")},
	})
}

func TestAskLockOfOneThatGetsMore(t *testing.T) {
	checkAskCases(t, []askCase{
		{"alone", "5 1:is", 1, 5, "x", 0, true, "5 1:x"},
		{"the joint mode of s and ix", "5 1:s", 1, 5, "ix", 0, true, "5 1:six"},
		{"the joint mode of ix and s", "5 1:ix", 1, 5, "s", 0, true, "5 1:six"},
		{"in its place, the first", "5 1:is 2:is 3:is", 1, 5, "ix", 0, true, "5 1:ix 2:is 3:is"},
		{"in its place, between", "5 1:is 2:is 3:is", 2, 5, "six", 0, true, "5 1:is 2:six 3:is"},
		{"in its place, the last", "5 1:is 2:is 3:is", 3, 5, "s", 0, true, "5 1:is 2:is 3:s"},
		{"while others wait", "5 1:is 2:is 3?x", 1, 5, "ix", 0, true, "5 1:ix 2:is 3?x"},
		{"while others convert", "5 1:is 2:is 3:is 2?x", 1, 5, "ix", 0, true, "5 1:ix 2:is 3:is 2?x"},
		{"with as many as there may be", "5 " + manyOf(1, 20, ":is"), 20, 5, "ix", 0, true, "5 " + manyOf(1, 19, ":is") + " 20:ix"},
		{"with a full queue", "5 1:s " + manyOf(2, 20, "?ix"), 1, 5, "x", 0, true, "5 1:x " + manyOf(2, 20, "?ix")},
		{"with both full", "5 " + manyOf(1, 20, ":is") + " " + manyOf(21, 20, "?x"), 7, 5, "s", 0, true,
			"5 " + manyOf(1, 6, ":is") + " 7:s " + manyOf(8, 13, ":is") + " " + manyOf(21, 20, "?x")},
	})
}

func TestAskLockOfOneThatConvertsAndWaits(t *testing.T) {
	checkAskCases(t, []askCase{
		{"with an empty queue", "5 1:s 2:s", 1, 5, "x", 0, false, "5 1:s 2:s 1?x"},
		{"the joint mode", "5 1:s 2:s", 2, 5, "ix", 0, false, "5 1:s 2:s 2?six"},
		{"the other joint mode", "5 1:ix 2:ix", 2, 5, "s", 0, false, "5 1:ix 2:ix 2?six"},
		{"ahead of one that does not convert", "5 1:s 2:s 3?x", 1, 5, "x", 0, false, "5 1:s 2:s 1?x 3?x"},
		{"ahead of all that do not", "5 1:s 2:s 3?x 4?is 5?is", 2, 5, "x", 0, false, "5 1:s 2:s 2?x 3?x 4?is 5?is"},
		{"behind one that converts", "5 1:s 2:s 1?x", 2, 5, "x", 0, false, "5 1:s 2:s 1?x 2?x"},
		{"behind all that convert, ahead of the others", "5 1:s 2:s 3:s 3?x 1?x 4?is 5?x", 2, 5, "six", 0, false, "5 1:s 2:s 3:s 3?x 1?x 2?six 4?is 5?x"},
		{"with one place in the queue", "5 1:s 2:s " + manyOf(3, 19, "?ix"), 1, 5, "x", 0, false, "5 1:s 2:s 1?x " + manyOf(3, 19, "?ix")},
		{"with none in the queue", "5 1:s 2:s " + manyOf(3, 20, "?ix"), 1, 5, "x", impl.ErrMany, false, ""},
		{"with none among many that convert", "5 " + manyOf(1, 20, ":s") + " " + manyOf(1, 19, "?x") + " 21?x", 20, 5, "x", impl.ErrMany, false, ""},
		{"the last of as many as there may be", "5 " + manyOf(1, 20, ":s") + " " + manyOf(1, 19, "?x"), 20, 5, "x", 0, false, "5 " + manyOf(1, 20, ":s") + " " + manyOf(1, 20, "?x")},
		{"while it holds others", "4 1:x | 5 1:is 2:ix | 6 1:x", 1, 5, "s", 0, false, "4 1:x | 5 1:is 2:ix 1?s | 6 1:x"},
	})
}

func TestAskLockOfOneThatIsNew(t *testing.T) {
	checkAskCases(t, []askCase{
		{"no locks at all", "", 1, 5, "x", 0, true, "5 1:x"},
		{"the least resource", "", 999, 0, "is", 0, true, "0 999:is"},
		{"the greatest resource", "", 1, 100, "s", 0, true, "100 1:s"},
		{"a resource ahead of others", "5 1:x | 7 2:x", 3, 4, "s", 0, true, "4 3:s | 5 1:x | 7 2:x"},
		{"a resource between", "5 1:x | 7 2:x", 3, 6, "s", 0, true, "5 1:x | 6 3:s | 7 2:x"},
		{"a resource behind", "5 1:x | 7 2:x", 1, 8, "s", 0, true, "5 1:x | 7 2:x | 8 1:s"},
		{"fits with all", "5 2:is 1:ix", 3, 5, "ix", 0, true, "5 2:is 1:ix 3:ix"},
		{"does not fit with the first", "5 1:s 2:is", 3, 5, "ix", 0, false, "5 1:s 2:is 3?ix"},
		{"does not fit with the last", "5 1:is 2:s", 3, 5, "ix", 0, false, "5 1:is 2:s 3?ix"},
		{"fits, but somebody waits", "5 1:s 2?x", 3, 5, "s", 0, false, "5 1:s 2?x 3?s"},
		{"fits, but somebody converts", "5 1:s 2:s 1?x", 3, 5, "s", 0, false, "5 1:s 2:s 1?x 3?s"},
		{"behind all", "5 1:s 2:s 1?x 4?x 9?is", 3, 5, "x", 0, false, "5 1:s 2:s 1?x 4?x 9?is 3?x"},
		{"the last place among holds", "5 " + manyOf(1, 19, ":s"), 20, 5, "s", 0, true, "5 " + manyOf(1, 20, ":s")},
		{"no place among holds", "5 " + manyOf(1, 20, ":s"), 21, 5, "s", impl.ErrMany, false, ""},
		{"no place, but it does not fit", "5 " + manyOf(1, 20, ":s"), 21, 5, "x", 0, false, "5 " + manyOf(1, 20, ":s") + " 21?x"},
		{"no place, but somebody waits", "5 " + manyOf(1, 20, ":s") + " 21?x", 22, 5, "s", 0, false, "5 " + manyOf(1, 20, ":s") + " 21?x 22?s"},
		{"no place, and the head waits for that alone", "5 " + manyOf(1, 20, ":s") + " 21?s", 22, 5, "s", 0, false, "5 " + manyOf(1, 20, ":s") + " 21?s 22?s"},
		{"the last place in the queue", "5 1:x " + manyOf(2, 19, "?s"), 21, 5, "s", 0, false, "5 1:x " + manyOf(2, 20, "?s")},
		{"no place in the queue", "5 1:x " + manyOf(2, 20, "?s"), 22, 5, "s", impl.ErrMany, false, ""},
		{"no place in the queue, and it would fit", "5 1:is 2:is 1?x " + manyOf(3, 19, "?s"), 22, 5, "is", impl.ErrMany, false, ""},
		{"a full lock of another resource", "5 " + manyOf(1, 20, ":s") + " " + manyOf(21, 20, "?x"), 41, 6, "x", 0, true,
			"5 " + manyOf(1, 20, ":s") + " " + manyOf(21, 20, "?x") + " | 6 41:x"},
		{"one that holds other locks", "4 3:x | 5 1:x", 3, 5, "s", 0, false, "4 3:x | 5 1:x 3?s"},
	})
}

func TestAskLockOfOneThatWaits(t *testing.T) {
	checkAskCases(t, []askCase{
		{"for the same again", "5 1:x 2?s", 2, 5, "s", impl.ErrState, false, ""},
		{"for more of the same", "5 1:x 2?s", 2, 5, "x", impl.ErrState, false, ""},
		{"for another resource", "5 1:x 2?s", 2, 6, "is", impl.ErrState, false, ""},
		{"for one of others", "5 1:x 2?s | 6 3:is", 2, 6, "is", impl.ErrState, false, ""},
		{"what it holds already", "4 2:x | 5 1:x 2?s", 2, 4, "is", impl.ErrState, false, ""},
		{"what it converts from", "5 1:s 2:s 2?x", 2, 5, "s", impl.ErrState, false, ""},
		{"the last of many", "5 1:x " + manyOf(2, 20, "?is"), 21, 5, "is", impl.ErrState, false, ""},
		{"at the last lock", "5 1:x | 100 1:x 2?s", 2, 0, "is", impl.ErrState, false, ""},
		{"a wrong mode comes first", "5 1:x 2?s", 2, 5, "0", impl.ErrRange, false, ""},
		{"a wrong resource comes first", "5 1:x 2?s", 2, 101, "s", impl.ErrRange, false, ""},
	})
}

func TestFreeLocksCases(t *testing.T) {
	full := "5 " + manyOf(1, 20, ":is")
	for _, c := range []struct {
		name   string
		before string
		txn    int64
		list   []int64
		after  string
	}{
		{"no locks", "", 1, nil, ""},
		{"one that has none", "5 1:x 2?s", 3, nil, "5 1:x 2?s"},
		{"the only one", "5 1:x", 1, nil, ""},
		{"all its locks", "3 1:x | 4 1:is 2:is | 5 1:s", 1, nil, "4 2:is"},
		{"the next one holds", "5 1:x 2?x 3?x", 1, []int64{2}, "5 2:x 3?x"},
		{"all that fit hold", "5 1:x 3?s 2?is 4?s", 1, []int64{3, 2, 4}, "5 3:s 2:is 4:s"},
		{"up to the first that does not fit", "5 1:x 3?s 2?x 4?s", 1, []int64{3}, "5 3:s 2?x 4?s"},
		{"behind those that hold", "5 9:is 1:ix 3?s 2?s", 1, []int64{3, 2}, "5 9:is 3:s 2:s"},
		{"one that was in nobody's way", "5 2:s 1:s 3:is 2?x 4?is", 3, nil, "5 2:s 1:s 2?x 4?is"},
		{"who converts alone then", "5 2:s 1:s 2?x 4?is", 1, []int64{2}, "5 2:x 4?is"},
		{"two that convert", "5 7:is 2:is 1:ix 3:is 2?s 3?s", 1, []int64{2, 3}, "5 7:is 2:s 3:s"},
		{"who converts, then others", "5 2:is 1:ix 2?s 4?s 5?x", 1, []int64{2, 4}, "5 2:s 4:s 5?x"},
		{"who waits at the head is gone", "5 1:s 2?x 3?s 4?is", 2, []int64{3, 4}, "5 1:s 3:s 4:is"},
		{"who waits behind is gone", "5 1:s 2?x 3?s", 3, nil, "5 1:s 2?x"},
		{"who converts is gone", "5 1:s 2:s 1?x 3?s", 1, []int64{3}, "5 2:s 3:s"},
		{"who converts, and another one does", "5 1:s 2:s 1?x 2?x", 1, []int64{2}, "5 2:x"},
		{"lock by lock, rising", "3 1:x 9?s 8?s | 4 1:x 2?x | 7 1:x | 8 1:x 5?is 4?is", 1, []int64{9, 8, 2, 5, 4}, "3 9:s 8:s | 4 2:x | 8 5:is 4:is"},
		{"holds one, waits at another", "3 1:x 2?s | 4 3:s 1?x 4?s", 1, []int64{2, 4}, "3 2:s | 4 3:s 4:s"},
		{"others wait on", "3 1:x | 4 3:s 2?x 4?s", 1, nil, "4 3:s 2?x 4?s"},
		{"one place among holds is free", full + " 21?is 22?is", 7, []int64{21}, "5 " + manyOf(1, 6, ":is") + " " + manyOf(8, 14, ":is") + " 22?is"},
		{"no place among holds is free", full + " 21?x 22?is", 21, nil, full + " 22?is"},
		{"no place is needed to convert", full + " 1?x", 21, nil, full + " 1?x"},
		{"who converts among as many as there may be", "5 1:ix " + manyOf(2, 19, ":is") + " 2?s 30?is", 1, []int64{2, 30}, "5 2:s " + manyOf(3, 18, ":is") + " 30:is"},
		{"no more than there may be", "5 1:x " + manyOf(2, 20, "?is"), 1, manyTxns(2, 20), "5 " + manyOf(2, 20, ":is")},
	} {
		want := impl.LockResult{List: c.list, Locks: locksOf(c.after)}
		if got := impl.FreeLocks(locksOf(c.before), c.txn); !sameLockResult(got, want) {
			t.Errorf("FreeLocks, %s: %v, want %v", c.name, got, want)
		}
	}
}

func manyTxns(first, count int64) []int64 {
	var list []int64
	for txn := first; txn < first+count; txn++ {
		list = append(list, txn)
	}
	return list
}

func TestLooksCases(t *testing.T) {
	list := locksOf("0 1:is 2:ix | 3 1:s 2?x 4?is | 7 2:s 1:is 3:is 1?x | 100 2:x 3?s")
	for _, c := range []struct {
		txn   int64
		res   []int64
		waits impl.IntResult
		modes map[int64]int64
	}{
		{1, []int64{0, 3, 7}, impl.IntResult{Value: 7}, map[int64]int64{0: impl.ModeIs, 3: impl.ModeS, 7: impl.ModeIs}},
		{2, []int64{0, 7, 100}, impl.IntResult{Value: 3}, map[int64]int64{0: impl.ModeIx, 7: impl.ModeS, 100: impl.ModeX}},
		{3, []int64{7}, impl.IntResult{Value: 100}, map[int64]int64{7: impl.ModeIs}},
		{4, nil, impl.IntResult{Value: 3}, nil},
		{5, nil, impl.IntResult{Code: impl.ErrNone}, nil},
		{999, nil, impl.IntResult{Code: impl.ErrNone}, nil},
	} {
		if got := impl.ResOf(list, c.txn); got.Code != impl.OK || !slices.Equal(got.List, c.res) {
			t.Errorf("ResOf %d: %v, want %v", c.txn, got, c.res)
		}
		if got := impl.WaitsAt(list, c.txn); got != c.waits {
			t.Errorf("WaitsAt of %d: %v, want %v", c.txn, got, c.waits)
		}
		for res := range int64(101) {
			if got := impl.ModeOf(list, c.txn, res); got != (impl.IntResult{Value: c.modes[res]}) {
				t.Errorf("ModeOf %d at %d: %v, want %d", c.txn, res, got, c.modes[res])
			}
		}
	}
	if got := impl.WaitsAt(locksOf("0 1:x 2?is"), 2); got != (impl.IntResult{}) {
		t.Errorf("WaitsAt of one that waits at the resource 0: %v", got)
	}
}
