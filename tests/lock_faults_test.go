package tests

import (
	"math"
	"reflect"
	"testing"

	"loop.example/g00270/impl"
)

// wrongTxns, wrongRes and wrongModes have numbers out of their bounds, just and far; some are within, if bits or the sign of them are lost.
func wrongTxns() []int64 {
	return []int64{math.MinInt64, math.MinInt64 + 1, -1<<32 + 1, -999, -1, 0, 1000, 1001, 1024 + 1, 1<<16 + 1, 1<<32 + 1, 1<<62 + 1, math.MaxInt64}
}

func wrongRes() []int64 {
	return []int64{math.MinInt64, math.MinInt64 + 5, -1<<32 + 5, -100, -5, -1, 101, 102, 128 + 5, 256 + 5, 1<<16 + 5, 1<<32 + 5, 1<<62 + 5, math.MaxInt64}
}

func wrongModes() []int64 {
	return append(noModes(), impl.ModeNone)
}

// checkLockCode asks all that takes locks, which must answer the code and nothing beside it.
func checkLockCode(t *testing.T, name string, list []impl.Lock, txn, res, mode, want int64) {
	t.Helper()
	if got := impl.AskLock(list, txn, res, mode); !reflect.DeepEqual(got, impl.LockResult{Code: want}) {
		t.Fatalf("AskLock of %d for %d in mode %d, %s: %v, want the code %d", txn, res, mode, name, got, want)
	}
	if got := impl.FreeLocks(list, txn); !reflect.DeepEqual(got, impl.LockResult{Code: want}) {
		t.Fatalf("FreeLocks of %d, %s: %v, want the code %d", txn, name, got, want)
	}
	if got := impl.ModeOf(list, txn, res); got != (impl.IntResult{Code: want}) {
		t.Fatalf("ModeOf %d at %d, %s: %v, want the code %d", txn, res, name, got, want)
	}
	if got := impl.WaitsAt(list, txn); got != (impl.IntResult{Code: want}) {
		t.Fatalf("WaitsAt of %d, %s: %v, want the code %d", txn, name, got, want)
	}
	if got := impl.ResOf(list, txn); !reflect.DeepEqual(got, impl.IntsResult{Code: want}) {
		t.Fatalf("ResOf %d, %s: %v, want the code %d", txn, name, got, want)
	}
}

// checkLocksFault asks the others too, with arguments that have faults of their own, which come behind the locks'.
func checkLocksFault(t *testing.T, name string, list []impl.Lock, want int64) {
	t.Helper()
	if got := impl.LocksFault(list); got != want {
		t.Fatalf("LocksFault, %s: %d, want %d", name, got, want)
	}
	if want == impl.OK {
		return
	}
	for _, txn := range []int64{1, 2, 999, 0, 1000, math.MinInt64} {
		checkLockCode(t, name, list, txn, 5, impl.ModeS, want)
		checkLockCode(t, name, list, txn, 0, impl.ModeX, want)
		checkLockCode(t, name, list, txn, 101, 6, want)
		checkLockCode(t, name, list, txn, math.MinInt64, math.MaxInt64, want)
	}
}

type faultCase struct {
	name string
	text string
	want int64
}

func checkFaultCases(t *testing.T, cases []faultCase) {
	t.Helper()
	for _, c := range cases {
		checkLocksFault(t, c.name, locksOf(c.text), c.want)
		if got := wantedLocksFault(locksOf(c.text)); got != c.want {
			t.Errorf("%s: %d is wanted elsewhere, %d here", c.name, got, c.want)
		}
	}
}

func TestLocksFaultOfNumbers(t *testing.T) {
	checkFaultCases(t, []faultCase{
		{"no locks", "", 0},
		{"the least of all", "0 1:is", 0},
		{"the greatest of all", "100 999:x 998?x", 0},
		{"a resource below", "-1 1:s", impl.ErrRange},
		{"a resource above", "101 1:s", impl.ErrRange},
		{"a resource above behind another one", "100 1:s | 101 1:s", impl.ErrRange},
		{"a resource below behind another one", "5 1:s | -1 1:s", impl.ErrRange},
		{"resources alike", "5 1:s | 5 2:s", impl.ErrForm},
		{"resources that fall", "5 1:s | 4 2:s", impl.ErrForm},
		{"a last resource that is not above", "0 1:s | 1 1:s | 1 1:s", impl.ErrForm},
		{"holds as many as there may be", "5 " + manyOf(1, 20, ":s"), 0},
		{"one hold too many", "5 " + manyOf(1, 21, ":s"), impl.ErrMany},
		{"a queue as long as may be", "5 1:x " + manyOf(2, 20, "?s"), 0},
		{"one too many in the queue", "5 1:x " + manyOf(2, 21, "?s"), impl.ErrMany},
		{"a transaction 0 that holds", "5 0:s", impl.ErrRange},
		{"a transaction above that holds", "5 1:s 1000:s", impl.ErrRange},
		{"a transaction 0 that waits", "5 1:x 0?s", impl.ErrRange},
		{"a transaction above that waits", "5 1:x 2?s 1000?s", impl.ErrRange},
		{"a hold of no mode", "5 1:none", impl.ErrRange},
		{"a hold of a mode above", "5 1:6", impl.ErrRange},
		{"a hold of a mode below", "5 1:is 2:-1", impl.ErrRange},
		{"one waits for no mode", "5 1:x 2?none", impl.ErrRange},
		{"one waits for a mode above", "5 1:x 2?s 3?6", impl.ErrRange},
		{"one waits for a mode below", "5 1:x 2?-1", impl.ErrRange},
		{"one holds twice", "5 1:s 1:s", impl.ErrTaken},
		{"one holds twice, in two modes", "5 1:is 2:is 1:ix", impl.ErrTaken},
		{"one waits twice", "5 1:x 2?s 2?s", impl.ErrTaken},
		{"one waits twice, in two modes", "5 1:x 2?s 3?s 2?x", impl.ErrTaken},
		{"one holds twice in two locks", "5 1:s | 6 1:s", 0},
	})
}

func TestLocksFaultOfForm(t *testing.T) {
	full := manyOf(1, 20, ":is")
	checkFaultCases(t, []faultCase{
		{"two that do not fit", "5 1:s 2:ix", impl.ErrForm},
		{"the first and the last do not fit", "5 1:x 2:is", impl.ErrForm},
		{"two of three do not fit", "5 1:is 2:six 3:s", impl.ErrForm},
		{"neither holds nor a queue", "5", impl.ErrForm},
		{"neither, behind another lock", "5 1:s | 6", impl.ErrForm},
		{"neither, ahead of another lock", "5 | 6 1:s", impl.ErrForm},
		{"a queue alone", "5 1?s", impl.ErrForm},
		{"one converts", "5 1:s 2:s 1?x", 0},
		{"two convert", "5 1:s 2:s 2?x 1?six", 0},
		{"one converts ahead of others", "5 1:s 2:s 1?x 3?s", 0},
		{"one converts behind one that does not", "5 1:s 2:s 3?x 1?x", impl.ErrForm},
		{"one converts behind one that does not, the last", "5 1:s 2:s 1?x 3?s 4?s 2?x", impl.ErrForm},
		{"one converts to what it holds", "5 1:s 2:s 1?s", impl.ErrForm},
		{"one converts to what it holds, behind another one", "5 1:s 2:s 2?x 1?s", impl.ErrForm},
		{"one converts to less", "5 1:s 2:s 2?x 1?is", impl.ErrForm},
		{"one converts to what is neither more nor less", "5 1:s 2:s 1?ix", impl.ErrForm},
		{"one converts to the other that is neither", "5 1:ix 2:ix 1?s", impl.ErrForm},
		{"one converts behind another one to what is neither", "5 1:s 2:s 2?x 1?ix", impl.ErrForm},
		{"a head that waits", "5 1:s 2?ix", 0},
		{"a head that fits", "5 1:s 2?s", impl.ErrForm},
		{"a head that fits, others behind", "5 1:s 2?is 3?x", impl.ErrForm},
		{"one behind the head would fit", "5 1:s 2?x 3?is", 0},
		{"a head that converts and fits", "5 1:is 1?x", impl.ErrForm},
		{"a head that converts and fits beside others", "5 1:is 2:is 1?six 3?x", impl.ErrForm},
		{"a head that would fit but for holds", "5 " + full + " 21?is", 0},
		{"a head that would fit but for holds, others behind", "5 " + full + " 21?ix 22?x", 0},
		{"a head with one place left", "5 " + manyOf(1, 19, ":is") + " 21?is", impl.ErrForm},
		{"a head that converts needs no place", "5 " + full + " 20?ix", impl.ErrForm},
		{"a head that converts and waits among many", "5 " + full + " 20?x", 0},
	})
}

func TestLocksFaultOfTwoWaits(t *testing.T) {
	checkFaultCases(t, []faultCase{
		{"at two locks", "5 1:x 2?s | 6 1:x 2?s", impl.ErrState},
		{"at two locks apart", "5 1:x 2?s | 6 1:x | 7 1:x 3?s 2?x", impl.ErrState},
		{"at two locks, converting at one", "5 1:s 2:s 2?x | 6 1:x 2?s", impl.ErrState},
		{"at two locks, converting at both", "5 1:s 2:s 2?x | 6 1:s 2:s 2?x", impl.ErrState},
		{"at one, holding others", "4 2:x | 5 1:x 2?s | 6 2:x", 0},
		{"two at two", "5 1:x 2?s | 6 2:x 1?s", 0},
		{"behind a lock of wrong form", "5 1:x 2?s | 6 1:x 2?s | 7", impl.ErrForm},
		{"behind a resource above", "5 1:x 2?s | 6 1:x 2?s | 101 1:s", impl.ErrRange},
		{"behind one that holds twice", "5 1:x 2?s | 6 1:x 2?s | 7 1:s 1:s", impl.ErrTaken},
		{"behind too many holds", "5 1:x 2?s | 6 1:x 2?s | 7 " + manyOf(1, 21, ":s"), impl.ErrMany},
	})
}

func TestLocksFaultInOrder(t *testing.T) {
	many := manyOf(1, 21, ":x")
	checkFaultCases(t, []faultCase{
		{"a resource above, and all else", "200 1:s | 101 0:x 0:x " + many, impl.ErrRange},
		{"a resource that falls, ahead of too many", "5 1:s | 4 0:9 " + many, impl.ErrForm},
		{"too many ahead of a wrong transaction", "5 0:s " + many, impl.ErrMany},
		{"too many in the queue ahead of a wrong hold", "5 0:9 " + manyOf(1, 21, "?s"), impl.ErrMany},
		{"a wrong mode ahead of one twice", "5 1:s 1:6", impl.ErrRange},
		{"a wrong one in the queue ahead of one twice among holds", "5 1:s 1:s 2?0", impl.ErrRange},
		{"a wrong hold ahead of one twice in the queue", "5 1:0 2?s 2?s", impl.ErrRange},
		{"one twice among holds ahead of no fit", "5 1:s 2:x 1:s", impl.ErrTaken},
		{"one twice in the queue ahead of a head that fits", "5 1:s 2?s 2?s", impl.ErrTaken},
		{"one twice in the queue ahead of no fit", "5 1:s 3:x 2?x 2?x", impl.ErrTaken},
		{"form in the first, range in the second", "5 1:s 2:ix | 101 1:s", impl.ErrForm},
		{"range in the first, form in the second", "5 0:s | 5 1:s", impl.ErrRange},
		{"taken in the first, range in the second", "5 1:s 1:s | -1 1:s", impl.ErrTaken},
		{"taken in the first, many in the second", "5 1:s 1:s | 6 " + many, impl.ErrTaken},
		{"many in the first, form in the second", "5 " + many + " | 5 1:s", impl.ErrMany},
		{"a head that fits in the first, a wrong mode in the second", "5 1:s 2?s | 6 1:9", impl.ErrForm},
		{"neither in the first, many in the second", "5 | 6 " + many, impl.ErrForm},
		{"form in the second, range in the third", "5 1:s | 6 1:s 2:x | 7 0:s", impl.ErrForm},
	})
}

func TestLocksFaultOfWrongNumbers(t *testing.T) {
	for _, res := range wrongRes() {
		checkLocksFault(t, "a wrong resource", []impl.Lock{{Res: res, Holds: []impl.Hold{{Txn: 1, Mode: 1}}}}, impl.ErrRange)
	}
	good := impl.Hold{Txn: 1, Mode: impl.ModeX}
	var wrong []impl.Hold
	for _, txn := range wrongTxns() {
		wrong = append(wrong, impl.Hold{Txn: txn, Mode: impl.ModeS})
	}
	for _, mode := range wrongModes() {
		wrong = append(wrong, impl.Hold{Txn: 2, Mode: mode})
	}
	for _, h := range wrong {
		checkLocksFault(t, "a wrong hold", []impl.Lock{{Res: 5, Holds: []impl.Hold{h}}}, impl.ErrRange)
		checkLocksFault(t, "a wrong hold behind another one", []impl.Lock{{Res: 5, Holds: []impl.Hold{good, h}}}, impl.ErrRange)
		checkLocksFault(t, "a wrong one that waits", []impl.Lock{{Res: 5, Holds: []impl.Hold{good}, Queue: []impl.Hold{h}}}, impl.ErrRange)
	}
	checkLocksFault(t, "far too many locks", make([]impl.Lock, 100000), impl.ErrForm)
	checkLocksFault(t, "far too many holds", []impl.Lock{{Holds: make([]impl.Hold, 100000)}}, impl.ErrMany)
	checkLocksFault(t, "far too many in the queue", []impl.Lock{{Holds: []impl.Hold{good}, Queue: make([]impl.Hold, 100000)}}, impl.ErrMany)
}

// TestLocksFaultOfEveryLock has every holds and every queue of three transactions, in every order and mode.
func TestLocksFaultOfEveryLock(t *testing.T) {
	all := holdsOf(3)
	for _, holds := range all {
		for _, queue := range all {
			list := []impl.Lock{{Res: 5, Holds: holds, Queue: queue}}
			if got, want := impl.LocksFault(list), wantedLocksFault(list); got != want {
				t.Fatalf("LocksFault of %v: %d, want %d", list, got, want)
			}
		}
	}
}

// TestLocksFaultOfEveryThree has each of some locks, right and wrong ones, ahead of each other one and a third.
func TestLocksFaultOfEveryThree(t *testing.T) {
	var each []impl.Lock
	for _, text := range []string{
		"0 1:s", "1 1:x 2?s", "2 1:x 2?x 3?s", "3 4:s 3:s 3?x", "100 2:x", "-1 1:s", "101 1:s", "2", "1 " + manyOf(1, 21, ":s"),
		"3 0:s", "2 1:6", "1 1:s 1:s", "3 1:x 2?s 2?s", "2 1:s 2:x", "3 1:s 2?s", "1 1:s 2:s 3?x 1?x", "2 1:s 2:s 2?ix",
	} {
		each = append(each, locksOf(text)...)
	}
	for _, first := range each {
		checkLocksFault(t, "one lock", []impl.Lock{first}, wantedLocksFault([]impl.Lock{first}))
		for _, second := range each {
			for _, third := range each {
				for _, list := range [][]impl.Lock{{first, second}, {first, second, third}} {
					checkLocksFault(t, "some locks", list, wantedLocksFault(list))
				}
			}
		}
	}
}

func TestWrongNumbersForLocks(t *testing.T) {
	for _, list := range someLocks() {
		for _, txn := range wrongTxns() {
			checkLockCode(t, "a wrong transaction", list, txn, 5, impl.ModeS, impl.ErrRange)
			checkLockCode(t, "a wrong transaction and all else", list, txn, 101, 6, impl.ErrRange)
		}
		for txn := int64(1); txn <= 45; txn++ {
			for _, res := range wrongRes() {
				ask, mode := impl.AskLock(list, txn, res, impl.ModeS), impl.ModeOf(list, txn, res)
				if !reflect.DeepEqual(ask, impl.LockResult{Code: impl.ErrRange}) || mode != (impl.IntResult{Code: impl.ErrRange}) {
					t.Fatalf("the resource %d of %d, %v: %v, %v", res, txn, list, ask, mode)
				}
			}
			for _, mode := range wrongModes() {
				for _, res := range []int64{0, 5, 100} {
					if got := impl.AskLock(list, txn, res, mode); !reflect.DeepEqual(got, impl.LockResult{Code: impl.ErrRange}) {
						t.Fatalf("the mode %d of %d at %d, %v: %v", mode, txn, res, list, got)
					}
				}
			}
		}
	}
}
