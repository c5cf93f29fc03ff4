package tests

import (
	"math"
	"slices"
	"testing"

	"loop.example/g00270/impl"
)

// touchCase is an operation and the keys that it touches, the first and the last one; none where the first is above the last.
type touchCase struct {
	op          impl.Op
	first, last int64
}

func touchCases() []touchCase {
	var cases []touchCase
	for _, c := range []struct {
		op          string
		first, last int64
	}{
		{"get 5", 5, 5}, {"get 0", 0, 0}, {"get 99", 99, 99},
		{"put 5 7", 5, 5}, {"put 7 5", 7, 7}, {"put 0 0", 0, 0}, {"put 99 9999", 99, 99},
		{"delete 5", 5, 5}, {"delete 0", 0, 0}, {"delete 99", 99, 99},
		{"scan 3 7", 3, 7}, {"scan 5 5", 5, 5}, {"scan 0 0", 0, 0}, {"scan 99 99", 99, 99}, {"scan 0 99", 0, 99}, {"scan 1 98", 1, 98}, {"scan 4 5", 4, 5},
		{"scan 7 3", 1, 0}, {"scan 6 5", 1, 0}, {"scan 99 0", 1, 0}, {"scan 1 0", 1, 0},
		{"find 0", 0, 99}, {"find 5", 0, 99}, {"find 9999", 0, 99},
		{"commit", 1, 0}, {"abort", 1, 0}, {"clean 5", 1, 0}, {"clean 0", 1, 0}, {"pack", 1, 0}, {"build", 1, 0},
		{"get 100", 1, 0}, {"get -1", 1, 0}, {"put 5 10000", 1, 0}, {"put 5 -1", 1, 0}, {"put 100 1", 1, 0}, {"delete 100", 1, 0}, {"delete -1", 1, 0},
		{"scan 0 100", 1, 0}, {"scan -1 9", 1, 0}, {"scan 100 100", 1, 0}, {"find 10000", 1, 0}, {"find -1", 1, 0}, {"clean 100", 1, 0},
	} {
		cases = append(cases, touchCase{opNamed(c.op), c.first, c.last})
	}
	for _, o := range []impl.Op{
		{}, {Key: 5}, {Kind: 11, Key: 5}, {Kind: -1, Key: 5}, {Kind: impl.OpGet, Key: 5, High: 5}, {Kind: impl.OpGet, Key: 5, Value: 5}, {Kind: impl.OpPut, Key: 5, High: 5, Value: 5},
		{Kind: impl.OpDelete, Key: 5, Value: 5}, {Kind: impl.OpScan, Key: 3, High: 7, Value: 5}, {Kind: impl.OpFind, Key: 5, Value: 5}, {Kind: impl.OpFind, High: 5, Value: 5},
		{Kind: impl.OpCommit, Key: 5}, {Kind: impl.OpAbort, Key: 5}, {Kind: impl.OpPack, Key: 5}, {Kind: impl.OpBuild, High: 5}, {Kind: impl.OpClean, Key: 5, High: 5},
	} {
		cases = append(cases, touchCase{o, 1, 0})
	}
	return cases
}

func TestTouchesOfCases(t *testing.T) {
	keys := append(wrongKeys(), -99, 128+5, 256+5, 1<<16+5, 1<<32+5, 1<<62+5, -256+5, math.MinInt64+5)
	for key := int64(-3); key <= 103; key++ {
		keys = append(keys, key)
	}
	for _, c := range touchCases() {
		for _, key := range keys {
			want := 0 <= key && key <= 99 && c.first <= key && key <= c.last
			if got := impl.TouchesOf(c.op, key); got != want || wantedTouches(c.op, key) != want {
				t.Errorf("TouchesOf %v, of %d: %v, want %v", c.op, key, got, want)
			}
		}
	}
}

// TestTouchesOfEveryOp has every kind with fields in their bounds and outside of them, and keys so.
func TestTouchesOfEveryOp(t *testing.T) {
	numbers := []int64{math.MinInt64, -1, 0, 1, 5, 98, 99, 100, 9999, 10000, math.MaxInt64}
	touched := map[int64]int{}
	for kind := int64(-1); kind <= 12; kind++ {
		for _, low := range numbers {
			for _, high := range numbers {
				for _, value := range numbers {
					for _, key := range []int64{math.MinInt64, -1, 0, 1, 4, 5, 6, 98, 99, 100, math.MaxInt64} {
						o := impl.Op{Kind: kind, Key: low, High: high, Value: value}
						got := impl.TouchesOf(o, key)
						if got != wantedTouches(o, key) {
							t.Fatalf("TouchesOf %v, of %d: %v", o, key, got)
						}
						if got {
							touched[kind]++
						}
					}
				}
			}
		}
	}
	if len(touched) != 5 {
		t.Errorf("the kinds that touched something: %v", touched)
	}
}

// TestWhatTouchesNeedsALock holds what touches against the locks that are needed: who touches a key has a lock of it or of the whole that does not fit with that of one who writes it.
func TestWhatTouchesNeedsALock(t *testing.T) {
	for _, c := range touchCases() {
		for key := range int64(100) {
			if !impl.TouchesOf(c.op, key) {
				continue
			}
			against := 0
			for _, need := range impl.NeedsOf(c.op).Needs {
				for _, other := range impl.NeedsOf(putOf(key, 1)).Needs {
					if need.Res == other.Res && !impl.FitModes(need.Mode, other.Mode) {
						against++
					}
				}
			}
			if against == 0 {
				t.Errorf("%v touches %d, and could be done beside one who writes it", c.op, key)
			}
		}
	}
}

func TestWritesOfCases(t *testing.T) {
	for _, c := range []struct {
		name, acts string
		txn        int64
		want       []int64
	}{
		{"no acts", "", 1, nil},
		{"one put", "1 put 5 7", 1, []int64{5}},
		{"one delete", "1 delete 5", 1, []int64{5}},
		{"a put of the least key and value", "1 put 0 0", 1, []int64{0}},
		{"a put of the greatest key and value", "999 put 99 9999", 999, []int64{99}},
		{"puts of others alone", "2 put 5 7; 3 delete 6", 1, nil},
		{"none of one whose number another one's begins with", "10 put 5 7; 11 put 6 7; 100 put 7 7", 1, nil},
		{"what others read", "2 put 5 7; 1 get 5 = 7", 1, nil},
		{"what writes nothing", "1 get 1; 1 scan 2 3; 1 find 4; 1 clean 5; 1 pack; 1 build; 1 commit", 1, nil},
		{"an abort", "1 abort", 1, nil},
		{"one key twice, put", "1 put 5 7; 1 put 5 8", 1, []int64{5}},
		{"one key twice, put and deleted", "1 put 5 7; 1 delete 5", 1, []int64{5}},
		{"one key twice, others between", "1 delete 5; 1 put 2 1; 1 put 5 8; 1 put 9 0; 1 delete 5", 1, []int64{2, 5, 9}},
		{"rising", "1 put 1 1; 1 delete 2; 1 put 3 1", 1, []int64{1, 2, 3}},
		{"falling", "1 put 30 1; 1 delete 20; 1 put 4 1; 1 delete 0", 1, []int64{0, 4, 20, 30}},
		{"as they come", "1 put 10 1; 1 delete 9; 1 put 99 1; 1 delete 11; 1 put 0 1", 1, []int64{0, 9, 10, 11, 99}},
		{"those of others between", "1 put 5 1; 2 put 6 1; 1 put 4 1; 2 put 5 1; 3 delete 4", 1, []int64{4, 5}},
		{"those of the other one", "1 put 5 1; 2 put 6 1; 1 put 4 1; 2 put 5 1; 3 delete 4", 2, []int64{5, 6}},
		{"those of the last one", "1 put 5 1; 2 put 6 1; 1 put 4 1; 2 put 5 1; 3 delete 4", 3, []int64{4}},
		{"those of nobody", "1 put 5 1; 2 put 6 1; 1 put 4 1; 2 put 5 1; 3 delete 4", 4, nil},
		{"of one that committed", "1 put 5 1; 1 commit", 1, []int64{5}},
		{"of one that aborted", "1 put 5 1; 1 delete 4; 1 abort", 1, []int64{4, 5}},
		{"behind its end", "1 commit; 1 put 5 1", 1, []int64{5}},
		{"a value is no key", "1 put 5 70; 1 put 6 80", 1, []int64{5, 6}},
	} {
		if got := writes(t, actsNamed(c.acts), c.txn); !same(got, impl.IntsResult{List: c.want}) {
			t.Errorf("WritesOf, %s: %v, want %v", c.name, got, c.want)
		}
	}
}

// TestWritesOfEveryKey has one write every key, falling, twice.
func TestWritesOfEveryKey(t *testing.T) {
	var acts []impl.Act
	for key := int64(99); key >= 0; key-- {
		acts = append(acts, act(7, putOf(key, 1)), act(7, impl.Op{Kind: impl.OpDelete, Key: 99 - key}))
	}
	if got := writes(t, acts, 7); got.Code != impl.OK || !slices.Equal(got.List, numbersTo(0, 99)) {
		t.Errorf("WritesOf one that wrote every key: %v", got)
	}
}

// laterOps has what another one may do behind a write of the key 5, and whether it touches that key.
func laterOps() map[string]bool {
	return map[string]bool{
		"get 5": true, "put 5 2": true, "delete 5": true, "scan 0 9": true, "scan 5 5": true, "scan 5 9": true, "scan 0 5": true, "scan 0 99": true, "find 1": true, "find 9999": true,
		"get 4": false, "get 6": false, "put 4 2": false, "put 6 5": false, "delete 4": false, "delete 6": false, "scan 6 9": false, "scan 0 4": false, "scan 9 0": false, "scan 6 5": false,
		"commit": false, "abort": false, "clean 5": false, "clean 6": false, "pack": false, "build": false,
	}
}

// TestStrictActsBehindAWrite has each kind of operation of another one behind a write, with an end of the first one between and without one.
func TestStrictActsBehindAWrite(t *testing.T) {
	ends := map[string]bool{
		"": false, "1 get 5 = 1": false, "1 put 50 1": false, "1 scan 0 9": false, "3 get 9": false, "3 commit": false, "3 abort": false, "2 get 9": false, "11 commit": false, "1 put 5 2": false, "1 delete 5": false, "1 pack": false,
		"1 commit": true, "1 abort": true, "1 put 9 1; 1 commit": true, "3 get 9; 1 abort; 3 get 5": true, "1 delete 5; 1 commit": true,
	}
	for _, first := range []string{"1 put 5 1", "1 delete 5"} {
		for between, ended := range ends {
			for later, touches := range laterOps() {
				text := first + "; " + between + "; 2 " + later
				if got, want := strict(t, actsNamed(text)), ended || !touches; got != want {
					t.Errorf("StrictActs of %q: %v, want %v", text, got, want)
				}
				behind := "4 get 7; 2 get 5 = 3; " + text + "; 4 get 8"
				if got, want := strict(t, actsNamed(behind)), ended || !touches; got != want {
					t.Errorf("StrictActs of %q: %v, want %v", behind, got, want)
				}
			}
		}
	}
}

// TestStrictActsOfOneAlone: who wrote a key may do anything to it, up to its end.
func TestStrictActsOfOneAlone(t *testing.T) {
	for _, first := range []string{"1 put 5 1", "1 delete 5", "1 get 5 = 7", "1 scan 0 9", "1 find 1", "1 clean 5", "1 pack", "1 build"} {
		for later := range laterOps() {
			for end, want := range map[string]bool{"": true, "1 commit; ": false, "1 abort; ": false, "2 commit; ": true} {
				if got := strict(t, actsNamed(first+"; "+end+"1 "+later)); got != want {
					t.Errorf("StrictActs of %q, %q and %q of the same one: %v, want %v", first, end, later, got, want)
				}
			}
		}
	}
}

func TestStrictActsCases(t *testing.T) {
	for _, c := range []struct {
		name, acts string
		want       bool
	}{
		{"no acts", "", true},
		{"one act", "1 put 5 1", true},
		{"a commit alone", "1 commit", true},
		{"an abort alone", "1 abort", true},
		{"two commits of one", "1 commit; 1 commit", false},
		{"two aborts of one", "1 abort; 1 abort", false},
		{"a commit, then an abort of one", "1 commit; 1 abort", false},
		{"an abort, then a commit of one", "1 abort; 1 commit", false},
		{"ends of several", "1 commit; 2 abort; 3 commit", true},
		{"ends of several, one again much later", "1 commit; 2 abort; 3 commit; 4 get 5; 2 get 5", false},
		{"an act of the system behind its end", "1 commit; 1 pack", false},
		{"what is read ahead of a write by another one", "2 get 5; 1 put 5 1; 1 commit; 2 get 5 = 1", true},
		{"what is read ahead of a write, and again", "2 get 5; 1 put 5 1; 2 get 5; 1 commit", false},
		{"what is written ahead of a write", "2 put 5 2; 1 put 5 1", false},
		{"what is written and ended ahead of a write", "2 put 5 2; 2 commit; 1 put 5 1; 1 commit", true},
		{"two write two keys", "1 put 5 1; 2 put 6 1; 1 commit; 2 commit", true},
		{"two write two keys, and read each other's", "1 put 5 1; 2 put 6 1; 1 get 6; 2 get 5", false},
		{"two write two keys, the second is read", "1 put 5 1; 2 put 6 1; 1 get 6", false},
		{"two write two keys, one ends, the other one's is read", "1 put 5 1; 2 put 6 1; 1 commit; 3 get 5 = 1; 3 get 6", false},
		{"two write two keys, one ends, its own is read", "1 put 5 1; 2 put 6 1; 1 commit; 3 get 5 = 1; 2 get 5 = 1", true},
		{"the end of another one frees nothing", "1 put 5 1; 2 commit; 3 get 5", false},
		{"an end ahead of the write frees nothing", "2 abort; 1 put 5 1; 3 get 5", false},
		{"a scan around", "1 put 5 1; 2 scan 4 6", false},
		{"a scan just behind", "1 put 5 1; 2 scan 6 9", true},
		{"a scan just ahead", "1 put 5 1; 2 scan 0 4", true},
		{"a scan that goes the other way", "1 put 5 1; 2 scan 6 4", true},
		{"a find of another value", "1 put 5 1; 2 find 77", false},
		{"a find behind the end", "1 put 5 1; 1 abort; 2 find 1", true},
		{"a find ahead of the write", "2 find 1; 1 put 5 1", true},
		{"what reads is no write", "1 get 5; 2 put 5 1", true},
		{"what scans is no write", "1 scan 0 9; 1 find 3; 2 put 5 1", true},
		{"what tidies up is no write", "1 clean 5; 1 pack; 1 build; 2 get 5; 2 put 5 1", true},
		{"a get of a put key, in the midst of many", "1 put 5 1; 2 get 1; 3 get 2; 4 get 3; 5 get 4; 6 get 5", false},
		{"the first key", "1 put 0 1; 2 get 0", false},
		{"the last key", "1 delete 99; 2 scan 99 99", false},
		{"the greatest transaction", "999 put 5 1; 998 get 5", false},
		{"the greatest transaction ended", "999 put 5 1; 999 commit; 998 get 5 = 1", true},
		{"a write once ended, then of another one", "1 put 5 1; 1 commit; 2 put 5 2; 3 get 5", false},
		{"a write once ended, then of another one that ends", "1 put 5 1; 1 commit; 2 put 5 2; 2 abort; 3 get 5 = 1", true},
		{"what was told is not asked", "1 put 5 1; 1 commit; 2 get 5 = 77 78 79; 2 commit = 3", true},
		{"three in a row", "1 put 5 1; 1 commit; 2 put 5 2; 2 commit; 3 delete 5; 3 commit; 4 get 5", true},
		{"the second of two writes of one", "1 put 4 1; 1 put 5 1; 2 get 5", false},
		{"the first of two writes of one", "1 put 4 1; 1 put 5 1; 2 get 4", false},
	} {
		if got := strict(t, actsNamed(c.acts)); got != c.want {
			t.Errorf("StrictActs, %s: %v, want %v", c.name, got, c.want)
		}
	}
}
