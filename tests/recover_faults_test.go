package tests

import (
	"bytes"
	"math"
	"slices"
	"testing"

	"loop.example/g00270/impl"
)

// oddBases has rows with every code of their own, and with none.
func oddBases() [][]impl.Row {
	bases := [][]impl.Row{nil, {}, {ghost(5)}, {row(1, 1), ghost(5)}, manyGhosts(100), rowsNamed("1:10 5:50")}
	for _, c := range rowsCases() {
		bases = append(bases, c.rows)
	}
	return bases
}

// checkRecsCode asks all that take records; with a code they tell it alone, whatever the base is.
func checkRecsCode(t *testing.T, name string, recs []impl.Rec, want int64) {
	t.Helper()
	if code := wantedRecsCode(recs); code != want {
		t.Fatalf("what is leant on elsewhere tells %d, %s, want %d", code, name, want)
	}
	losers, committed := impl.LosersOf(recs), impl.CommittedOf(recs)
	if want == impl.OK {
		redo(t, nil, recs)
		if losers.Code != impl.OK || committed.Code != impl.OK {
			t.Fatalf("%s: the codes %d and %d, want none", name, losers.Code, committed.Code)
		}
		return
	}
	if !same(losers, impl.IntsResult{Code: want}) || !same(committed, impl.IntsResult{Code: want}) {
		t.Fatalf("%s: LosersOf %v, CommittedOf %v, want the code %d", name, losers, committed, want)
	}
	for _, base := range oddBases() {
		if got := impl.RedoRows(base, recs); !same(got, impl.RecoverResult{Code: want}) {
			t.Fatalf("RedoRows of %d rows, %s: %v, want the code %d", len(base), name, got, want)
		}
	}
}

func repeatedRec(r impl.Rec, count int) []impl.Rec {
	var recs []impl.Rec
	for range count {
		recs = append(recs, r)
	}
	return recs
}

func TestRecsCodes(t *testing.T) {
	begin, wild := plain(impl.LogBegin, 1), plain(impl.LogCommit, 1000)
	set := change(impl.LogSet, 1, 5, some{true, 50}, some{true, 7})
	for _, c := range []struct {
		name string
		recs []impl.Rec
		want int64
	}{
		{"none", nil, impl.OK},
		{"799", repeatedRec(begin, 799), impl.OK},
		{"800", repeatedRec(begin, 800), impl.OK},
		{"800 that change something", repeatedRec(set, 800), impl.OK},
		{"801", repeatedRec(begin, 801), impl.ErrMany},
		{"801 that change something", repeatedRec(set, 801), impl.ErrMany},
		{"very many", repeatedRec(begin, 100000), impl.ErrMany},
		{"801 of no kind", make([]impl.Rec, 801), impl.ErrMany},
		{"800 of no kind", make([]impl.Rec, 800), impl.ErrForm},
		{"801, the first one out of bounds", append([]impl.Rec{wild}, repeatedRec(begin, 800)...), impl.ErrMany},
		{"800, the first one out of bounds", append([]impl.Rec{wild}, repeatedRec(begin, 799)...), impl.ErrRange},
		{"800, the last one out of bounds", append(repeatedRec(begin, 799), wild), impl.ErrRange},
		{"800, one between of no kind", slices.Concat(repeatedRec(set, 400), make([]impl.Rec, 1), repeatedRec(set, 399)), impl.ErrForm},
		{"one of no kind, then one out of bounds", []impl.Rec{begin, {}, wild}, impl.ErrForm},
		{"one out of bounds, then one of no kind", []impl.Rec{begin, wild, {}}, impl.ErrRange},
		{"one with a field that it has not, then one out of bounds", []impl.Rec{{Kind: impl.LogEnd, Txn: 1, Has: true}, wild}, impl.ErrForm},
		{"one out of bounds, then one with a field that it has not", []impl.Rec{wild, {Kind: impl.LogEnd, Txn: 1, Has: true}}, impl.ErrRange},
		{"one of no kind and out of bounds", []impl.Rec{{Kind: 6, Txn: 1000}}, impl.ErrForm},
		{"one out of bounds with a field that it has not", []impl.Rec{{Kind: impl.LogBegin, Txn: 0, Had: true}}, impl.ErrRange},
		{"an old value where it had none", []impl.Rec{set, {Kind: impl.LogSet, Txn: 1, Old: 1}}, impl.ErrForm},
		{"a new value where it has none", []impl.Rec{set, {Kind: impl.LogBack, Txn: 1, New: 1}}, impl.ErrForm},
		{"an old value where it had none, a key out of bounds", []impl.Rec{set, {Kind: impl.LogSet, Txn: 1, Key: 100, Old: 1}}, impl.ErrRange},
	} {
		checkRecsCode(t, c.name, c.recs, c.want)
	}
}

// TestRecsOutOfBounds has each number of a record leave its bounds, alone, ahead of others and behind them.
func TestRecsOutOfBounds(t *testing.T) {
	check := func(r impl.Rec, want int64) {
		t.Helper()
		for _, recs := range [][]impl.Rec{{r}, {r, {}}, {r, plain(impl.LogCommit, 0)}, append(recsNamed("begin 1; set 1 5 50 7"), r)} {
			if code := wantedRecsCode(recs); code != want {
				t.Fatalf("what is leant on elsewhere tells %d of %v, want %d", code, recs, want)
			}
			losers, committed := impl.LosersOf(recs), impl.CommittedOf(recs)
			if !same(losers, impl.IntsResult{Code: want}) || !same(committed, impl.IntsResult{Code: want}) {
				t.Fatalf("LosersOf and CommittedOf %v: %v and %v, want the code %d", recs, losers, committed, want)
			}
			for _, base := range [][]impl.Row{nil, {ghost(5)}, {row(100, 0)}} {
				if got := impl.RedoRows(base, recs); !same(got, impl.RecoverResult{Code: want}) {
					t.Fatalf("RedoRows of %v and %v: %v, want the code %d", base, recs, got, want)
				}
			}
		}
	}
	for _, kind := range append(wrongKinds(), 6, 7, 10) {
		check(plain(kind, 1), impl.ErrForm)
		check(plain(kind, 1000), impl.ErrForm)
	}
	for kind := int64(impl.LogBegin); kind <= impl.LogEnd; kind++ {
		for _, txn := range wrongTxns() {
			check(plain(kind, txn), impl.ErrRange)
		}
	}
	for _, kind := range []int64{impl.LogSet, impl.LogBack} {
		for _, key := range wrongKeys() {
			check(change(kind, 1, key, some{}, some{}), impl.ErrRange)
		}
		for _, value := range wrongValues() {
			for _, has := range []bool{false, true} {
				check(change(kind, 1, 5, some{has, value}, some{true, 7}), impl.ErrRange)
				check(change(kind, 1, 5, some{true, 7}, some{has, value}), impl.ErrRange)
			}
		}
	}
	for _, kind := range []int64{impl.LogBegin, impl.LogCommit, impl.LogEnd} {
		for _, r := range []impl.Rec{{Key: 1}, {Key: -1}, {Had: true}, {Old: 1}, {Old: 10000}, {Has: true}, {New: 1}, {New: math.MinInt64}} {
			r.Kind, r.Txn = kind, 1
			check(r, impl.ErrForm)
		}
	}
}

// basesCases has those of MapOfRows, and ghosts, which come behind all these.
func basesCases() []rowsCase {
	return append(rowsCases(),
		rowsCase{"a ghost alone", []impl.Row{ghost(5)}, impl.ErrForm},
		rowsCase{"a ghost ahead of others", []impl.Row{ghost(0), row(5, 5)}, impl.ErrForm},
		rowsCase{"a ghost behind others", []impl.Row{row(5, 5), ghost(99)}, impl.ErrForm},
		rowsCase{"ghosts alone", manyGhosts(100), impl.ErrForm},
		rowsCase{"a ghost, then a key out of bounds", []impl.Row{ghost(5), row(100, 0)}, impl.ErrRange},
		rowsCase{"a ghost, then a value out of bounds", []impl.Row{ghost(5), row(6, -1)}, impl.ErrRange},
		rowsCase{"241 with a ghost", append([]impl.Row{ghost(0)}, manyRows(240)...), impl.ErrMany},
		rowsCase{"no rows", nil, impl.OK},
		rowsCase{"one row", []impl.Row{row(99, 9999)}, impl.OK},
	)
}

// TestRedoRowsCodesOfBase: behind those of the records come those of MapOfRows, then that of ghosts.
func TestRedoRowsCodesOfBase(t *testing.T) {
	lists := []string{"", "begin 1", "begin 1; set 1 5 50 7; commit 1", "begin 1; set 1 5 - 7; back 1 5 7 -", "set 1 5 - -"}
	for _, c := range basesCases() {
		if code := wantedBaseCode(c.rows); code != c.want {
			t.Fatalf("what is leant on elsewhere tells %d, %s, want %d", code, c.name, c.want)
		}
		for _, text := range lists {
			recs := recsNamed(text)
			for _, got := range []impl.RecoverResult{redo(t, c.rows, recs), recovered(t, c.rows, recsData(recs...)), recovered(t, c.rows, append(recsData(recs...), 0))} {
				if got.Code != c.want || c.want != impl.OK && !same(got, impl.RecoverResult{Code: c.want}) {
					t.Errorf("rows and %q, %s: %v, want the code %d", text, c.name, got, c.want)
				}
			}
		}
	}
}

// TestRecoverRowsAsksTheBytesFirst has too many bytes, and rows with every code of their own.
func TestRecoverRowsAsksTheBytesFirst(t *testing.T) {
	short := recData(plain(impl.LogEnd, 7))
	for _, base := range oddBases() {
		for _, data := range [][]byte{make([]byte, 4001), bytes.Repeat(short, 801), append(bytes.Repeat(short, 800), 1), make([]byte, 1<<20)} {
			if got := recovered(t, base, data); !same(got, impl.RecoverResult{Code: impl.ErrMany}) {
				t.Fatalf("RecoverRows of %d rows and %d bytes: %v", len(base), len(data), got)
			}
		}
		for _, data := range [][]byte{nil, make([]byte, 4000), bytes.Repeat(short, 800), short[:4]} {
			if got := recovered(t, base, data); got.Code != wantedBaseCode(base) {
				t.Fatalf("RecoverRows of %d rows and %d bytes: %v", len(base), len(data), got)
			}
		}
	}
}

func TestCrashEngineAsksTheEngineFirst(t *testing.T) {
	for _, wrong := range allBreaks() {
		e := busyEngine()
		wrong.turn(&e)
		for _, kept := range []int64{0, 5, 16, -1, int64(len(e.Wal.Loose)) + 1, math.MinInt64, math.MaxInt64} {
			if got := impl.CrashEngine(e, kept); !same(got, impl.EngineResult{Code: wrong.want}) {
				t.Fatalf("CrashEngine at %d, %s, %s: %v, want the code %d", kept, wrong.part, wrong.name, got, wrong.want)
			}
		}
	}
}

// TestCrashEngineAsksTheFaultsInTheirOrder has each two things wrong that are of two parts: the one whose clause stands ahead is told.
func TestCrashEngineAsksTheFaultsInTheirOrder(t *testing.T) {
	breaks := allBreaks()
	for i, first := range breaks {
		for _, second := range breaks[i+1:] {
			if first.part == second.part {
				continue
			}
			e := busyEngine()
			first.turn(&e)
			second.turn(&e)
			if got := impl.CrashEngine(e, -1); !same(got, impl.EngineResult{Code: first.want}) {
				t.Fatalf("CrashEngine, %s, %s, and %s, %s: %v, want the code %d", first.part, first.name, second.part, second.name, got, first.want)
			}
		}
	}
}

// TestCrashEngineKept has kept just at its bounds and outside of them.
func TestCrashEngineKept(t *testing.T) {
	for _, e := range append(someEngines(), enginesAtWork(t)...) {
		loose := int64(len(e.Wal.Loose))
		for _, kept := range []int64{math.MinInt64, math.MinInt64 + 1, -1 << 32, -256, -1, loose + 1, loose + 256, loose + 1<<16, loose + 1<<32, math.MaxInt64} {
			if got := crash(t, e, kept); !same(got, impl.EngineResult{Code: impl.ErrRange}) {
				t.Fatalf("CrashEngine at %d of %d: %v", kept, loose, got)
			}
		}
		for _, kept := range []int64{0, loose} {
			if got := crash(t, e, kept); got.Code != impl.OK {
				t.Fatalf("CrashEngine at %d of %d: %v", kept, loose, got)
			}
		}
	}
}
