package tests

import (
	"slices"
	"testing"

	"loop.example/g00270/impl"
)

// fiveRows is a new store of the rows 1 to 5, each with ten times its key.
func fiveRows() impl.Engine {
	return impl.NewEngine(rowsNamed("1:10 2:20 3:30 4:40 5:50")).Engine
}

// crashedAs tells by hand what a crash leaves: a new engine of rows, and who committed.
func crashedAs(rows string, answer []int64) impl.EngineResult {
	return impl.EngineResult{Answer: answer, Engine: impl.NewEngine(rowsNamed(rows)).Engine}
}

// TestCrashEngineCases has stores that crash at each byte of what is loose: whatever is kept, just what was committed is there.
func TestCrashEngineCases(t *testing.T) {
	for _, c := range []struct {
		name, who, lines, states, rows string
		answer                         []int64
	}{
		{"nobody began", "", "", "", "1:10 2:20 3:30 4:40 5:50", nil},
		{"one began", "u", "", "live", "1:10 2:20 3:30 4:40 5:50", nil},
		{"a put that is not committed", "u", "1 put 2 7", "live", "1:10 2:20 3:30 4:40 5:50", nil},
		{"a put of a new key that is not committed", "u", "1 put 9 7", "live", "1:10 2:20 3:30 4:40 5:50", nil},
		{"a delete that is not committed", "u", "1 delete 2", "live", "1:10 2:20 3:30 4:40 5:50", nil},
		{"a put that is committed", "u", "1 put 2 7; 1 commit", "done", "1:10 2:7 3:30 4:40 5:50", []int64{1}},
		{"a put of a new key that is committed", "u", "1 put 9 7; 1 commit", "done", "1:10 2:20 3:30 4:40 5:50 9:7", []int64{1}},
		{"a delete that is committed", "u", "1 delete 2; 1 commit", "done", "1:10 3:30 4:40 5:50", []int64{1}},
		{"one key again and again", "u", "1 put 2 7; 1 delete 2; 1 put 2 8; 1 delete 2; 1 put 2 9", "live", "1:10 2:20 3:30 4:40 5:50", nil},
		{"one key again and again, committed", "u", "1 put 2 7; 1 delete 2; 1 put 2 8; 1 commit", "done", "1:10 2:8 3:30 4:40 5:50", []int64{1}},
		{"an abort", "u", "1 put 2 7; 1 delete 3; 1 put 9 1; 1 put 2 8; 1 abort", "gone", "1:10 2:20 3:30 4:40 5:50", nil},
		{"an abort, then another one commits", "uu", "1 put 2 7; 1 put 9 1; 1 abort; 2 put 2 8; 2 commit", "gone done", "1:10 2:8 3:30 4:40 5:50", []int64{2}},
		{"one commits, then another one aborts", "uu", "1 put 2 7; 1 commit; 2 put 2 8; 2 delete 3; 2 abort", "done gone", "1:10 2:7 3:30 4:40 5:50", []int64{1}},
		{"one commits, another one lives", "uu", "1 put 2 7; 2 put 3 8; 1 commit; 2 put 4 9", "done live", "1:10 2:7 3:30 4:40 5:50", []int64{1}},
		{"two commit, in the order of their commits", "uu", "1 put 2 7; 2 put 3 8; 2 commit; 1 commit", "done done", "1:10 2:7 3:8 4:40 5:50", []int64{2, 1}},
		{"one waits", "uu", "1 put 2 7; 2 put 3 8; 2 get 2", "live waits", "1:10 2:20 3:30 4:40 5:50", nil},
		{"one waited, and what it waited for is committed", "uu", "1 put 2 7; 2 put 3 8; 2 get 2; 1 commit", "done waits", "1:10 2:7 3:30 4:40 5:50", []int64{1}},
		{"one goes on behind another one", "uu", "1 put 2 7; 2 put 2 8; 1 commit; resume 2", "done live", "1:10 2:7 3:30 4:40 5:50", []int64{1}},
		{"one goes on behind another one and commits", "uu", "1 put 2 7; 2 put 2 8; 1 commit; resume 2; 2 commit", "done done", "1:10 2:8 3:30 4:40 5:50", []int64{1, 2}},
		{"one goes on behind one that aborts and commits", "uu", "1 put 2 7; 2 put 2 8; 1 abort; resume 2; 2 commit", "gone done", "1:10 2:8 3:30 4:40 5:50", []int64{2}},
		{"one gave way", "uu", "1 put 1 7; 2 put 2 8; 1 get 2; 2 get 1", "waits gone", "1:10 2:20 3:30 4:40 5:50", nil},
		{"one gave way, the other one commits", "uu", "1 put 1 7; 2 put 2 8; 2 put 3 9; 1 get 2; 2 get 1; resume 1; 1 commit", "done gone", "1:7 2:20 3:30 4:40 5:50", []int64{1}},
		{"some at their ends, some that live and wait", "uuuus", "1 put 1 7; 1 commit; 2 put 2 8; 2 put 3 9; 2 abort; 3 put 4 5; 4 get 4; 5 pack", "done gone live waits live", "1:7 2:20 3:30 4:40 5:50", []int64{1}},
		{"the system built and cleaned", "us", "1 delete 2; 1 commit; 2 clean 2; 2 build; 2 pack; 2 commit", "done done", "1:10 3:30 4:40 5:50", []int64{1, 2}},
		{"the system cleaned, and did not come to its end", "uus", "1 delete 2; 1 put 9 1; 1 abort; 2 delete 3; 2 commit; 3 clean 3; 3 clean 9", "gone done live", "1:10 2:20 4:40 5:50", []int64{2}},
		{"the index is built, and one puts", "us", "2 build; 2 commit; 1 put 2 7", "live done", "1:10 2:20 3:30 4:40 5:50", []int64{2}},
		{"all rows are gone", "u", "1 delete 1; 1 delete 2; 1 delete 3; 1 delete 4; 1 delete 5; 1 commit", "done", "", []int64{1}},
	} {
		e := play(t, begun(fiveRows(), c.who), c.lines).Engine
		if states := statesIn(e); states != c.states {
			t.Fatalf("%s: the states are %q, want %q", c.name, states, c.states)
		}
		for kept := range int64(len(e.Wal.Loose) + 1) {
			if got := crash(t, e, kept); !same(got, crashedAs(c.rows, c.answer)) {
				t.Errorf("CrashEngine at %d, %s: %v, want %v", kept, c.name, got, c.rows)
			}
		}
	}
}

// TestCrashEngineWithLooseCommits has logs that no call would lead to, in which what is loose has a LogCommit: it counts as soon as its last byte is kept.
func TestCrashEngineWithLooseCommits(t *testing.T) {
	sure := recsData(recsNamed("begin 7; set 7 2 20 21; begin 3")...)
	loose := recsNamed("set 3 3 30 31; commit 7; commit 3; begin 999; set 999 3 31 -")
	want := []impl.EngineResult{
		crashedAs("1:10 2:20 3:30 4:40 5:50", nil), crashedAs("1:10 2:20 3:30 4:40 5:50", nil), crashedAs("1:10 2:21 3:30 4:40 5:50", []int64{7}),
		crashedAs("1:10 2:21 3:31 4:40 5:50", []int64{7, 3}), crashedAs("1:10 2:21 3:31 4:40 5:50", []int64{7, 3}), crashedAs("1:10 2:21 3:31 4:40 5:50", []int64{7, 3}),
	}
	e := fiveRows()
	e.Wal = impl.Wal{Sure: sure, Loose: recsData(loose...)}
	e.Leaves = []impl.Leaf{leaf(ghost(50))}
	for kept := range len(e.Wal.Loose) + 1 {
		if got := crash(t, e, int64(kept)); !same(got, want[countOf(e.Wal.Loose[:kept])]) {
			t.Errorf("CrashEngine at %d: %v, want %v", kept, got, want[countOf(e.Wal.Loose[:kept])])
		}
	}
}

// TestCrashEngineIsANewOne has all that an engine can have: nothing of it is left but what was recovered.
func TestCrashEngineIsANewOne(t *testing.T) {
	for kept, want := range map[int64]impl.EngineResult{0: crashedAs("1:10 20:3", []int64{3}), 5: crashedAs("1:10 20:3", []int64{3}), 16: crashedAs("1:10 20:3", []int64{3})} {
		if got := crash(t, busyEngine(), kept); !same(got, want) {
			t.Errorf("CrashEngine of a busy one at %d: %v, want %v", kept, got, want)
		}
	}
	for _, e := range append(someEngines(), enginesAtWork(t)...) {
		for _, kept := range []int64{0, 1, int64(len(e.Wal.Loose)) - 1, int64(len(e.Wal.Loose))} {
			crash(t, e, kept)
		}
	}
	all := crash(t, impl.NewEngine(manyRows(100)).Engine, 0)
	if !same(all.Engine.Base, manyRows(100)) || len(all.Engine.Leaves) != 49 {
		t.Errorf("CrashEngine of as many rows as there are keys: %v", all)
	}
}

// TestCrashEngineOfAFullLog has as many bytes as there may be, sure and loose.
func TestCrashEngineOfAFullLog(t *testing.T) {
	lost := recsData(recsNamed("begin 2; set 2 5 50 7; set 2 6 - 8")...)
	e := fiveRows()
	e.Wal = impl.Wal{Sure: logBytes(2000), Loose: slices.Concat(lost, logBytes(1973))}
	for _, kept := range []int64{0, 5, 16, 27, 28, 1000, 1999, 2000} {
		if got := crash(t, e, kept); got.Code != impl.OK || !same(got.Engine.Base, wantedRecover(e.Base, slices.Concat(e.Wal.Sure, e.Wal.Loose[:kept])).Rows) {
			t.Errorf("CrashEngine of a full log at %d: %v", kept, got)
		}
	}
	if got := impl.CrashEngine(e, 2001); !same(got, impl.EngineResult{Code: impl.ErrRange}) {
		t.Errorf("CrashEngine of a full log at 2001: %v", got)
	}
}
