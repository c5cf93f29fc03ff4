package tests

import (
	"slices"
	"strings"
	"testing"

	"loop.example/g00270/impl"
)

// lineCase is a line in a store of the keys 0 to 9, in which some began and did something: what is said of it, and the states of all then.
type lineCase struct {
	name, who, ahead, line string
	said, states           string
}

func checkLineCases(t *testing.T, cases []lineCase) {
	t.Helper()
	for _, c := range cases {
		e := begun(keyStore(), c.who)
		if c.ahead != "" {
			e = play(t, e, c.ahead).Engine
		}
		got := stepLine(t, e, c.line)
		if got.Code != impl.OK || got.Said != c.said || statesIn(got.Engine) != c.states {
			t.Errorf("StepScript of %q, %s: the code %d, %q, %s; want %q, %s", c.line, c.name, got.Code, got.Said, statesIn(got.Engine), c.said, c.states)
		}
		if blanks := stepLine(t, e, "  "+strings.ReplaceAll(c.line, " ", "   ")+" "); !same(blanks, got) {
			t.Errorf("StepScript of %q with more blanks: %v, want %v", c.line, blanks, got)
		}
	}
}

func TestLinesOfBeginnings(t *testing.T) {
	checkLineCases(t, []lineCase{
		{"the first one", "", "", "begin", "txn 1", "live"},
		{"the first one of the system", "", "", "system", "txn 1", "live"},
		{"behind others", "us", "1 commit", "begin", "txn 3", "done live live"},
		{"behind others, of the system", "us", "2 abort", "system", "txn 3", "live gone live"},
		{"the ninth", "uuuuuuuu", "", "begin", "txn 9", "live live live live live live live live live"},
		{"the tenth", "uuuuuuuuu", "", "system", "txn 10", "live live live live live live live live live live"},
		{"the last one", strings.Repeat("u", 19), "", "begin", "txn 20", strings.Repeat("live ", 19) + "live"},
	})
	for line, system := range map[string]bool{"begin": false, "system": true} {
		got := stepLine(t, busyEngine(), line)
		want := impl.BeginTxn(busyEngine(), system)
		if !same(got, impl.ScriptResult{Engine: want.Engine, Said: "txn 10"}) || got.Engine.Txns[9].System != system {
			t.Errorf("StepScript of %s: %v, want %v", line, got, want)
		}
	}
}

func TestLinesOfOperations(t *testing.T) {
	checkLineCases(t, []lineCase{
		{"a get", "u", "", "1 get 3", "ok 30", "live"},
		{"a get of 0", "u", "", "1 get 0", "ok 0", "live"},
		{"a get of the greatest value", "u", "1 put 3 9999", "1 get 3", "ok 9999", "live"},
		{"a get of no row", "u", "", "1 get 42", "ok", "live"},
		{"a get of a ghost", "u", "1 delete 3", "1 get 3", "ok", "live"},
		{"a put", "u", "", "1 put 3 7", "ok", "live"},
		{"a put of a new row", "u", "", "1 put 99 9999", "ok", "live"},
		{"a delete", "u", "", "1 delete 3", "ok", "live"},
		{"a delete of no row", "u", "", "1 delete 42", "ok", "live"},
		{"a scan", "u", "", "1 scan 2 4", "ok 2 20 3 30 4 40", "live"},
		{"a scan of one row", "u", "", "1 scan 9 99", "ok 9 90", "live"},
		{"a scan of no rows", "u", "", "1 scan 10 99", "ok", "live"},
		{"a scan the other way", "u", "", "1 scan 4 2", "ok", "live"},
		{"a find", "us", "2 build; 2 commit", "1 find 30", "ok 3", "live done"},
		{"a find of several", "us", "2 build; 2 commit; 1 put 7 30; 1 put 1 30", "1 find 30", "ok 1 3 7", "live done"},
		{"a find of none", "us", "2 build; 2 commit", "1 find 31", "ok", "live done"},
		{"a commit", "u", "1 put 3 7", "1 commit", "ok", "done"},
		{"a commit of nothing", "uu", "", "2 commit", "ok", "live done"},
		{"an abort", "u", "1 put 3 7", "1 abort", "ok", "gone"},
		{"a clean", "us", "1 delete 3; 1 commit", "2 clean 3", "ok", "done live"},
		{"a clean of no ghost", "s", "", "1 clean 3", "ok", "live"},
		{"a pack", "s", "", "1 pack", "ok", "live"},
		{"a build", "s", "", "1 build", "ok", "live"},
		{"a get of the system", "s", "", "1 get 3", "ok 30", "live"},
		{"a scan of the system", "s", "", "1 scan 0 1", "ok 0 0 1 10", "live"},
		{"a find of the system", "s", "1 build", "1 find 90", "ok 9", "live"},
		{"a commit of the system", "s", "1 pack", "1 commit", "ok", "done"},
		{"an abort of the system", "s", "1 pack", "1 abort", "ok", "gone"},
		{"a scan beside one who waits", "us", "1 put 0 7; 2 get 1; 2 get 0", "1 scan 0 9", "ok 0 7 1 10 2 20 3 30 4 40 5 50 6 60 7 70 8 80 9 90", "live waits"},
		{"who is at an end lets others in", "uu", "1 put 3 7; 2 get 3", "1 commit", "ok", "done waits"},
		{"the tenth of them", "uuuuuuuuuu", "", "10 get 3", "ok 30", "live live live live live live live live live live"},
	})
}

func TestLinesOfThoseWhoWait(t *testing.T) {
	checkLineCases(t, []lineCase{
		{"a get", "uu", "1 put 3 7", "2 get 3", "waits", "live waits"},
		{"a put", "uu", "1 get 3", "2 put 3 7", "waits", "live waits"},
		{"a delete", "uu", "1 get 3", "2 delete 3", "waits", "live waits"},
		{"a scan", "uu", "1 put 3 7", "2 scan 8 9", "waits", "live waits"},
		{"a find", "uus", "3 build; 3 commit; 1 put 3 7", "2 find 30", "waits", "live waits done"},
		{"a clean", "us", "1 delete 3", "2 clean 3", "waits", "live waits"},
		{"a build", "us", "1 put 3 7", "2 build", "waits", "live waits"},
		{"a pack behind one who waits", "uus", "1 put 3 7; 2 scan 0 9", "3 pack", "waits", "live waits waits"},
		{"who read and now puts", "uu", "1 get 3; 2 get 3", "1 put 3 7", "waits", "waits live"},
	})
}

// TestLinesWithVictims has who gave way behind what it came to, one and several.
func TestLinesWithVictims(t *testing.T) {
	checkLineCases(t, []lineCase{
		{"one gives way themselves", "uu", "1 put 0 7; 2 put 1 8; 1 get 1", "2 get 0", "victim over 2", "waits gone"},
		{"one of the system gives way themselves", "su", "1 clean 0; 2 put 1 8; 2 get 0", "1 get 1", "victim over 1", "gone waits"},
		{"one gives way, and there is an answer", "uu", "1 put 0 7; 2 put 1 8; 2 get 0", "1 get 1", "ok 10 over 2", "live gone"},
		{"one gives way, and there is an answer of 0", "su", "1 clean 0; 2 put 1 8; 1 get 1", "2 get 0", "ok 0 over 1", "gone live"},
		{"one gives way, and there is a longer answer", "uu", "1 put 0 7; 2 put 1 8; 2 scan 0 9", "1 scan 0 2", "ok 0 7 1 10 2 20 over 2", "live gone"},
		{"one gives way, and there is no answer", "uu", "1 get 3; 2 get 3; 2 put 3 1", "1 put 3 2", "ok over 2", "live gone"},
		{"two give way", "uuu", "1 put 0 1; 2 get 1; 3 get 1; 2 get 0; 3 get 0", "1 put 1 1", "ok over 2 3", "live gone gone"},
		{"three give way", "uuuu", "1 put 0 1; 2 get 1; 3 get 1; 4 get 1; 4 get 0; 3 get 0; 2 get 0", "1 put 1 1", "ok over 2 3 4", "live gone gone gone"},
		{"one gives way, then one themselves", "suu", "3 put 0 1; 1 get 1; 2 get 1; 1 get 0; 2 get 0", "3 put 1 1", "victim over 1 3", "gone waits gone"},
		{"one gives way, and it waits still", "uuu", "1 put 0 1; 2 get 1; 3 get 1; 2 get 0", "1 put 1 1", "waits over 2", "waits gone live"},
		{"two give way, and it waits still", "usus", "1 put 0 1; 2 get 1; 3 get 1; 4 get 1; 2 get 0; 4 get 0", "1 put 1 1", "waits over 2 4", "waits gone live gone"},
		{"one of the system gives way to a delete", "us", "1 put 0 7; 2 clean 1; 2 build", "1 delete 1", "ok over 2", "live gone"},
	})
	full := impl.Engine{Leaves: fullLeaves(), Txns: liveTxns(1, 0)}
	got := stepLine(t, full, "1 put 43 1")
	if got.Code != impl.OK || got.Said != "victim over 1" || statesIn(got.Engine) != "gone" {
		t.Errorf("StepScript of a put for which there is no leaf: %v", got)
	}
	waits := bareOf(full)
	waits.Txns[0].State, waits.Txns[0].Wait = impl.TxnWaits, opNamed("put 43 1")
	if got := stepLine(t, waits, "resume 1"); got.Said != "victim over 1" || statesIn(got.Engine) != "gone" {
		t.Errorf("StepScript of a resume for which there is no leaf: %v", got)
	}
}

func TestLinesOfResuming(t *testing.T) {
	checkLineCases(t, []lineCase{
		{"is told what there is then", "uu", "1 put 0 7; 2 get 0; 1 commit", "resume 2", "ok 7", "done live"},
		{"is told what was there", "uu", "1 put 1 7; 2 get 1; 1 abort", "resume 2", "ok 10", "gone live"},
		{"is told nothing", "uu", "1 delete 1; 2 get 1; 1 commit", "resume 2", "ok", "done live"},
		{"a put", "uu", "1 get 0; 2 put 0 7; 1 commit", "resume 2", "ok", "done live"},
		{"a scan", "uu", "1 put 0 7; 2 scan 0 1; 1 commit", "resume 2", "ok 0 7 1 10", "done live"},
		{"a build of the system", "us", "1 put 0 7; 2 build; 1 abort", "resume 2", "ok", "gone live"},
		{"waits again, at the key", "uuu", "1 scan 0 9; 3 get 0; 2 put 0 7; 1 commit", "resume 2", "waits", "done waits live"},
		{"is let in then", "uuu", "1 scan 0 9; 3 get 0; 2 put 0 7; 1 commit; resume 2; 3 commit", "resume 2", "ok", "done live done"},
		{"has another one give way", "uuu", "1 scan 0 9; 3 get 0; 2 get 1; 2 put 0 7; 1 commit; 3 put 1 1", "resume 2", "ok over 3", "done live gone"},
		{"gives way", "uuu", "1 scan 0 9; 2 get 0; 3 get 1; 3 put 0 7; 1 commit; 2 put 1 1", "resume 3", "victim over 3", "done waits gone"},
	})
	e := busyEngine()
	e.Locks = locksOf("0 5:is 1:ix | 8 1:x | 100 5:s 8:s")
	e.Txns[6].Wait = opNamed("get 7")
	if got := stepLine(t, e, "resume 7"); got.Said != "waits" || impl.WaitsAt(got.Engine.Locks, 7).Value != 8 {
		t.Errorf("StepScript of a resume that waits again: %v", got)
	}
	among := lockedEngine(4, "0 1:ix 2:ix 3:is 4:is | 2 2:s 3:s 4:s | 8 1:x 2?s 3?s")
	among.Txns[0].State, among.Txns[0].Wait = impl.TxnWaits, opNamed("put 1 5")
	if got := stepLine(t, among, "resume 1"); got.Said != "waits over 2 3" || statesIn(got.Engine) != "waits gone gone live" {
		t.Errorf("StepScript of a resume that waits again behind two who gave way: %v", got)
	}
}

// TestLinesOfCrashes tells by hand what is back: all Loose bytes are kept, those of a commit too.
func TestLinesOfCrashes(t *testing.T) {
	loose := impl.Engine{Base: rowsNamed("1:10 2:20"), Leaves: []impl.Leaf{leaf(row(5, 5))}, Txns: liveTxns(2, 1)}
	loose.Wal.Loose = recsData(recsNamed("begin 1; set 1 1 10 11; begin 2; set 2 2 20 -; commit 1")...)
	torn := bareOf(loose)
	torn.Wal.Loose = recsData(recsNamed("begin 1; set 1 1 10 11; begin 2; set 2 2 20 -; set 1 7 - 70; back 1 7 70 -")...)
	sure := bareOf(torn)
	sure.Wal = impl.Wal{Sure: torn.Wal.Loose, Loose: recsData(recsNamed("commit 1; commit 2")...)}
	played := func(who, lines string) impl.Engine { return play(t, begun(fiveRows(), who), lines).Engine }
	for _, c := range []struct {
		name string
		e    impl.Engine
		rows string
	}{
		{"nothing at all", impl.Engine{}, ""},
		{"a new store", fiveRows(), "1:10 2:20 3:30 4:40 5:50"},
		{"a put without a commit", played("u", "1 put 1 7"), "1:10 2:20 3:30 4:40 5:50"},
		{"a put and a commit", played("u", "1 put 1 7; 1 commit"), "1:7 2:20 3:30 4:40 5:50"},
		{"a delete and a commit", played("uu", "1 delete 1; 1 commit; 2 delete 2"), "2:20 3:30 4:40 5:50"},
		{"one who waits", played("uu", "1 put 1 7; 2 get 1; 1 commit"), "1:7 2:20 3:30 4:40 5:50"},
		{"a commit among what is loose", loose, "1:11 2:20"},
		{"no commit among what is loose", torn, "1:10 2:20"},
		{"commits alone among what is loose", sure, "1:11"},
	} {
		want := impl.ScriptResult{Engine: impl.NewEngine(rowsNamed(c.rows)).Engine, Said: "back"}
		if got := stepLine(t, c.e, "crash"); !same(got, want) {
			t.Errorf("StepScript of crash, %s: %v, want %v", c.name, got, want)
		}
		if got := stepLine(t, c.e, "  crash "); !same(got, want) {
			t.Errorf("StepScript of crash with blanks, %s: %v, want %v", c.name, got, want)
		}
	}
}

// TestLinesOfTidying tells by hand which leaves there are then, and how those of the system came to their end.
func TestLinesOfTidying(t *testing.T) {
	scattered := impl.NewEngine(manyRows(9)).Engine
	for _, c := range []struct {
		name, who, ahead string
		leaves           []impl.Leaf
		ends             string
	}{
		{"no ghosts", "", "", []impl.Leaf{keyed(0, 1, 2, 3), keyed(4, 5, 6, 7), keyed(8)}, "done done"},
		{"a ghost", "u", "1 delete 3; 1 commit", []impl.Leaf{keyed(0, 1, 2, 4), keyed(5, 6, 7, 8)}, "done done done"},
		{"ghosts", "uu", "1 delete 0; 1 commit; 2 delete 8; 2 put 50 1; 2 delete 4; 2 commit", []impl.Leaf{keyed(1, 2, 3, 5), leaf(row(6, 6), row(7, 7), row(50, 1))}, "done done done done"},
		{"who reads is in nobody's way", "u", "1 get 3", []impl.Leaf{keyed(0, 1, 2, 3), keyed(4, 5, 6, 7), keyed(8)}, "live done done"},
		{"who deleted is in the way of what cleans", "u", "1 delete 3", []impl.Leaf{leaf(row(0, 0), row(1, 1), row(2, 2), ghost(3)), keyed(4, 5, 6, 7), keyed(8)}, "live gone done"},
		{"who scans is in the way of what cleans", "uu", "1 delete 3; 1 commit; 2 scan 0 9", []impl.Leaf{leaf(row(0, 0), row(1, 1), row(2, 2), ghost(3)), keyed(4, 5, 6, 7), keyed(8)}, "done live gone done"},
		{"who waits for the whole is in the way of both", "uu", "1 delete 3; 2 scan 0 9", nil, "live waits gone gone"},
		{"one of two ghosts is cleaned", "uu", "1 delete 1; 1 commit; 2 delete 3", []impl.Leaf{leaf(row(0, 0), row(2, 2), ghost(3), row(4, 4)), keyed(5, 6, 7, 8)}, "done live gone done"},
	} {
		e := begun(scattered, c.who)
		if c.ahead != "" {
			e = play(t, e, c.ahead).Engine
		}
		want := c.leaves
		if want == nil {
			want = e.Leaves
		}
		got := stepLine(t, e, "tidy")
		values := slices.Equal(rowsIn(got.Engine.Leaves), rowsIn(want))
		if got.Code != impl.OK || got.Said != "ok" || !sameLeaves(got.Engine.Leaves, want) || !values || statesIn(got.Engine) != c.ends {
			t.Errorf("StepScript of tidy, %s: %q, %v, %s; want %v, %s", c.name, got.Said, got.Engine.Leaves, statesIn(got.Engine), want, c.ends)
		}
		if !same(impl.MapOf(got.Engine), impl.MapOf(e)) || len(got.Engine.Txns) != len(e.Txns)+2 {
			t.Errorf("StepScript of tidy, %s: the rows are %v, and were %v", c.name, impl.MapOf(got.Engine), impl.MapOf(e))
		}
	}
}

// TestLinesThatChangeNothing has those without words, and show, of every engine.
func TestLinesThatChangeNothing(t *testing.T) {
	for _, e := range append(someEngines(), enginesAtWork(t)...) {
		for _, line := range []string{"", " ", "      ", strings.Repeat(" ", 5000)} {
			if got := stepLine(t, e, line); !same(got, impl.ScriptResult{Engine: e}) {
				t.Fatalf("StepScript of %d blanks: %v, want %v", len(line), got, e)
			}
		}
		want := impl.ScriptResult{Engine: e, Said: impl.EngineText(e).Text}
		for _, line := range []string{"show", " show", "show  "} {
			if got := stepLine(t, e, line); !same(got, want) {
				t.Fatalf("StepScript of %q: %v, want %v", line, got, want)
			}
		}
	}
	if got := stepLine(t, busyEngine(), "show"); got.Said != impl.EngineText(busyEngine()).Text || !strings.HasPrefix(got.Said, "rows 1 11 7 3 20 3\ntxn 1 user live\n") {
		t.Errorf("StepScript of show: %q", got.Said)
	}
}
