package tests

import (
	"slices"
	"strings"
	"testing"

	"loop.example/g00270/impl"
)

// storeCase is a store at work, of the rows 1:10 2:20 3:30 4:40 5:50, told by hand: who is in it, what they do, and what it comes to.
type storeCase struct {
	name, who, lines string
	states           string
	commits          []int64
	rows             string
}

func storeCases() []storeCase {
	return []storeCase{
		{"nobody began", "", "", "", nil, "1:10 2:20 3:30 4:40 5:50"},
		{"one commits", "u", "1 get 1; 1 put 1 11; 1 get 1; 1 delete 2; 1 scan 0 9; 1 commit", "done", []int64{1}, "1:11 3:30 4:40 5:50"},
		{"one aborts", "u", "1 get 1; 1 put 1 11; 1 get 1; 1 delete 2; 1 put 9 90; 1 abort", "gone", nil, "1:10 2:20 3:30 4:40 5:50"},
		{"one aborts, another one sees nothing of it", "uu", "1 put 1 11; 1 delete 2; 1 abort; 2 scan 0 9; 2 put 2 1; 2 commit", "gone done", []int64{2}, "1:10 2:1 3:30 4:40 5:50"},
		{"two by turns on keys of their own", "uu", "1 put 1 11; 2 put 2 22; 1 get 3; 2 get 3; 2 commit; 1 get 2; 1 commit", "done done", []int64{2, 1}, "1:11 2:22 3:30 4:40 5:50"},
		{"one waits, and goes on behind a commit", "uu", "1 put 1 11; 2 get 1; 1 put 2 22; 1 commit; resume 2; 2 put 1 12; 2 commit", "done done", []int64{1, 2}, "1:12 2:22 3:30 4:40 5:50"},
		{"one waits, and goes on behind an abort", "uu", "1 put 1 11; 2 get 1; 1 put 2 22; 1 abort; resume 2; 2 put 3 33; 2 commit", "gone done", []int64{2}, "1:10 2:20 3:33 4:40 5:50"},
		{"one who began first reads what the other one committed ahead of it", "uu", "1 get 5; 2 put 1 11; 2 commit; 1 get 1; 1 commit", "done done", []int64{2, 1}, "1:11 2:20 3:30 4:40 5:50"},
		{"one waits at two keys, one behind the other", "uuu", "1 put 1 11; 2 put 2 22; 3 get 1; 1 commit; resume 3; 3 get 2; 2 abort; resume 3; 3 commit", "done gone done", []int64{1, 3}, "1:11 2:20 3:30 4:40 5:50"},
		{"of a circle of two the last one gives way", "uu", "1 put 1 11; 2 put 2 22; 1 get 2; 2 get 1; resume 1; 1 commit", "done gone", []int64{1}, "1:11 2:20 3:30 4:40 5:50"},
		{"of a circle of two the other one gives way", "uu", "1 put 1 11; 2 put 2 22; 2 get 1; 1 get 2; 1 put 2 12; 1 commit", "done gone", []int64{1}, "1:11 2:12 3:30 4:40 5:50"},
		{"of a circle of three one gives way", "uuu", "1 put 1 11; 2 put 2 22; 3 put 3 33; 1 get 2; 2 get 3; 3 get 1; resume 2; 2 commit; resume 1; 1 commit", "done done gone", []int64{2, 1}, "1:11 2:22 3:30 4:40 5:50"},
		{"who both read and put one key", "uu", "1 get 1; 2 get 1; 1 put 1 11; 2 put 1 12; resume 1; 1 commit", "done gone", []int64{1}, "1:11 2:20 3:30 4:40 5:50"},
		{"who both scan and put", "uu", "1 scan 0 9; 2 scan 0 9; 1 put 6 60; 2 put 7 70; resume 1; 1 commit", "done gone", []int64{1}, "1:10 2:20 3:30 4:40 5:50 6:60"},
		{"one scans twice, another one has to wait between", "uu", "1 scan 0 9; 2 put 6 60; 1 scan 0 9; 1 commit; resume 2; 2 commit", "done done", []int64{1, 2}, "1:10 2:20 3:30 4:40 5:50 6:60"},
		{"one reads twice, another one has to wait between", "uu", "1 get 1; 2 put 1 11; 1 get 1; 1 commit; resume 2; 2 commit", "done done", []int64{1, 2}, "1:11 2:20 3:30 4:40 5:50"},
		{"one finds twice, another one has to wait between", "uus", "3 build; 3 commit; 1 find 10; 2 put 3 10; 1 find 10; 1 commit; resume 2; 2 commit", "done done done", []int64{3, 1, 2}, "1:10 2:20 3:10 4:40 5:50"},
		{"one scans while another one lives who reads", "uu", "1 get 1; 2 scan 0 9; 1 get 2; 2 commit; 1 commit", "done done", []int64{2, 1}, "1:10 2:20 3:30 4:40 5:50"},
		{"the system gives way in a circle", "us", "1 put 1 11; 2 clean 2; 2 get 1; 1 get 2; 1 commit", "done gone", []int64{1}, "1:11 2:20 3:30 4:40 5:50"},
		{"the system cleans what was deleted", "us", "1 delete 1; 1 commit; 2 clean 1; 2 pack; 2 commit", "done done", []int64{1, 2}, "2:20 3:30 4:40 5:50"},
		{"the system reads between", "us", "2 get 1; 1 get 1; 2 scan 0 9; 2 commit; 1 put 1 11; 1 commit", "done done", []int64{2, 1}, "1:11 2:20 3:30 4:40 5:50"},
		{"the system aborts what it built, and it stays built", "us", "2 build; 2 abort; 1 find 20; 1 put 1 20; 1 find 20; 1 commit", "done gone", []int64{1}, "1:20 2:20 3:30 4:40 5:50"},
		{"an index is built between, and turned by an abort", "uus", "3 build; 3 commit; 1 put 1 20; 1 find 20; 1 abort; 2 find 20; 2 find 10; 2 commit", "gone done done", []int64{3, 2}, "1:10 2:20 3:30 4:40 5:50"},
		{"a find waits for one who puts", "uus", "3 build; 3 commit; 1 put 1 20; 2 find 20; 1 commit; resume 2; 2 commit", "done done done", []int64{3, 1, 2}, "1:20 2:20 3:30 4:40 5:50"},
		{"a build waits for one who puts", "us", "1 put 1 20; 2 build; 1 commit; resume 2; 2 find 20; 2 commit", "done done", []int64{1, 2}, "1:20 2:20 3:30 4:40 5:50"},
		{"work of the system all at once", "uu", "1 delete 1; 1 commit; tidy; 2 get 1; 2 find 20; 2 put 1 5; 2 commit", "done done done done done", []int64{1, 3, 4, 5, 2}, "1:5 2:20 3:30 4:40 5:50"},
		{"work of the system that gives up", "uu", "1 delete 1; tidy; 2 get 2; 1 commit; 2 commit", "done done gone done gone", []int64{4, 1, 2}, "2:20 3:30 4:40 5:50"},
		{"work of the system between one who waits and their going on", "uu", "1 put 1 11; 2 get 1; tidy; 1 commit; tidy; resume 2; 2 find 11; 2 commit", "done done done done gone done done done", []int64{3, 4, 1, 6, 7, 8, 2}, "1:11 2:20 3:30 4:40 5:50"},
		{"all rows go and come again", "uu", "1 delete 1; 1 delete 2; 1 delete 3; 1 delete 4; 1 delete 5; 1 scan 0 99; 1 commit; 2 scan 0 99; 2 put 3 3; 2 scan 0 99; 2 commit", "done done", []int64{1, 2}, "3:3"},
	}
}

// stepStore does one line: that of play, or "tidy" for all work of the system, whether it is done or gives up.
func stepStore(t *testing.T, e impl.Engine, line string) impl.Engine {
	t.Helper()
	if strings.TrimSpace(line) != "tidy" {
		return play(t, e, line).Engine
	}
	for _, work := range []func(impl.Engine) impl.SystemResult{impl.CleanEngine, impl.PackEngine, impl.BuildEngine} {
		got := work(e)
		if got.Code != impl.OK {
			t.Fatalf("work of the system: %v", got)
		}
		e = got.Engine
	}
	return e
}

func TestSerialStores(t *testing.T) {
	came := map[string]int{}
	for _, c := range storeCases() {
		e := begun(fiveRows(), c.who)
		checkHistory(t, e, came)
		for _, line := range strings.Split(c.lines, ";") {
			e = stepStore(t, e, line)
			checkLooksSerial(t, e)
		}
		if states := statesIn(e); states != c.states || !slices.Equal(e.Commits, c.commits) {
			t.Errorf("%s: %q, and %v committed; want %q and %v", c.name, states, e.Commits, c.states, c.commits)
		}
		got := impl.ReplayActs(e.Base, e.Acts, e.Commits)
		if want := (impl.ReplayResult{Same: true, Rows: rowsNamed(c.rows)}); !same(got, want) {
			t.Errorf("ReplayActs, %s: %v, want %v", c.name, got, want)
		}
		checkHistory(t, e, came)
		checkEndOfAll(t, e)
	}
	if came["read twice"] < 3 {
		t.Errorf("too few read twice: %v", came)
	}
}

// TestSerialStoresTurned has what one of those who committed was told turned, each by itself: it is seen, and what others were told is not asked.
func TestSerialStoresTurned(t *testing.T) {
	for _, c := range storeCases() {
		e := begun(fiveRows(), c.who)
		for _, line := range strings.Split(c.lines, ";") {
			e = stepStore(t, e, line)
		}
		for at, a := range e.Acts {
			wrong := bareOf(e)
			wrong.Acts[at].Answer = append(wrong.Acts[at].Answer, 7)
			if got, want := serial(t, wrong), !slices.Contains(e.Commits, a.Txn); got != want {
				t.Errorf("%s: SerialEngine %v where %v of %d is told 7 more", c.name, got, a.Op, a.Txn)
			}
		}
		for _, key := range []int64{0, 1, 5, 99} {
			wrong := bareOf(e)
			wrong.Leaves = impl.PutRow(wrong.Leaves, row(key, 7777)).Leaves
			if wrong.Built {
				wrong.Index = impl.IndexOf(wrong.Leaves).Pairs
			}
			if impl.EngineFault(wrong) != impl.OK || serial(t, wrong) {
				t.Errorf("%s: SerialEngine, and %d has another value", c.name, key)
			}
		}
	}
}
