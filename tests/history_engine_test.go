package tests

import (
	"slices"
	"strconv"
	"strings"
	"testing"

	"loop.example/g00270/impl"
)

// serialBusy is a busy engine with acts that are strict, and of which those who committed were told what is right.
func serialBusy() impl.Engine {
	e := busyEngine()
	e.Acts = actsNamed("3 delete 5; 3 commit; 6 build; 4 abort; 5 scan 0 9 = 1 10; 1 put 7 3; 6 commit")
	return e
}

// TestFaultsAreNeitherSerialNorRight has each fault of an engine alone.
func TestFaultsAreNeitherSerialNorRight(t *testing.T) {
	if !serial(t, serialBusy()) || !waitsRight(t, serialBusy()) {
		t.Fatal("without a fault it is not so")
	}
	for _, wrong := range allBreaks() {
		e := serialBusy()
		wrong.turn(&e)
		if code := impl.EngineFault(e); code == impl.OK {
			t.Fatalf("no fault, %s, %s", wrong.part, wrong.name)
		}
		if serial(t, e) {
			t.Errorf("SerialEngine, %s, %s", wrong.part, wrong.name)
		}
		if waitsRight(t, e) {
			t.Errorf("WaitsRight, %s, %s", wrong.part, wrong.name)
		}
	}
}

// doneEngine has as many transactions, all of them done in their order, with such acts; it holds rows.
func doneEngine(base, rows string, count int64, acts string) impl.Engine {
	e := impl.NewEngine(rowsNamed(rows)).Engine
	e.Base, e.Acts = rowsNamed(base), actsNamed(acts)
	for id := int64(1); id <= count; id++ {
		e.Txns = append(e.Txns, impl.Txn{Id: id, State: impl.TxnDone})
		e.Commits = append(e.Commits, id)
	}
	return e
}

// TestSerialEngineConditions has each of its conditions alone not so.
func TestSerialEngineConditions(t *testing.T) {
	for _, c := range []struct {
		name, base, rows string
		count            int64
		acts             string
		want             bool
	}{
		{"nothing", "", "", 0, "", true},
		{"rows alone", "1:10 5:50", "1:10 5:50", 0, "", true},
		{"two, one behind the other", "5:50", "5:1", 2, "1 put 5 1; 1 commit; 2 get 5 = 1; 2 commit", true},
		{"one reads what is not committed, and is told what comes to be right", "5:50", "5:1", 2, "1 put 5 1; 2 get 5 = 1; 1 commit; 2 commit", false},
		{"one writes what is not committed, and the rows come to be right", "5:50", "5:2", 2, "1 put 5 1; 2 put 5 2; 1 commit; 2 commit", false},
		{"one does something behind its end, and is told what is right", "5:50", "5:1", 1, "1 commit; 1 put 5 1; 1 get 5 = 1", false},
		{"one commits twice", "5:50", "5:50", 1, "1 commit; 1 commit", false},
		{"one is told what is wrong", "5:50", "5:1", 2, "1 put 5 1; 1 commit; 2 get 5 = 50; 2 commit", false},
		{"one is told nothing", "5:50", "5:1", 2, "1 put 5 1; 1 commit; 2 get 5; 2 commit", false},
		{"a put is told something", "5:50", "5:1", 1, "1 put 5 1 = 50; 1 commit", false},
		{"one is told what comes with the other order", "5:50", "5:1", 2, "2 get 5 = 50; 2 commit; 1 put 5 1; 1 commit", false},
		{"a value is another one", "5:50", "5:2", 1, "1 put 5 1; 1 commit", false},
		{"a row is missing", "5:50 6:60", "5:1", 1, "1 put 5 1; 1 commit", false},
		{"a row is too much", "5:50", "5:1 6:60", 1, "1 put 5 1; 1 commit", false},
		{"a row is there that was deleted", "5:50", "5:50", 1, "1 delete 5; 1 commit", false},
		{"a row is there that nobody put", "", "5:50", 0, "", false},
		{"a row is gone that nobody deleted", "5:50", "", 0, "", false},
		{"no acts of one who committed", "5:50", "5:50", 1, "", true},
		{"a scan and a find", "5:50 6:50", "5:50 6:50 7:50", 2, "1 scan 0 9 = 5 50 6 50; 1 find 50 = 5 6; 1 commit; 2 put 7 50; 2 find 50 = 5 6 7; 2 commit", true},
		{"a find that is told too little", "5:50 6:50", "5:50 6:50", 1, "1 find 50 = 5; 1 commit", false},
	} {
		e := doneEngine(c.base, c.rows, c.count, c.acts)
		if code := impl.EngineFault(e); code != impl.OK {
			t.Fatalf("%s: the fault %d", c.name, code)
		}
		if got := serial(t, e); got != c.want {
			t.Errorf("SerialEngine, %s: %v, want %v", c.name, got, c.want)
		}
	}
}

// TestSerialEngineAsksRowsBehindTheEndOfAll has rows that are other ones beside one more of each state: they count where nobody lives or waits.
func TestSerialEngineAsksRowsBehindTheEndOfAll(t *testing.T) {
	for _, system := range []bool{false, true} {
		for state, want := range map[int64]bool{impl.TxnLive: true, impl.TxnWaits: true, impl.TxnDone: false, impl.TxnGone: false} {
			for _, first := range []bool{false, true} {
				e := doneEngine("5:50", "5:7", 2, "")
				one := &e.Txns[1]
				if first {
					one = &e.Txns[0]
				}
				one.State, one.System = state, system
				if state == impl.TxnWaits {
					one.Wait = getOf(5)
				}
				if state != impl.TxnDone {
					e.Commits = slices.DeleteFunc(e.Commits, func(id int64) bool { return id == one.Id })
				}
				if got := serial(t, e); got != want {
					t.Errorf("SerialEngine with other rows and one of state %d, of the system %v: %v, want %v", state, system, got, want)
				}
				e.Base = rowsNamed("5:7")
				if !serial(t, e) {
					t.Errorf("SerialEngine with the same rows and one of state %d, of the system %v", state, system)
				}
				e.Acts = actsNamed("1 get 5 = 77; 2 get 5 = 77")
				if serial(t, e) {
					t.Errorf("SerialEngine with answers that are wrong, beside one of state %d", state)
				}
			}
		}
	}
}

// TestSerialEngineSeesNoGhosts: a row that is a ghost still is none of those that were committed.
func TestSerialEngineSeesNoGhosts(t *testing.T) {
	e := doneEngine("5:50 6:60", "", 1, "1 delete 5; 1 commit")
	e.Leaves = []impl.Leaf{leaf(ghost(5), row(6, 60), ghost(7))}
	if !serial(t, e) {
		t.Error("SerialEngine, with ghosts")
	}
	e.Leaves = []impl.Leaf{leaf(row(6, 60))}
	if !serial(t, e) {
		t.Error("SerialEngine, without them")
	}
	e.Leaves = []impl.Leaf{leaf(ghost(5), ghost(6))}
	if serial(t, e) {
		t.Error("SerialEngine, with a ghost in the place of a row")
	}
}

// rowOfLocks has the first one wait for nobody, and each other one for the one ahead.
func rowOfLocks(count int) string {
	var parts []string
	for txn := 2; txn <= count; txn++ {
		parts = append(parts, strings.Join([]string{strconv.Itoa(txn), manyOf(txn-1, 1, ":x"), manyOf(txn, 1, "?s")}, " "))
	}
	return strings.Join(parts, " | ")
}

func TestWaitsRightCases(t *testing.T) {
	for _, c := range []struct {
		name  string
		count int64
		locks string
		want  bool
	}{
		{"no locks", 0, "", true},
		{"nobody waits", 3, "0 1:is 2:ix | 5 1:s 3:s | 6 2:x", true},
		{"one waits", 2, "5 1:x 2?s", true},
		{"one waits to convert", 2, "5 1:s 2:s 1?x", true},
		{"several wait for one", 4, "5 1:x 2?s 3?x 4?s", true},
		{"a row of those who wait", 4, "5 1:x 2?s | 6 2:x 3?s | 7 3:x 4?s", true},
		{"a row the other way round", 4, "5 4:x 3?s | 6 3:x 2?s | 7 2:x 1?s", true},
		{"two ways to one", 4, "5 1:x 2?s 3?s | 6 2:x 4?s", true},
		{"a circle of two", 2, "5 1:x 2?s | 6 2:x 1?s", false},
		{"a circle of two who convert", 2, "5 1:s 2:s 1?x 2?x", false},
		{"a circle through one who stands ahead", 3, "5 1:s 2?x 3?s | 6 3:x 1?s", false},
		{"one who stands ahead, and no circle", 3, "5 1:s 2?x 3?s | 6 3:x", true},
		{"a circle of three", 3, "5 1:x 2?s | 6 2:x 3?s | 7 3:x 1?s", false},
		{"a circle of three the other way round", 3, "5 1:x 3?s | 6 3:x 2?s | 7 2:x 1?s", false},
		{"a circle of three, and one who waits beside it", 4, "5 1:x 4?s 2?s | 6 2:x 3?s | 7 3:x 1?s", false},
		{"a circle of two that others wait for", 4, "5 3:x 4?s | 6 4:x 3?s 1?s | 7 1:x 2?s", false},
		{"a circle through the whole", 2, "0 1:ix 2:ix 1?six 2?six", false},
		{"a circle of twenty", 20, rowOfLocks(20) + "| 30 20:x 1?s", false},
		{"a row of twenty", 20, rowOfLocks(20), true},
	} {
		e := lockedEngine(c.count, c.locks)
		if code := impl.EngineFault(e); code != impl.OK {
			t.Fatalf("%s: the fault %d", c.name, code)
		}
		if got := waitsRight(t, e); got != c.want {
			t.Errorf("WaitsRight, %s: %v, want %v", c.name, got, c.want)
		}
	}
}
