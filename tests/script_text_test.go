package tests

import (
	"fmt"
	"strings"
	"testing"

	"loop.example/g00270/impl"
)

// ghostly has rows and ghosts, and nothing else.
func ghostly(leaves ...impl.Leaf) impl.Engine {
	return impl.Engine{Base: []impl.Row{row(42, 42)}, Leaves: leaves}
}

// withStates has transactions of every state, users' ahead of the system's; who waits waits for no lock.
func withStates() impl.Engine {
	var e impl.Engine
	for id := int64(1); id <= 8; id++ {
		own := impl.Txn{Id: id, System: id > 4, State: (id-1)%4 + 1}
		switch own.State {
		case impl.TxnWaits:
			own.Wait = getOf(1)
		case impl.TxnDone:
			e.Commits = append(e.Commits, id)
		}
		e.Txns = append(e.Txns, own)
	}
	return e
}

func TestEngineTextCases(t *testing.T) {
	store := "rows 1 3 7 3 20 4\n"
	users := func(states string) string {
		var text string
		for i, state := range strings.Fields(states) {
			text += fmt.Sprintf("txn %d user %s\n", i+1, state)
		}
		return text
	}
	for _, c := range []struct {
		name string
		e    impl.Engine
		want string
	}{
		{"nothing at all", impl.Engine{}, "rows\n"},
		{"a new store without rows", impl.NewEngine(nil).Engine, "rows\n"},
		{"a new store of one row", impl.NewEngine([]impl.Row{row(1, 3)}).Engine, "rows 1 3\n"},
		{"a new store of the least and the greatest", impl.NewEngine([]impl.Row{row(0, 0), row(99, 9999)}).Engine, "rows 0 0 99 9999\n"},
		{"a new store of several leaves", keyStore(), "rows 0 0 1 10 2 20 3 30 4 40 5 50 6 60 7 70 8 80 9 90\n"},
		{"a base that is not there any more", ghostly(), "rows\n"},
		{"a ghost alone", ghostly(leaf(ghost(5))), "rows\n"},
		{"ghosts alone", ghostlyAlone(), "rows\n"},
		{"a ghost ahead", ghostly(leaf(ghost(0), row(1, 3))), "rows 1 3\n"},
		{"a ghost between", ghostly(leaf(row(1, 3), ghost(2)), leaf(row(5, 7))), "rows 1 3 5 7\n"},
		{"a ghost behind", ghostly(leaf(row(1, 3)), leaf(row(5, 0), ghost(99))), "rows 1 3 5 0\n"},
		{"a value of 0 is one", ghostly(leaf(row(0, 0))), "rows 0 0\n"},
		{"an index is not told", smallEngine(false, true), store + "txn 1 user live\n"},
		{"one of the system", smallEngine(true, false), store + "txn 1 system live\n"},
		{"every state", withStates(), "rows\ntxn 1 user live\ntxn 2 user waits\ntxn 3 user done\ntxn 4 user gone\ntxn 5 system live\ntxn 6 system waits\ntxn 7 system done\ntxn 8 system gone\n"},
		{"locks of each mode", lockedEngine(5, "0 1:is | 1 1:ix | 2 1:s | 3 1:six | 4 1:x"), store + users("live live live live live") + "lock 0 1:is\nlock 1 1:ix\nlock 2 1:s\nlock 3 1:six\nlock 4 1:x\n"},
		{"each mode in a queue", lockedEngine(6, "0 1:x 2?is 3?ix 4?s 5?six 6?x"), store + users("live waits waits waits waits waits") + "lock 0 1:x 2?is 3?ix 4?s 5?six 6?x\n"},
		{"the order of Holds and of the Queue", lockedEngine(6, "7 5:s 2:is 3:s 6?x 1?is 4?ix"), store + users("waits live live waits live waits") + "lock 7 5:s 2:is 3:s 6?x 1?is 4?ix\n"},
		{"one who holds and waits at one lock", lockedEngine(2, "0 1:s 2:s 1?x"), store + users("waits live") + "lock 0 1:s 2:s 1?x\n"},
		{"two who hold and wait at one lock", lockedEngine(3, "0 1:is 2:is 3:s 1?ix 2?six"), store + users("waits waits live") + "lock 0 1:is 2:is 3:s 1?ix 2?six\n"},
		{"one who waits at one and holds others", lockedEngine(3, "0 1:ix 2:ix | 1 1:x 2?s | 50 2:x | 100 2:s 3:s"), store + users("live waits live") + "lock 0 1:ix 2:ix\nlock 1 1:x 2?s\nlock 50 2:x\nlock 100 2:s 3:s\n"},
		{"something of everything", busyEngine(), "rows 1 11 7 3 20 3\n" +
			"txn 1 user live\ntxn 2 user waits\ntxn 3 user done\ntxn 4 user gone\ntxn 5 system live\ntxn 6 system done\ntxn 7 system waits\ntxn 8 user waits\ntxn 9 system gone\n" +
			"lock 0 1:ix 5:is 2?s\nlock 2 1:x\nlock 8 1:x 7?x\nlock 100 5:s 8:s\n"},
	} {
		if got := impl.EngineText(c.e); got != (impl.TextResult{Text: c.want}) {
			t.Errorf("EngineText, %s: %v, want %q", c.name, got, c.want)
		}
		if told := wantedEngineText(c.e); told.Text != c.want {
			t.Errorf("what is leant on elsewhere tells %q of %s", told.Text, c.name)
		}
	}
}

// ghostlyAlone has a ghost of each key.
func ghostlyAlone() impl.Engine {
	return ghostly(ghostsAlone().Leaves...)
}

func TestEngineTextOfTheMost(t *testing.T) {
	e := lockedEngine(20, "0 "+manyOf(1, 20, ":is")+" | 100 20:x "+manyOf(1, 19, "?s"))
	text := shown(t, e).Text
	if !strings.Contains(text, "txn 19 user waits\ntxn 20 user live\nlock 0 1:is 2:is 3:is ") || !strings.HasSuffix(text, " 20:is\nlock 100 20:x 1?s 2?s 3?s 4?s 5?s 6?s 7?s 8?s 9?s 10?s 11?s 12?s 13?s 14?s 15?s 16?s 17?s 18?s 19?s\n") {
		t.Errorf("EngineText of 20 who hold a lock: %q", text)
	}
	full := shown(t, fullEngine()).Text
	if strings.Count(full, "\n") != 1+20+101 || !strings.HasSuffix(full, "lock 99 20:x\nlock 100 1:x\n") {
		t.Errorf("EngineText of a full engine: %q", full)
	}
	if got := len(strings.Fields(strings.Split(shown(t, impl.NewEngine(manyRows(100)).Engine).Text, "\n")[0])); got != 201 {
		t.Errorf("EngineText of 100 rows: %d words in the first line, want 201", got)
	}
}

// TestEngineTextOfSomeEngines asks as well how lines are cut: each ends with a line feed, with one blank between words and none at its ends.
func TestEngineTextOfSomeEngines(t *testing.T) {
	engines := append(someEngines(), enginesAtWork(t)...)
	for _, leaves := range someLeaves() {
		engines = append(engines, impl.Engine{Leaves: leaves})
	}
	for _, e := range engines {
		text := shown(t, e).Text
		lines := linesIn(text)
		if !strings.HasSuffix(text, "\n") || len(lines) != 1+len(e.Txns)+len(e.Locks) {
			t.Fatalf("EngineText: %d lines, want %d: %q", len(lines), 1+len(e.Txns)+len(e.Locks), text)
		}
		for _, line := range lines {
			if line == "" || strings.Join(wordsOf(t, line), " ") != line {
				t.Fatalf("EngineText: the line %q", line)
			}
		}
	}
}

func TestEngineTextOfFaults(t *testing.T) {
	for _, wrong := range allBreaks() {
		e := busyEngine()
		wrong.turn(&e)
		if got := impl.EngineText(e); got != (impl.TextResult{Code: wrong.want}) {
			t.Errorf("EngineText, %s, %s: %v, want the code %d", wrong.part, wrong.name, got, wrong.want)
		}
	}
	for _, e := range oddEngines() {
		shown(t, e)
	}
}
