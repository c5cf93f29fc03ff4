package tests

import (
	"testing"

	"loop.example/g00270/impl"
)

// smallEngine has rows with values alike and a ghost, and one transaction that lives.
func smallEngine(system, built bool) impl.Engine {
	e := impl.Engine{
		Leaves: []impl.Leaf{leaf(row(1, 3), ghost(5)), leaf(row(7, 3), row(20, 4))},
		Txns:   []impl.Txn{{Id: 1, System: system, State: impl.TxnLive}},
		Wal:    impl.Wal{Sure: recsData(plain(impl.LogBegin, 1))},
		Built:  built,
	}
	if built {
		e.Index = pairsNamed("3:1 3:7 4:20")
	}
	return e
}

// lockedEngine has as many transactions, all of users, with such locks; who waits for one waits for a scan.
func lockedEngine(count int64, locks string) impl.Engine {
	e := smallEngine(false, true)
	e.Txns, e.Locks = liveTxns(count, 0), locksOf(locks)
	for i, t := range e.Txns {
		if waitsIn(e.Locks, t.Id) {
			e.Txns[i].State, e.Txns[i].Wait = impl.TxnWaits, scanOf(0, 99)
		}
	}
	return e
}

func TestAnswerOfCases(t *testing.T) {
	built, unbuilt := smallEngine(false, true), smallEngine(false, false)
	for _, c := range []struct {
		name, op string
		want     []int64
	}{
		{"a key that has a value", "get 1", []int64{3}},
		{"the last key that has one", "get 20", []int64{4}},
		{"a ghost", "get 5", nil},
		{"a key of no row", "get 6", nil},
		{"the first key, of no row", "get 0", nil},
		{"the last key, of no row", "get 99", nil},
		{"all rows, a ghost between", "scan 0 99", []int64{1, 3, 7, 3, 20, 4}},
		{"from a row to a row", "scan 1 20", []int64{1, 3, 7, 3, 20, 4}},
		{"from behind a row to ahead of one", "scan 2 19", []int64{7, 3}},
		{"from a ghost on", "scan 5 7", []int64{7, 3}},
		{"one key", "scan 7 7", []int64{7, 3}},
		{"a ghost alone", "scan 5 5", nil},
		{"no rows", "scan 8 19", nil},
		{"Key above High", "scan 20 1", nil},
		{"Key above High, all keys", "scan 99 0", nil},
		{"commit", "commit", nil},
		{"abort", "abort", nil},
		{"put", "put 1 9", nil},
		{"delete", "delete 1", nil},
		{"clean", "clean 5", nil},
		{"pack", "pack", nil},
		{"build", "build", nil},
	} {
		for _, e := range []impl.Engine{built, unbuilt} {
			got := impl.AnswerOf(e, opNamed(c.op))
			if !same(got, impl.IntsResult{List: c.want}) || !same(got, wantedAnswer(e, opNamed(c.op))) {
				t.Errorf("AnswerOf, %s: %v, want %v", c.name, got, c.want)
			}
		}
	}
	for _, c := range []struct {
		op   string
		want []int64
	}{{"find 3", []int64{1, 7}}, {"find 4", []int64{20}}, {"find 0", nil}, {"find 9999", nil}} {
		if got := impl.AnswerOf(built, opNamed(c.op)); !same(got, impl.IntsResult{List: c.want}) {
			t.Errorf("AnswerOf %s: %v, want %v", c.op, got, c.want)
		}
		if got := impl.AnswerOf(unbuilt, opNamed(c.op)); !same(got, impl.IntsResult{Code: impl.ErrNone}) {
			t.Errorf("AnswerOf %s without an index: %v", c.op, got)
		}
	}
	if got := impl.AnswerOf(unbuilt, opNamed("find 10000")); got.Code != impl.ErrRange {
		t.Errorf("AnswerOf a value out of bounds, without an index: %v", got)
	}
}

func TestAnswerOfManyEngines(t *testing.T) {
	for _, e := range oddEngines() {
		for _, o := range oddOps() {
			if got, want := impl.AnswerOf(e, o), wantedAnswer(e, o); !same(got, want) {
				t.Fatalf("AnswerOf %v: %v, want %v", o, got, want)
			}
		}
	}
	for _, leaves := range someLeaves() {
		e := impl.Engine{Leaves: leaves, Built: true, Index: wantedIndex(leaves).Pairs}
		for key := range int64(100) {
			for _, o := range []impl.Op{getOf(key), scanOf(key, 99), scanOf(0, key), {Kind: impl.OpFind, Value: key * 101}} {
				if got, want := impl.AnswerOf(e, o), (impl.IntsResult{List: toldBy(e, o)}); !same(got, want) {
					t.Fatalf("AnswerOf %v: %v, want %v", o, got, want)
				}
			}
		}
	}
}

// TestDoOpLocks tells by hand which locks there are then, and what the operation came to.
func TestDoOpLocks(t *testing.T) {
	for _, c := range []struct {
		name, locks, op, came, then string
	}{
		{"get, nothing is held", "", "get 1", "ok 3", "0 1:is | 2 1:s"},
		{"get of the last key", "", "get 99", "ok", "0 1:is | 100 1:s"},
		{"put, nothing is held", "", "put 0 1", "ok", "0 1:ix | 1 1:x"},
		{"delete, nothing is held", "", "delete 0", "ok", "0 1:ix | 1 1:x"},
		{"scan, nothing is held", "", "scan 7 9", "ok 7 3", "0 1:s"},
		{"find, nothing is held", "", "find 4", "ok 20", "0 1:s"},
		{"get, both are held already", "0 1:is | 2 1:s", "get 1", "ok 3", "0 1:is | 2 1:s"},
		{"get, more is held already", "0 1:six | 2 1:x", "get 1", "ok 3", "0 1:six | 2 1:x"},
		{"get, the whole is held", "0 1:x", "get 1", "ok 3", "0 1:x | 2 1:s"},
		{"put behind a get converts both", "0 1:is | 2 1:s", "put 1 9", "ok", "0 1:ix | 2 1:x"},
		{"scan behind a put converts", "0 1:ix | 2 1:x", "scan 0 1", "ok 1 3", "0 1:six | 2 1:x"},
		{"put behind a scan converts", "0 1:s", "put 1 9", "ok", "0 1:six | 2 1:x"},
		{"delete behind a get of another key", "0 1:is | 2 1:s", "delete 7", "ok", "0 1:ix | 2 1:s | 8 1:x"},
		{"get beside others who read", "0 2:is 3:s | 2 2:s", "get 1", "ok 3", "0 2:is 3:s 1:is | 2 2:s 1:s"},
		{"put beside one who puts another key", "0 2:ix | 8 2:x", "put 1 9", "ok", "0 2:ix 1:ix | 2 1:x | 8 2:x"},
		{"get of a key that is put", "0 2:ix | 2 2:x", "get 1", "waits", "0 2:ix 1:is | 2 2:x 1?s"},
		{"put of a key that is read", "0 2:is | 2 2:s", "put 1 9", "waits", "0 2:is 1:ix | 2 2:s 1?x"},
		{"put of a key that both read", "0 1:is 2:is | 2 1:s 2:s", "put 1 9", "waits", "0 1:ix 2:is | 2 1:s 2:s 1?x"},
		{"put while one scans", "0 2:s", "put 1 9", "waits", "0 2:s 1?ix"},
		{"put while one scans, behind a get", "0 1:is 2:s | 2 1:s", "put 1 9", "waits", "0 1:is 2:s 1?ix | 2 1:s"},
		{"put while both scan", "0 1:s 2:s", "put 1 9", "waits", "0 1:s 2:s 1?six"},
		{"scan while one puts", "0 2:ix | 8 2:x", "scan 0 1", "waits", "0 2:ix 1?s | 8 2:x"},
		{"get behind one who waits", "0 2:ix 3?s | 8 2:x", "get 1", "waits", "0 2:ix 3?s 1?is | 8 2:x"},
		{"get of a key behind one who waits", "0 2:is 3:ix | 2 2:s 3?x", "get 1", "waits", "0 2:is 3:ix 1:is | 2 2:s 3?x 1?s"},
		{"one who converts stands ahead of others", "0 1:is 2:s 3?x", "put 1 9", "waits", "0 1:is 2:s 1?ix 3?x"},
		{"one who converts stands behind one who does", "0 1:is 2:s 3:is 3?ix 4?x", "put 1 9", "waits", "0 1:is 2:s 3:is 3?ix 1?ix 4?x"},
		{"one who converts is let in ahead of those who wait", "0 1:is 2:is 3?x", "scan 1 1", "ok 1 3", "0 1:s 2:is 3?x"},
		{"commit frees all", "0 1:six 2:is | 2 1:x | 8 2:s", "commit", "ok", "0 2:is | 8 2:s"},
		{"commit lets others in", "0 1:ix 2?s 3?is 4?ix | 8 1:x", "commit", "ok", "0 2:s 3:is 4?ix"},
		{"abort lets others in", "0 1:is 2:is 3:is | 2 1:x 2?s 3?s", "abort", "ok", "0 2:is 3:is | 2 2:s 3:s"},
		{"commit lets one convert", "0 1:s 2:s 2?six 3?is", "commit", "ok", "0 2:six 3:is"},
		{"commit without locks", "0 2:x 3?s", "commit", "ok", "0 2:x 3?s"},
	} {
		e := lockedEngine(4, c.locks)
		checkEngineFault(t, c.name, e, impl.OK)
		got := do(t, e, 1, opNamed(c.op))
		if cameTo(got) != c.came || !sameLocks(got.Engine.Locks, locksOf(c.then)) {
			t.Errorf("DoOp, %s: %s with the locks %v, want %s with %s", c.name, cameTo(got), got.Engine.Locks, c.came, c.then)
		}
		if !got.Waits {
			continue
		}
		want := bareOf(e)
		want.Txns[0].State, want.Txns[0].Wait, want.Locks = impl.TxnWaits, opNamed(c.op), locksOf(c.then)
		if !same(got, impl.EngineResult{Waits: true, Engine: want}) {
			t.Errorf("DoOp, %s: more than the locks and the one who waits is changed: %v", c.name, got)
		}
	}
}

// TestSystemLocks is of operations that the system alone has.
func TestSystemLocks(t *testing.T) {
	for _, c := range []struct {
		name, locks, op, came, then string
	}{
		{"clean", "", "clean 5", "ok", "0 1:ix | 6 1:x"},
		{"pack", "", "pack", "ok", "0 1:is"},
		{"build", "", "build", "ok", "0 1:s"},
		{"pack while one puts", "0 2:ix | 8 2:x", "pack", "ok", "0 2:ix 1:is | 8 2:x"},
		{"pack while one has all", "0 2:x", "pack", "waits", "0 2:x 1?is"},
		{"build while one puts", "0 2:ix | 8 2:x", "build", "waits", "0 2:ix 1?s | 8 2:x"},
		{"clean of a key that is put", "0 2:ix | 6 2:x", "clean 5", "waits", "0 2:ix 1:ix | 6 2:x 1?x"},
		{"clean of a key that is read", "0 2:is | 6 2:s", "clean 5", "waits", "0 2:is 1:ix | 6 2:s 1?x"},
		{"build behind a clean", "0 1:ix | 6 1:x", "build", "ok", "0 1:six | 6 1:x"},
	} {
		e := lockedEngine(2, c.locks)
		e.Txns[0].System = true
		got := do(t, e, 1, opNamed(c.op))
		if cameTo(got) != c.came || !sameLocks(got.Engine.Locks, locksOf(c.then)) {
			t.Errorf("DoOp, %s: %s with the locks %v, want %s with %s", c.name, cameTo(got), got.Engine.Locks, c.came, c.then)
		}
	}
}

// doneCase is an operation that is done at once, and how the engine is turned by it, but for its act.
type doneCase struct {
	name   string
	system bool
	op     string
	answer []int64
	turn   func(e *impl.Engine)
}

func setOf(key int64, old, now some) []byte {
	return recData(change(impl.LogSet, 1, key, old, now))
}

func doneCases() []doneCase {
	return []doneCase{
		{"put of a new key", false, "put 6 3", nil, func(e *impl.Engine) {
			e.Leaves[0] = leaf(row(1, 3), ghost(5), row(6, 3))
			e.Wal.Loose, e.Index = setOf(6, some{}, some{true, 3}), pairsNamed("3:1 3:6 3:7 4:20")
			e.Txns[0].Undo, e.Locks = []impl.Before{hadNone(6)}, locksOf("0 1:ix | 7 1:x")
		}},
		{"put of one that is there", false, "put 7 9999", nil, func(e *impl.Engine) {
			e.Leaves[1] = leaf(row(7, 9999), row(20, 4))
			e.Wal.Loose, e.Index = setOf(7, some{true, 3}, some{true, 9999}), pairsNamed("3:1 4:20 9999:7")
			e.Txns[0].Undo, e.Locks = []impl.Before{had(7, 3)}, locksOf("0 1:ix | 8 1:x")
		}},
		{"put of what is there", false, "put 1 3", nil, func(e *impl.Engine) {
			e.Wal.Loose, e.Index = setOf(1, some{true, 3}, some{true, 3}), pairsNamed("3:1 3:7 4:20")
			e.Txns[0].Undo, e.Locks = []impl.Before{had(1, 3)}, locksOf("0 1:ix | 2 1:x")
		}},
		{"put of a ghost", false, "put 5 0", nil, func(e *impl.Engine) {
			e.Leaves[0] = leaf(row(1, 3), row(5, 0))
			e.Wal.Loose, e.Index = setOf(5, some{}, some{true, 0}), pairsNamed("0:5 3:1 3:7 4:20")
			e.Txns[0].Undo, e.Locks = []impl.Before{hadNone(5)}, locksOf("0 1:ix | 6 1:x")
		}},
		{"delete of one that is there", false, "delete 7", nil, func(e *impl.Engine) {
			e.Leaves[1] = leaf(ghost(7), row(20, 4))
			e.Wal.Loose, e.Index = setOf(7, some{true, 3}, some{}), pairsNamed("3:1 4:20")
			e.Txns[0].Undo, e.Locks = []impl.Before{had(7, 3)}, locksOf("0 1:ix | 8 1:x")
		}},
		{"delete of none", false, "delete 8", nil, func(e *impl.Engine) {
			e.Wal.Loose, e.Index = setOf(8, some{}, some{}), pairsNamed("3:1 3:7 4:20")
			e.Txns[0].Undo, e.Locks = []impl.Before{hadNone(8)}, locksOf("0 1:ix | 9 1:x")
		}},
		{"delete of a ghost", false, "delete 5", nil, func(e *impl.Engine) {
			e.Wal.Loose, e.Index = setOf(5, some{}, some{}), pairsNamed("3:1 3:7 4:20")
			e.Txns[0].Undo, e.Locks = []impl.Before{hadNone(5)}, locksOf("0 1:ix | 6 1:x")
		}},
		{"get", false, "get 20", []int64{4}, func(e *impl.Engine) { e.Locks = locksOf("0 1:is | 21 1:s") }},
		{"scan", false, "scan 5 20", []int64{7, 3, 20, 4}, func(e *impl.Engine) { e.Locks = locksOf("0 1:s") }},
		{"clean of a ghost", true, "clean 5", nil, func(e *impl.Engine) {
			e.Leaves[0], e.Locks = leaf(row(1, 3)), locksOf("0 1:ix | 6 1:x")
		}},
		{"clean of a row that is no ghost", true, "clean 7", nil, func(e *impl.Engine) { e.Locks = locksOf("0 1:ix | 8 1:x") }},
		{"clean of no row", true, "clean 6", nil, func(e *impl.Engine) { e.Locks = locksOf("0 1:ix | 7 1:x") }},
		{"pack", true, "pack", nil, func(e *impl.Engine) {
			e.Leaves, e.Locks = []impl.Leaf{leaf(row(1, 3), ghost(5), row(7, 3), row(20, 4))}, locksOf("0 1:is")
		}},
		{"build", true, "build", nil, func(e *impl.Engine) {
			e.Built, e.Index, e.Locks = true, pairsNamed("3:1 3:7 4:20"), locksOf("0 1:s")
		}},
		{"commit", false, "commit", nil, func(e *impl.Engine) {
			e.Wal.Sure = recsData(plain(impl.LogBegin, 1), plain(impl.LogCommit, 1))
			e.Txns[0].State, e.Commits = impl.TxnDone, []int64{1}
		}},
		{"abort", true, "abort", nil, func(e *impl.Engine) {
			e.Wal.Loose, e.Txns[0].State = recsData(plain(impl.LogEnd, 1)), impl.TxnGone
		}},
	}
}

func TestDoOpDone(t *testing.T) {
	for _, c := range doneCases() {
		for _, built := range []bool{false, true} {
			e := smallEngine(c.system, built)
			want := smallEngine(c.system, built)
			c.turn(&want)
			if !want.Built {
				want.Index = nil
			}
			want.Acts = []impl.Act{act(1, opNamed(c.op), c.answer...)}
			if got := do(t, e, 1, opNamed(c.op)); !same(got, impl.EngineResult{Answer: c.answer, Engine: want}) {
				t.Errorf("DoOp, %s: %v, want %v", c.name, got, want)
			}
		}
	}
	find := do(t, smallEngine(true, true), 1, opNamed("find 3"))
	want := smallEngine(true, true)
	want.Locks, want.Acts = locksOf("0 1:s"), []impl.Act{act(1, opNamed("find 3"), 1, 7)}
	if !same(find, impl.EngineResult{Answer: []int64{1, 7}, Engine: want}) {
		t.Errorf("DoOp, find: %v, want %v", find, want)
	}
}

// TestCommitAndAbortOfChanges has a key that is changed twice, one that is new, and one that is deleted.
func TestCommitAndAbortOfChanges(t *testing.T) {
	for _, built := range []bool{false, true} {
		e := smallEngine(false, built)
		changed := play(t, e, "1 put 1 8; 1 put 6 4; 1 delete 20; 1 put 1 9; 1 get 1").Engine
		if undo := changed.Txns[0].Undo; !same(undo, []impl.Before{had(1, 3), hadNone(6), had(20, 4), had(1, 8)}) {
			t.Fatalf("what was before: %v", undo)
		}
		acts := []impl.Act{act(1, opNamed("put 1 8")), act(1, opNamed("put 6 4")), act(1, opNamed("delete 20")), act(1, opNamed("put 1 9")), act(1, opNamed("get 1"), 9)}
		sets := recsData(
			change(impl.LogSet, 1, 1, some{true, 3}, some{true, 8}), change(impl.LogSet, 1, 6, some{}, some{true, 4}),
			change(impl.LogSet, 1, 20, some{true, 4}, some{}), change(impl.LogSet, 1, 1, some{true, 8}, some{true, 9}),
		)
		backs := recsData(
			change(impl.LogBack, 1, 1, some{true, 9}, some{true, 8}), change(impl.LogBack, 1, 20, some{}, some{true, 4}),
			change(impl.LogBack, 1, 6, some{true, 4}, some{}), change(impl.LogBack, 1, 1, some{true, 8}, some{true, 3}), plain(impl.LogEnd, 1),
		)
		want := smallEngine(false, built)
		want.Leaves = []impl.Leaf{leaf(row(1, 9), ghost(5), row(6, 4)), leaf(row(7, 3), ghost(20))}
		want.Wal.Sure = append(append(want.Wal.Sure, sets...), recData(plain(impl.LogCommit, 1))...)
		want.Txns[0].State, want.Commits = impl.TxnDone, []int64{1}
		want.Acts = append(bareOf(acts), act(1, opNamed("commit")))
		if built {
			want.Index = pairsNamed("3:7 4:6 9:1")
		}
		if got := do(t, changed, 1, opNamed("commit")); !same(got, impl.EngineResult{Engine: want}) {
			t.Errorf("commit of changes: %v, want %v", got, want)
		}
		want = smallEngine(false, built)
		want.Leaves[0] = leaf(row(1, 3), ghost(5), ghost(6))
		want.Wal.Loose = append(sets, backs...)
		want.Txns[0].State = impl.TxnGone
		want.Acts = append(bareOf(acts), act(1, opNamed("abort")))
		if got := do(t, changed, 1, opNamed("abort")); !same(got, impl.EngineResult{Engine: want}) {
			t.Errorf("abort of changes: %v, want %v", got, want)
		}
	}
}

// TestNoLeafIsLeft has leaves in which there is no room for the key 3.
func TestNoLeafIsLeft(t *testing.T) {
	for _, built := range []bool{false, true} {
		full := impl.Engine{Leaves: fullLeaves(), Txns: liveTxns(2, 0), Built: built}
		full.Txns[0].Undo = []impl.Before{had(5, 70), hadNone(4)}
		full.Txns[1].State, full.Txns[1].Wait, full.Locks = impl.TxnWaits, getOf(5), locksOf("0 1:ix 2:is | 6 1:x 2?s")
		full.Acts = []impl.Act{act(1, opNamed("put 5 1"))}
		want := bareOf(full)
		want.Leaves[0] = leaf(row(1, 9999), ghost(2), ghost(4), row(5, 70))
		if built {
			full.Index, want.Index = wantedIndex(full.Leaves).Pairs, wantedIndex(want.Leaves).Pairs
		}
		want.Wal.Loose = recsData(
			change(impl.LogBack, 1, 4, some{true, 0}, some{}), change(impl.LogBack, 1, 5, some{true, 1}, some{true, 70}), plain(impl.LogEnd, 1),
		)
		want.Txns[0] = impl.Txn{Id: 1, State: impl.TxnGone}
		want.Locks = locksOf("0 2:is | 6 2:s")
		want.Acts = append(want.Acts, act(1, opNamed("abort")))
		if got := do(t, full, 1, opNamed("put 3 1")); !same(got, impl.EngineResult{Code: impl.ErrVictim, Victims: []int64{1}, Engine: want}) {
			t.Errorf("put without a leaf for it: %v, want %v", got, want)
		}
		for _, lines := range []string{"1 put 2 7", "1 delete 3", "1 put 6 1", "1 get 3"} {
			if got := play(t, full, lines); got.Code != (map[bool]int64{true: impl.ErrVictim})[lines == "1 put 6 1"] {
				t.Errorf("%s: %v", lines, got)
			}
		}
	}
}

// TestWhatCannotBeTakenBack has an Undo for which there is no leaf left.
func TestWhatCannotBeTakenBack(t *testing.T) {
	for _, built := range []bool{false, true} {
		full := impl.Engine{Leaves: fullLeaves(), Txns: liveTxns(1, 0), Built: built, Locks: locksOf("0 1:ix | 5 1:x")}
		full.Txns[0].Undo = []impl.Before{had(3, 1), had(5, 70)}
		if built {
			full.Index = wantedIndex(full.Leaves).Pairs
		}
		want := bareOf(full)
		want.Txns[0] = impl.Txn{Id: 1, State: impl.TxnGone}
		want.Wal.Loose, want.Locks, want.Acts = recData(plain(impl.LogEnd, 1)), nil, []impl.Act{act(1, opNamed("abort"))}
		if got := do(t, full, 1, opNamed("abort")); !same(got, impl.EngineResult{Engine: want}) {
			t.Errorf("abort of what cannot be taken back: %v, want %v", got, want)
		}
		if got := do(t, full, 1, opNamed("put 3 1")); !same(got, impl.EngineResult{Code: impl.ErrVictim, Victims: []int64{1}, Engine: want}) {
			t.Errorf("put of what cannot be taken back: %v, want %v", got, want)
		}
	}
}
