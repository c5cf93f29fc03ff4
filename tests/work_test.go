package tests

import (
	"slices"
	"strings"
	"testing"

	"loop.example/g00270/impl"
)

// told is what a transaction was told of an operation that reads.
type told struct {
	txn    int64
	op     impl.Op
	answer []int64
}

// walk is a store in which some do something by turns, and what those who have not come to their end were told.
type walk struct {
	t    *testing.T
	next func(int64) int64
	e    impl.Engine
	told []told
	came map[string]int
}

func isReading(o impl.Op) bool {
	return o.Kind == impl.OpGet || o.Kind == impl.OpScan || o.Kind == impl.OpFind
}

// someOp has few keys, so that many are in one another's way; ends come seldom, and so does what is not for one of a user, or of the system.
func someOp(next func(int64) int64, system bool, keys int64) impl.Op {
	kinds := []int64{impl.OpGet, impl.OpGet, impl.OpGet, impl.OpGet, impl.OpScan, impl.OpFind}
	if system == (next(9) != 0) {
		kinds = append(kinds, impl.OpClean, impl.OpClean, impl.OpClean, impl.OpPack, impl.OpBuild)
	} else {
		kinds = append(kinds, impl.OpPut, impl.OpPut, impl.OpPut, impl.OpPut, impl.OpDelete)
	}
	if next(4) == 0 {
		kinds = append(kinds, impl.OpCommit, impl.OpCommit, impl.OpAbort)
	}
	o := impl.Op{Kind: kinds[next(int64(len(kinds)))]}
	for _, field := range opFieldsOf() {
		if slices.Contains([]byte(fieldsByKind()[o.Kind]), field.name[0]) {
			*field.of(&o) = next(keys)
		}
	}
	return o
}

func (w *walk) step(keys int64) {
	w.t.Helper()
	count := int64(len(w.e.Txns))
	if count < 3 || count < impl.MaxTxns && w.next(12) == 0 {
		w.e = impl.BeginTxn(w.e, w.next(3) == 0).Engine
		return
	}
	txn := w.who()
	own := w.e.Txns[txn-1]
	if own.State == impl.TxnWaits && w.next(8) != 0 {
		w.look(txn, own.Wait, resume(w.t, w.e, txn))
		return
	}
	o := someOp(w.next, own.System, keys)
	w.look(txn, o, do(w.t, w.e, txn, o))
}

// who tells most often one who can go on, if there is one.
func (w *walk) who() int64 {
	count := int64(len(w.e.Txns))
	txn := w.next(count) + 1
	for range w.next(30) {
		if impl.StateOf(w.e, txn).Value == impl.TxnLive || impl.CanResume(w.e, txn) {
			break
		}
		txn = w.next(count) + 1
	}
	return txn
}

// look asks what is promised of an operation that was asked for; got was held against the document already.
func (w *walk) look(txn int64, o impl.Op, got impl.EngineResult) {
	w.t.Helper()
	if got.Code != impl.OK && got.Code != impl.ErrVictim {
		w.came["code"]++
		return
	}
	before, after := w.e, got.Engine
	w.e = after
	state := impl.StateOf(after, txn).Value
	switch {
	case got.Code == impl.ErrVictim:
		w.came["victim"]++
		if state != impl.TxnGone || got.Victims[len(got.Victims)-1] != txn {
			w.t.Fatalf("%d gave way at %v: %v", txn, o, got)
		}
	case got.Waits:
		w.came["waits"]++
		if state != impl.TxnWaits || after.Txns[txn-1].Wait != o || impl.WaitsAt(after.Locks, txn).Code != impl.OK || impl.CanResume(after, txn) {
			w.t.Fatalf("%d waits at %v: %v", txn, o, got)
		}
	default:
		w.came["ok"]++
		w.lookAtDone(before, txn, o, got)
	}
	w.came["victims"] += min(1, len(got.Victims))
	w.came["more victims"] += max(1, len(got.Victims)) - 1
	w.lookAtAll()
}

// lookAtDone is of what was done: who did it has the locks for it, and who reads changes no row, and is told what there is.
func (w *walk) lookAtDone(before impl.Engine, txn int64, o impl.Op, got impl.EngineResult) {
	w.t.Helper()
	after := got.Engine
	last := after.Acts[len(after.Acts)-1]
	if !same(last, act(txn, o, got.Answer...)) || len(after.Acts) != len(before.Acts)+len(got.Victims)+1 {
		w.t.Fatalf("%d did %v, and the last act is %v", txn, o, last)
	}
	for _, need := range impl.NeedsOf(o).Needs {
		if held := impl.ModeOf(after.Locks, txn, need.Res).Value; !impl.CoversMode(held, need.Mode) {
			w.t.Fatalf("%d did %v, and holds %d in %d", txn, o, need.Res, held)
		}
	}
	if len(got.Victims) == 0 && o.Kind != impl.OpPut && o.Kind != impl.OpDelete && o.Kind != impl.OpAbort && !same(impl.MapOf(before), impl.MapOf(after)) {
		w.t.Fatalf("%d did %v, and the rows are others: %v, %v", txn, o, impl.MapOf(before), impl.MapOf(after))
	}
	if isReading(o) {
		w.told = append(w.told, told{txn, o, got.Answer})
	} else if len(got.Answer) != 0 {
		w.t.Fatalf("%d did %v, and is told %v", txn, o, got.Answer)
	}
	if o.Kind == impl.OpPut || o.Kind == impl.OpDelete {
		w.told = slices.DeleteFunc(w.told, func(s told) bool { return s.txn == txn })
	}
}

// lookAtAll is of all transactions: who is at their end has no lock, and who was told something would be told the same still.
func (w *walk) lookAtAll() {
	w.t.Helper()
	for _, own := range w.e.Txns {
		if own.State < impl.TxnDone {
			continue
		}
		w.told = slices.DeleteFunc(w.told, func(s told) bool { return s.txn == own.Id })
		if held := impl.ResOf(w.e.Locks, own.Id).List; len(held) > 0 || waitsIn(w.e.Locks, own.Id) {
			w.t.Fatalf("%d is at its end, and holds %v: %v", own.Id, held, w.e.Locks)
		}
	}
	for _, s := range w.told {
		if now := impl.AnswerOf(w.e, s.op); !same(now, impl.IntsResult{List: s.answer}) {
			w.t.Fatalf("%d was told %v of %v, and would be told %v", s.txn, s.answer, s.op, now)
		}
	}
}

// TestWalks is of promise 12: whatever is asked, in new stores of few keys and of many, with an index and without one.
func TestWalks(t *testing.T) {
	came := map[string]int{}
	for seed := range uint32(150) {
		next := numbersFrom(seed + 1)
		keys := []int64{2, 3, 4, 6, 20}[next(5)]
		w := &walk{t: t, next: next, e: impl.NewEngine(manyRows(next(8))).Engine, came: came}
		for range 70 {
			w.step(keys)
		}
	}
	for _, name := range []string{"ok", "waits", "victim", "victims", "more victims", "code"} {
		if came[name] < 10 {
			t.Errorf("too seldom %s: %v", name, came)
		}
	}
}

// TestLongWalks goes on until there is no room for acts, and asks the same at the end still.
func TestLongWalks(t *testing.T) {
	for seed := range uint32(4) {
		w := &walk{t: t, next: numbersFrom(seed + 900), e: impl.NewEngine(manyRows(12)).Engine, came: map[string]int{}}
		for len(w.e.Acts) < impl.MaxActs && len(w.e.Txns) < impl.MaxTxns {
			w.step(12)
		}
		for range 60 {
			w.step(12)
		}
		if w.came["ok"] < 30 {
			t.Errorf("too little was done: %v", w.came)
		}
	}
}

// TestWhoScansTwiceIsToldTheSame has others do what they can between two scans, each of the first ones by themselves.
func TestWhoScansTwiceIsToldTheSame(t *testing.T) {
	for _, read := range []string{"scan 0 9", "scan 2 4", "get 3", "get 42"} {
		for _, ops := range []string{"put 3 7", "delete 3", "put 42 1", "put 3 7; 2 commit", "get 3; 2 put 3 1; 2 commit", "scan 0 9; 2 put 3 1; 2 abort"} {
			e := begun(keyStore(), "uu")
			first := do(t, e, 1, opNamed(read))
			between := playOn(t, first.Engine, "2 "+ops)
			if second := do(t, between, 1, opNamed(read)); second.Code != impl.OK || second.Waits || !same(second.Answer, first.Answer) {
				t.Errorf("%s, then %s, then again: %s, then %s", read, ops, cameTo(first), cameTo(second))
			}
		}
	}
}

// playOn leaves out what has a code.
func playOn(t *testing.T, e impl.Engine, lines string) impl.Engine {
	t.Helper()
	for _, line := range strings.Split(lines, "; ") {
		if got := play(t, e, line); got.Code == impl.OK || got.Code == impl.ErrVictim {
			e = got.Engine
		}
	}
	return e
}

// madeUp puts an engine together as it comes, without a fault: locks that were asked for by anyone, so that there may be circles already (one of them waits for none, so that it may close some more), states and operations that no call would lead to, and little room here and there.
func madeUp(next func(int64) int64, leaves [][]impl.Leaf) impl.Engine {
	e := impl.Engine{Leaves: leaves[next(int64(len(leaves)))], Built: next(2) == 0}
	if e.Built {
		e.Index = wantedIndex(e.Leaves).Pairs
	}
	count := next(6) + 1
	if next(12) == 0 {
		count = 20
	}
	lives := next(count) + 1
	for range next(6 * count) {
		txn := next(count) + 1
		asked := impl.AskLock(e.Locks, txn, next(4), next(5)+1)
		if asked.Code == impl.OK && (asked.Granted || txn != lives) {
			e.Locks = asked.Locks
		}
	}
	e.Txns = liveTxns(count, 0)
	for i := range e.Txns {
		e.Txns[i] = madeUpTxn(next, &e, int64(i+1))
	}
	e.Acts = manyActs([]int64{0, 1, 5, 199, 200, 220}[min(next(6), next(6), next(6))])
	if next(4) == 0 {
		room := []int64{0, 5, 21, 22, 33}[next(5)]
		e.Wal.Loose = logBytes(int(wantedRoom(e) - room))
	}
	return e
}

func madeUpTxn(next func(int64) int64, e *impl.Engine, id int64) impl.Txn {
	own := impl.Txn{Id: id, System: next(3) == 0, State: next(12) + 1}
	if own.State > impl.TxnGone {
		own.State = impl.TxnLive
	}
	if waitsIn(e.Locks, id) {
		own.State = impl.TxnWaits
	}
	if own.State == impl.TxnWaits {
		own.Wait = someOp(next, own.System, 4)
	}
	if own.State == impl.TxnDone || own.State == impl.TxnGone {
		e.Locks = impl.FreeLocks(e.Locks, id).Locks
		if own.State == impl.TxnDone {
			e.Commits = append(e.Commits, id)
		}
		return own
	}
	for range next(4) {
		own.Undo = append(own.Undo, []impl.Before{had(next(100), next(10000)), hadNone(next(100)), had(next(4), 3)}[next(3)])
	}
	return own
}

func TestMadeUpEnginesAtWork(t *testing.T) {
	next := numbersFrom(77)
	codes := map[int64]int{}
	many := map[int]int{}
	leaves := append(someLeaves(), keyStore().Leaves, keyStore().Leaves, smallEngine(false, false).Leaves, fullLeaves(), fullLeaves())
	for range 2500 {
		e := madeUp(next, leaves)
		if code := impl.EngineFault(e); code != impl.OK {
			t.Fatalf("made up with the fault %d: %v", code, e)
		}
		for txn := int64(1); txn <= int64(min(len(e.Txns), 6)); txn++ {
			got := do(t, e, txn, someOp(next, e.Txns[txn-1].System, 4))
			codes[got.Code]++
			many[len(got.Victims)]++
			got = resume(t, e, txn)
			codes[got.Code]++
			many[len(got.Victims)]++
			if impl.CanResume(e, txn) != wantedCanResume(e, txn) || impl.StateOf(e, txn) != wantedState(e, txn) {
				t.Fatalf("the state of %d: %v, %v", txn, impl.CanResume(e, txn), impl.StateOf(e, txn))
			}
		}
	}
	for _, code := range []int64{impl.OK, impl.ErrForm, impl.ErrMany, impl.ErrNone, impl.ErrWait, impl.ErrVictim, impl.ErrState} {
		if codes[code] < 20 {
			t.Errorf("the code %d came too seldom: %v", code, codes)
		}
	}
	if many[1] < 50 || many[2] < 10 || many[3] == 0 {
		t.Errorf("too few victims: %v", many)
	}
}
