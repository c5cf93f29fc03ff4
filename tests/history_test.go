package tests

import (
	"slices"
	"strings"
	"testing"

	"loop.example/g00270/impl"
)

// checkLooksSerial is of promise 15, of a store that came of a new one, at any moment.
func checkLooksSerial(t *testing.T, e impl.Engine) {
	t.Helper()
	if !impl.SerialEngine(e) {
		t.Fatalf("SerialEngine is not so: %v", e)
	}
	if !impl.WaitsRight(e) {
		t.Fatalf("WaitsRight is not so: %v", e)
	}
}

// checkHistory asks more of a store that came of a new one, and holds all that is told against the document.
func checkHistory(t *testing.T, e impl.Engine, came map[string]int) {
	t.Helper()
	if !serial(t, e) || !waitsRight(t, e) || !strict(t, e.Acts) {
		t.Fatalf("what it looks like: %v", e)
	}
	whole := replayed(t, e.Base, e.Acts, e.Commits)
	if !whole.Same || !same(whole.Rows, committedRows(e.Base, e.Acts, e.Commits)) {
		t.Fatalf("ReplayActs: %v, of %v", whole, e)
	}
	checkOneBehindTheOther(t, e, whole.Rows)
	checkReadTwice(t, e, came)
	checkWritten(t, e)
	for kept := range int64(len(e.Wal.Loose) + 1) {
		if back := impl.CrashEngine(e, kept); !same(impl.MapOf(back.Engine).Rows, whole.Rows) {
			t.Fatalf("behind a crash at %d: %v, want %v", kept, impl.MapOf(back.Engine), whole.Rows)
		}
	}
}

// checkOneBehindTheOther has those who committed do what they did once more, each in a store where nobody else is: they are told the same.
func checkOneBehindTheOther(t *testing.T, e impl.Engine, rows []impl.Row) {
	t.Helper()
	now := e.Base
	for _, txn := range e.Commits {
		built := impl.BuildEngine(impl.NewEngine(now).Engine).Engine
		alone := impl.BeginTxn(built, e.Txns[txn-1].System)
		for _, a := range e.Acts {
			if a.Txn != txn {
				continue
			}
			alone = impl.DoOp(alone.Engine, 2, a.Op)
			if alone.Code != impl.OK || alone.Waits || !slices.Equal(alone.Answer, a.Answer) {
				t.Fatalf("%d did %v and was told %v; alone it is told %v", txn, a.Op, a.Answer, alone)
			}
		}
		now = impl.MapOf(alone.Engine).Rows
	}
	if !same(now, rows) {
		t.Fatalf("one behind the other they come to %v, want %v", now, rows)
	}
}

// checkReadTwice asks of all, whatever they came to: who reads the same twice, and wrote nothing between, is told the same.
func checkReadTwice(t *testing.T, e impl.Engine, came map[string]int) {
	t.Helper()
	for i, first := range e.Acts {
		if !isReading(first.Op) {
			continue
		}
		for _, second := range e.Acts[i+1:] {
			if second.Txn == first.Txn && isWriting(second.Op) {
				break
			}
			if second.Txn != first.Txn || second.Op != first.Op {
				continue
			}
			came["read twice"]++
			if !slices.Equal(first.Answer, second.Answer) {
				t.Fatalf("%d was told %v of %v, then %v", first.Txn, first.Answer, first.Op, second.Answer)
			}
		}
	}
}

// checkWritten holds WritesOf against what is to be taken back of those who are not at their end, and the locks that they have.
func checkWritten(t *testing.T, e impl.Engine) {
	t.Helper()
	for _, own := range e.Txns {
		got := writes(t, e.Acts, own.Id).List
		if own.State == impl.TxnDone || own.State == impl.TxnGone {
			continue
		}
		var changed []int64
		for _, before := range own.Undo {
			changed = append(changed, before.Key)
		}
		slices.Sort(changed)
		if changed = slices.Compact(changed); !slices.Equal(got, changed) {
			t.Fatalf("WritesOf %d: %v, and %v are to be taken back", own.Id, got, changed)
		}
		for _, key := range got {
			if mode := impl.ModeOf(e.Locks, own.Id, key+1); mode.Value != impl.ModeX {
				t.Fatalf("%d wrote %d, and has it in %v", own.Id, key, mode)
			}
		}
	}
}

// checkEndOfAll is of a store in which nobody lives or waits: it has just the rows that were committed, and the index tells them.
func checkEndOfAll(t *testing.T, e impl.Engine) {
	t.Helper()
	rows := impl.ReplayActs(e.Base, e.Acts, e.Commits).Rows
	if !same(impl.MapOf(e).Rows, rows) || len(e.Locks) > 0 {
		t.Fatalf("behind the end of all there are %v, want %v; locks %v", impl.MapOf(e), rows, e.Locks)
	}
	if !e.Built {
		return
	}
	for _, value := range append(numbersTo(0, 60), impl.MaxValue) {
		find := impl.Op{Kind: impl.OpFind, Value: value}
		if got := impl.AnswerOf(e, find); !same(got, impl.IntsResult{List: toldBy(storeOf(rows), find)}) {
			t.Fatalf("the index tells %v of %d, and there are %v", got, value, rows)
		}
	}
}

// history is a store in which many do something by turns, and what came of it.
type history struct {
	t    *testing.T
	next func(int64) int64
	e    impl.Engine
	came map[string]int
}

// take has the store go on, where there is something to go on with.
func (h *history) take(name string, code int64, then impl.Engine) {
	h.t.Helper()
	if code != impl.OK && code != impl.ErrVictim {
		h.came["code"]++
		return
	}
	h.e = then
	h.came[name]++
	checkLooksSerial(h.t, h.e)
}

func (h *history) step(keys int64) {
	h.t.Helper()
	if count := len(h.e.Txns); count < 3 || count < 16 && h.next(14) == 0 {
		begun := impl.BeginTxn(h.e, h.next(4) == 0)
		h.take("begun", begun.Code, begun.Engine)
		return
	}
	txn := h.next(int64(len(h.e.Txns))) + 1
	switch own := h.e.Txns[txn-1]; {
	case impl.CanResume(h.e, txn):
		h.did("resumed, and ", own.Wait, impl.ResumeTxn(h.e, txn))
	case own.State == impl.TxnLive:
		o := h.someAct(own, keys)
		h.did("", o, impl.DoOp(h.e, txn, o))
	case h.next(30) == 0:
		h.tidy()
	}
}

// someAct reads what was read already now and then.
func (h *history) someAct(own impl.Txn, keys int64) impl.Op {
	if len(h.e.Acts) > 0 && h.next(5) == 0 {
		for _, a := range slices.Backward(h.e.Acts) {
			if a.Txn == own.Id && isReading(a.Op) {
				return a.Op
			}
		}
	}
	return someOp(h.next, own.System, keys)
}

func (h *history) did(name string, o impl.Op, got impl.EngineResult) {
	h.t.Helper()
	kinds := map[int64]string{impl.OpFind: "found", impl.OpScan: "scanned", impl.OpCommit: "committed", impl.OpAbort: "aborted", impl.OpBuild: "built", impl.OpClean: "cleaned"}
	switch {
	case got.Code == impl.ErrVictim:
		name += "gave way"
	case got.Waits:
		name += "waits"
	case kinds[o.Kind] != "":
		name += kinds[o.Kind]
	default:
		name += "did something"
	}
	h.take(name, got.Code, got.Engine)
	if len(got.Victims) > 0 && got.Code == impl.OK {
		h.came["had others give way"]++
	}
}

// tidy has the system do its work between, all at once.
func (h *history) tidy() {
	h.t.Helper()
	if len(h.e.Txns) > 17 {
		return
	}
	works := []func(impl.Engine) impl.SystemResult{impl.CleanEngine, impl.PackEngine, impl.BuildEngine}
	got := works[h.next(3)](h.e)
	h.take(map[bool]string{true: "tidied up", false: "gave up"}[got.Done], got.Code, got.Engine)
}

// finish has all come to their end.
func (h *history) finish() {
	h.t.Helper()
	for strings.Contains(statesIn(h.e), "live") || strings.Contains(statesIn(h.e), "waits") {
		for _, own := range h.e.Txns {
			got := impl.EngineResult{Engine: h.e}
			if impl.CanResume(h.e, own.Id) {
				got = impl.ResumeTxn(h.e, own.Id)
			} else if impl.StateOf(h.e, own.Id).Value == impl.TxnLive {
				got = impl.DoOp(h.e, own.Id, opNamed([]string{"commit", "commit", "abort"}[h.next(3)]))
			}
			if got.Code != impl.OK && got.Code != impl.ErrVictim {
				h.t.Fatalf("%d cannot come to its end: %v", own.Id, got)
			}
			h.e = got.Engine
			checkLooksSerial(h.t, h.e)
		}
	}
}

// TestHistories is promise 15: whatever is done in new stores, with few keys and with many, by users and the system.
func TestHistories(t *testing.T) {
	came := map[string]int{}
	for seed := range uint32(120) {
		next := numbersFrom(seed + 1500)
		keys := []int64{2, 3, 5, 8, 30}[next(5)]
		h := &history{t: t, next: next, e: impl.NewEngine(manyRows(next(12))).Engine, came: came}
		if next(2) == 0 {
			h.e = impl.BuildEngine(h.e).Engine
		}
		for range 40 + next(160) {
			h.step(keys)
		}
		checkHistory(t, h.e, came)
		h.finish()
		checkHistory(t, h.e, came)
		checkEndOfAll(t, h.e)
	}
	checkCame(t, came, "begun", "did something", "found", "scanned", "committed", "aborted", "built", "cleaned", "waits", "gave way", "had others give way",
		"resumed, and did something", "resumed, and scanned", "resumed, and waits", "tidied up", "gave up", "read twice")
}

// TestHistoriesBehindACrash cuts the whole log at each byte: there is just what those did who committed by then, and they were told what is right. The store goes on from there.
func TestHistoriesBehindACrash(t *testing.T) {
	came := map[string]int{}
	for seed := range uint32(25) {
		next := numbersFrom(seed + 9100)
		h := &history{t: t, next: next, e: impl.NewEngine(manyRows(next(9))).Engine, came: came}
		for range 3 {
			for range 70 {
				h.step(5)
			}
			log := slices.Concat(h.e.Wal.Sure, h.e.Wal.Loose)
			for cut := range len(log) + 1 {
				commits := impl.CommittedOf(impl.ReadRecs(log[:cut]).Recs).List
				want := impl.ReplayActs(h.e.Base, h.e.Acts, commits)
				if got := impl.RecoverRows(h.e.Base, log[:cut]); !want.Same || !same(got.Rows, want.Rows) {
					t.Fatalf("the first %d bytes: %v, want %v", cut, got, want)
				}
				came["cut"]++
			}
			back := impl.CrashEngine(h.e, next(int64(len(h.e.Wal.Loose)+1)))
			if !slices.Equal(back.Answer, h.e.Commits) {
				t.Fatalf("behind the crash %v committed, want %v", back.Answer, h.e.Commits)
			}
			h.take("gone on", back.Code, back.Engine)
		}
		h.finish()
		checkHistory(t, h.e, came)
	}
	checkCame(t, came, "cut", "gone on", "committed", "aborted", "waits", "gave way")
}

// turned changes one thing of a store at random, which has no fault then.
func turned(next func(int64) int64, e impl.Engine) impl.Engine {
	e = bareOf(e)
	if len(e.Acts) == 0 {
		return e
	}
	at, other := next(int64(len(e.Acts))), next(int64(len(e.Acts)))
	switch next(7) {
	case 0:
		e.Acts[at].Answer = append(e.Acts[at].Answer, next(4))
	case 1:
		e.Acts[at].Answer = nil
	case 2:
		e.Acts[at], e.Acts[other] = e.Acts[other], e.Acts[at]
	case 3:
		e.Acts = slices.Delete(e.Acts, int(at), int(at+1))
	case 4:
		e.Acts[at].Txn = e.Acts[other].Txn
	case 5:
		slices.Reverse(e.Commits)
	case 6:
		e.Leaves = impl.PutRow(e.Leaves, row(next(5), next(4))).Leaves
		if e.Built {
			e.Index = wantedIndex(e.Leaves).Pairs
		}
	}
	return e
}

// TestTurnedHistories has one thing or two of a store changed that would be serial: what is told then is held against the document.
func TestTurnedHistories(t *testing.T) {
	came := map[string]int{}
	for seed := range uint32(60) {
		next := numbersFrom(seed + 333)
		h := &history{t: t, next: next, e: impl.NewEngine(manyRows(next(6))).Engine, came: map[string]int{}}
		for range 60 {
			h.step(4)
		}
		if next(3) != 0 {
			h.finish()
		}
		for range 40 {
			e := turned(next, h.e)
			if next(4) == 0 {
				e = turned(next, e)
			}
			if code := impl.EngineFault(e); code != impl.OK {
				t.Fatalf("turned, and has the fault %d: %v", code, e)
			}
			came[map[bool]string{true: "serial", false: "not serial"}[serial(t, e)]]++
			came[map[bool]string{true: "strict", false: "not strict"}[strict(t, e.Acts)]]++
			came[map[bool]string{true: "the same", false: "not the same"}[replayed(t, e.Base, e.Acts, e.Commits).Same]]++
		}
	}
	checkCame(t, came, "serial", "not serial", "strict", "not strict", "the same", "not the same")
}

// TestMadeUpEnginesLookedAt has engines that no call would lead to, with circles here and there.
func TestMadeUpEnginesLookedAt(t *testing.T) {
	next := numbersFrom(4242)
	came := map[string]int{}
	leaves := append(someLeaves(), keyStore().Leaves, nil, nil)
	for range 1500 {
		e := madeUp(next, leaves)
		if next(2) == 0 {
			e.Base = impl.ScanRows(e.Leaves, 0, 99).Rows
		}
		e.Acts = toldActs(next, e.Base, int64(len(e.Txns)), 4)
		came[map[bool]string{true: "serial", false: "not serial"}[serial(t, e)]]++
		came[map[bool]string{true: "no circle", false: "a circle"}[waitsRight(t, e)]]++
	}
	checkCame(t, came, "serial", "not serial", "no circle", "a circle")
}
