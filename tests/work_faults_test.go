package tests

import (
	"math"
	"slices"
	"testing"

	"loop.example/g00270/impl"
)

// checkTxnCode asks all that take an engine and a transaction: they tell the code alone.
func checkTxnCode(t *testing.T, name string, e impl.Engine, txn int64, o impl.Op, want int64) {
	t.Helper()
	for _, got := range []impl.EngineResult{impl.DoOp(e, txn, o), impl.ResumeTxn(e, txn)} {
		if !same(got, impl.EngineResult{Code: want}) {
			t.Fatalf("%s, of %d and %v: %v, want the code %d", name, txn, o, got, want)
		}
	}
	if got := impl.StateOf(e, txn); got != (impl.IntResult{Code: want}) {
		t.Fatalf("StateOf, %s, of %d: %v, want the code %d", name, txn, got, want)
	}
	if impl.CanResume(e, txn) {
		t.Fatalf("CanResume, %s, of %d", name, txn)
	}
}

// oddOps has operations with and without faults.
func oddOps() []impl.Op {
	ops := []impl.Op{{}, {Kind: 11}, {Kind: impl.OpGet, High: 1}, {Kind: impl.OpCommit, Key: 1}, {Kind: impl.OpPack, Value: 1}}
	for _, text := range []string{
		"get 0", "get 99", "get 100", "get -1", "put 1 0", "put 1 10000", "put 100 1", "delete 5", "delete 100", "scan 0 99", "scan 9 3", "scan 0 100",
		"find 3", "find 10000", "commit", "abort", "clean 5", "clean 100", "pack", "build",
	} {
		ops = append(ops, opNamed(text))
	}
	return ops
}

func TestOperationsAskTheEngineFirst(t *testing.T) {
	for _, wrong := range allBreaks() {
		e := busyEngine()
		wrong.turn(&e)
		name := wrong.part + ", " + wrong.name
		for _, txn := range []int64{math.MinInt64, -1, 0, 1, 2, 3, 9, 10, 21, math.MaxInt64} {
			checkTxnCode(t, name, e, txn, opNamed("get 1"), wrong.want)
			checkTxnCode(t, name, e, txn, impl.Op{Kind: 11, Key: 100}, wrong.want)
		}
		for _, o := range oddOps()[:8] {
			if got := impl.AnswerOf(e, o); !same(got, impl.IntsResult{Code: wrong.want}) {
				t.Fatalf("AnswerOf %v, %s: %v, want the code %d", o, name, got, wrong.want)
			}
		}
	}
}

// TestTransactionsThatAreNone has numbers below, just at and just behind those that there are.
func TestTransactionsThatAreNone(t *testing.T) {
	for _, e := range someEngines() {
		count := int64(len(e.Txns))
		for _, txn := range append(wrongTxns(), count+1, count+2, 21, 999) {
			for _, o := range []impl.Op{opNamed("get 1"), opNamed("put 1 10000"), {}, opNamed("find 1"), opNamed("pack")} {
				checkTxnCode(t, "no transaction", e, txn, o, impl.ErrRange)
			}
		}
		for txn := int64(1); txn <= count; txn++ {
			want := impl.IntResult{Value: e.Txns[txn-1].State}
			if got := impl.StateOf(e, txn); got != want || got != wantedState(e, txn) {
				t.Fatalf("StateOf %d of %d: %v, want %v", txn, count, got, want)
			}
			if impl.CanResume(e, txn) != wantedCanResume(e, txn) {
				t.Fatalf("CanResume %d of %d: %v", txn, count, impl.CanResume(e, txn))
			}
		}
	}
}

func TestStateOfAndCanResumeCases(t *testing.T) {
	for _, c := range []struct {
		txn, state int64
		can        bool
	}{
		{1, impl.TxnLive, false}, {2, impl.TxnWaits, false}, {3, impl.TxnDone, false}, {4, impl.TxnGone, false}, {5, impl.TxnLive, false},
		{6, impl.TxnDone, false}, {7, impl.TxnWaits, false}, {8, impl.TxnWaits, true}, {9, impl.TxnGone, false},
	} {
		if got := impl.StateOf(busyEngine(), c.txn); got != (impl.IntResult{Value: c.state}) {
			t.Errorf("StateOf %d: %v, want %d", c.txn, got, c.state)
		}
		if got := impl.CanResume(busyEngine(), c.txn); got != c.can {
			t.Errorf("CanResume %d: %v", c.txn, got)
		}
	}
	freed := busyEngine()
	freed.Locks = locksOf("100 5:s 8:s")
	for _, txn := range []int64{2, 7, 8} {
		if !impl.CanResume(freed, txn) {
			t.Errorf("CanResume %d, which waits for no lock: false", txn)
		}
	}
}

// asked is who asks for what, in an engine of one transaction.
type asked struct {
	state, acts, undo, room int64
	system, built           bool
	op                      impl.Op
}

// engine has just as much room left as is told.
func (a asked) engine() impl.Engine {
	e := impl.Engine{Leaves: []impl.Leaf{leaf(row(1, 3), ghost(5))}, Txns: liveTxns(1, a.undo), Acts: manyActs(a.acts), Built: a.built}
	e.Txns[0].State, e.Txns[0].System = a.state, a.system
	kept := 5 + 11*a.undo
	switch a.state {
	case impl.TxnWaits:
		e.Txns[0].Wait = a.op
	case impl.TxnDone:
		e.Commits = []int64{1}
		fallthrough
	case impl.TxnGone:
		e.Txns[0].Undo, kept = nil, 0
	}
	e.Wal.Sure = logBytes(int(4000 - kept - a.room))
	if a.built {
		e.Index = pairsNamed("3:1")
	}
	return e
}

func TestDoOpCodes(t *testing.T) {
	const lots = 3000
	for _, c := range []struct {
		name string
		asked
		want int64
	}{
		{"one that lives", asked{impl.TxnLive, 0, 0, lots, false, false, opNamed("get 1")}, impl.OK},
		{"one that waits", asked{impl.TxnWaits, 0, 0, lots, false, false, opNamed("get 1")}, impl.ErrState},
		{"one that is done", asked{impl.TxnDone, 0, 0, lots, false, false, opNamed("get 1")}, impl.ErrState},
		{"one that is gone", asked{impl.TxnGone, 0, 0, lots, false, false, opNamed("get 1")}, impl.ErrState},
		{"done, ahead of no kind", asked{impl.TxnDone, 0, 0, lots, false, false, impl.Op{}}, impl.ErrState},
		{"gone, ahead of a key out of bounds", asked{impl.TxnGone, 0, 0, lots, false, false, opNamed("get 100")}, impl.ErrState},
		{"gone, ahead of one of the system", asked{impl.TxnGone, 0, 0, lots, false, false, opNamed("pack")}, impl.ErrState},
		{"gone, ahead of no index", asked{impl.TxnGone, 0, 0, lots, false, false, opNamed("find 1")}, impl.ErrState},
		{"gone, ahead of too many acts", asked{impl.TxnGone, 200, 0, lots, false, false, opNamed("get 1")}, impl.ErrState},
		{"no kind", asked{impl.TxnLive, 0, 0, lots, false, false, impl.Op{}}, impl.ErrForm},
		{"a key out of bounds", asked{impl.TxnLive, 0, 0, lots, false, false, opNamed("get 100")}, impl.ErrRange},
		{"a field that it has not", asked{impl.TxnLive, 0, 0, lots, false, false, impl.Op{Kind: impl.OpCommit, High: 1}}, impl.ErrForm},
		{"out of bounds, ahead of one of the system", asked{impl.TxnLive, 0, 0, lots, false, false, opNamed("clean 100")}, impl.ErrRange},
		{"out of bounds, ahead of one of users", asked{impl.TxnLive, 0, 0, lots, true, false, opNamed("put 1 10000")}, impl.ErrRange},
		{"out of bounds, ahead of no index", asked{impl.TxnLive, 0, 0, lots, false, false, opNamed("find 10000")}, impl.ErrRange},
		{"out of bounds, ahead of too many acts", asked{impl.TxnLive, 200, 0, lots, false, false, opNamed("get 100")}, impl.ErrRange},
		{"out of bounds, ahead of too little room", asked{impl.TxnLive, 0, 40, 0, false, false, opNamed("delete 100")}, impl.ErrRange},
		{"clean of a user", asked{impl.TxnLive, 0, 0, lots, false, false, opNamed("clean 5")}, impl.ErrForm},
		{"pack of a user", asked{impl.TxnLive, 0, 0, lots, false, false, opNamed("pack")}, impl.ErrForm},
		{"build of a user", asked{impl.TxnLive, 0, 0, lots, false, false, opNamed("build")}, impl.ErrForm},
		{"put of the system", asked{impl.TxnLive, 0, 0, lots, true, false, opNamed("put 1 1")}, impl.ErrForm},
		{"delete of the system", asked{impl.TxnLive, 0, 0, lots, true, false, opNamed("delete 1")}, impl.ErrForm},
		{"clean of the system", asked{impl.TxnLive, 0, 0, lots, true, false, opNamed("clean 5")}, impl.OK},
		{"pack of the system", asked{impl.TxnLive, 0, 0, lots, true, false, opNamed("pack")}, impl.OK},
		{"build of the system", asked{impl.TxnLive, 0, 0, lots, true, false, opNamed("build")}, impl.OK},
		{"put of a user", asked{impl.TxnLive, 0, 0, lots, false, false, opNamed("put 1 1")}, impl.OK},
		{"delete of a user", asked{impl.TxnLive, 0, 0, lots, false, false, opNamed("delete 1")}, impl.OK},
		{"get of the system", asked{impl.TxnLive, 0, 0, lots, true, false, opNamed("get 1")}, impl.OK},
		{"scan of the system", asked{impl.TxnLive, 0, 0, lots, true, false, opNamed("scan 0 9")}, impl.OK},
		{"find of the system", asked{impl.TxnLive, 0, 0, lots, true, true, opNamed("find 3")}, impl.OK},
		{"commit of the system", asked{impl.TxnLive, 0, 0, lots, true, false, opNamed("commit")}, impl.OK},
		{"abort of the system", asked{impl.TxnLive, 0, 0, lots, true, false, opNamed("abort")}, impl.OK},
		{"of the system alone, ahead of too many acts", asked{impl.TxnLive, 200, 0, lots, false, false, opNamed("pack")}, impl.ErrForm},
		{"of users alone, ahead of too many to be taken back", asked{impl.TxnLive, 0, 40, 0, true, false, opNamed("put 1 1")}, impl.ErrForm},
		{"no index", asked{impl.TxnLive, 0, 0, lots, false, false, opNamed("find 3")}, impl.ErrNone},
		{"no index, of the system", asked{impl.TxnLive, 0, 0, lots, true, false, opNamed("find 3")}, impl.ErrNone},
		{"no index, ahead of too many acts", asked{impl.TxnLive, 200, 0, lots, false, false, opNamed("find 3")}, impl.ErrNone},
		{"an index", asked{impl.TxnLive, 0, 0, lots, false, true, opNamed("find 3")}, impl.OK},
		{"an index, too many acts", asked{impl.TxnLive, 200, 0, lots, false, true, opNamed("find 3")}, impl.ErrMany},
		{"acts just below", asked{impl.TxnLive, 199, 0, lots, false, false, opNamed("get 1")}, impl.OK},
		{"too many acts", asked{impl.TxnLive, 200, 0, lots, false, false, opNamed("get 1")}, impl.ErrMany},
		{"one act more", asked{impl.TxnLive, 201, 0, lots, false, false, opNamed("get 1")}, impl.ErrMany},
		{"as many acts as an engine may have", asked{impl.TxnLive, 220, 0, lots, false, false, opNamed("get 1")}, impl.ErrMany},
		{"too many acts for a commit", asked{impl.TxnLive, 200, 0, lots, false, false, opNamed("commit")}, impl.ErrMany},
		{"too many acts for an abort", asked{impl.TxnLive, 200, 0, lots, false, false, opNamed("abort")}, impl.ErrMany},
		{"acts just below, a commit", asked{impl.TxnLive, 199, 0, lots, false, false, opNamed("commit")}, impl.OK},
		{"put with 39 to be taken back", asked{impl.TxnLive, 0, 39, lots, false, false, opNamed("put 1 1")}, impl.OK},
		{"put with 40", asked{impl.TxnLive, 0, 40, lots, false, false, opNamed("put 1 1")}, impl.ErrMany},
		{"delete with 39", asked{impl.TxnLive, 0, 39, lots, false, false, opNamed("delete 1")}, impl.OK},
		{"delete with 40", asked{impl.TxnLive, 0, 40, lots, false, false, opNamed("delete 1")}, impl.ErrMany},
		{"delete of none with 40", asked{impl.TxnLive, 0, 40, lots, false, false, opNamed("delete 9")}, impl.ErrMany},
		{"put, room just below", asked{impl.TxnLive, 0, 0, 21, false, false, opNamed("put 1 1")}, impl.ErrMany},
		{"put, room just enough", asked{impl.TxnLive, 0, 0, 22, false, false, opNamed("put 1 1")}, impl.OK},
		{"delete, room just below", asked{impl.TxnLive, 0, 3, 21, false, false, opNamed("delete 1")}, impl.ErrMany},
		{"delete, room just enough", asked{impl.TxnLive, 0, 3, 22, false, false, opNamed("delete 1")}, impl.OK},
		{"put, room for a record alone", asked{impl.TxnLive, 0, 0, 11, false, false, opNamed("put 1 1")}, impl.ErrMany},
		{"put, no room", asked{impl.TxnLive, 0, 0, 0, false, false, opNamed("put 1 1")}, impl.ErrMany},
		{"commit, no room and 40", asked{impl.TxnLive, 0, 40, 0, false, false, opNamed("commit")}, impl.OK},
		{"abort, no room and 40", asked{impl.TxnLive, 0, 40, 0, false, false, opNamed("abort")}, impl.OK},
		{"get, no room and 40", asked{impl.TxnLive, 0, 40, 0, false, false, opNamed("get 1")}, impl.OK},
		{"scan, no room and 40", asked{impl.TxnLive, 0, 40, 0, false, false, opNamed("scan 0 9")}, impl.OK},
		{"find, no room and 40", asked{impl.TxnLive, 0, 40, 0, false, true, opNamed("find 3")}, impl.OK},
		{"clean, no room", asked{impl.TxnLive, 0, 0, 0, true, false, opNamed("clean 5")}, impl.OK},
		{"pack, no room", asked{impl.TxnLive, 0, 0, 0, true, false, opNamed("pack")}, impl.OK},
		{"build, no room", asked{impl.TxnLive, 0, 0, 0, true, false, opNamed("build")}, impl.OK},
	} {
		e := c.engine()
		if code := impl.EngineFault(e); code != impl.OK || impl.RoomOf(e).Value != c.room {
			t.Fatalf("%s: the fault %d, the room %d", c.name, code, impl.RoomOf(e).Value)
		}
		if got := do(t, e, 1, c.op); got.Code != c.want || got.Code != impl.OK && !same(got, impl.EngineResult{Code: c.want}) {
			t.Errorf("DoOp, %s: %v, want the code %d", c.name, got, c.want)
		}
	}
}

// TestDoOpCodesTogether has all that may be so at once, held against the document's order, of DoOp and of ResumeTxn.
func TestDoOpCodesTogether(t *testing.T) {
	codes := map[int64]int{}
	for _, state := range []int64{impl.TxnLive, impl.TxnWaits, impl.TxnDone, impl.TxnGone} {
		for _, o := range oddOps() {
			if state == impl.TxnWaits && impl.OpFault(o) != impl.OK {
				continue
			}
			for bits := range 32 {
				a := asked{state: state, acts: 199, undo: 39, room: 22, system: bits&1 != 0, built: bits&2 != 0, op: o}
				if bits&4 != 0 {
					a.acts++
				}
				if bits&8 != 0 {
					a.undo++
				}
				if bits&16 != 0 {
					a.room--
				}
				e := a.engine()
				codes[do(t, e, 1, o).Code]++
				codes[resume(t, e, 1).Code]++
			}
		}
	}
	for _, code := range []int64{impl.OK, impl.ErrState, impl.ErrForm, impl.ErrRange, impl.ErrNone, impl.ErrMany} {
		if codes[code] < 10 {
			t.Errorf("the code %d came too seldom: %v", code, codes)
		}
	}
}

func TestOperationsOutOfBounds(t *testing.T) {
	user, system := busyEngine(), busyEngine()
	system.Txns[0].System = true
	check := func(o impl.Op, want int64) {
		t.Helper()
		for _, e := range []impl.Engine{user, system} {
			if got := impl.DoOp(e, 1, o); !same(got, impl.EngineResult{Code: want}) {
				t.Fatalf("DoOp of %v: %v, want the code %d", o, got, want)
			}
			if got := impl.AnswerOf(e, o); !same(got, impl.IntsResult{Code: want}) {
				t.Fatalf("AnswerOf %v: %v, want the code %d", o, got, want)
			}
		}
	}
	for _, kind := range wrongKinds() {
		check(impl.Op{Kind: kind}, impl.ErrForm)
		check(impl.Op{Kind: kind, Key: 100}, impl.ErrForm)
	}
	for kind, fields := range fieldsByKind() {
		for _, field := range opFieldsOf() {
			has := slices.Contains([]byte(fields), field.name[0])
			for _, number := range slices.Concat(wrongKeys(), wrongValues()) {
				o := impl.Op{Kind: kind}
				*field.of(&o) = number
				switch {
				case has && (number < 0 || number > field.bound):
					check(o, impl.ErrRange)
				case !has:
					check(o, impl.ErrForm)
				}
			}
		}
	}
}

func TestResumeTxnCodes(t *testing.T) {
	const lots = 3000
	for _, c := range []struct {
		name string
		asked
		locks string
		want  int64
	}{
		{"one that waits for nothing any more", asked{impl.TxnWaits, 0, 0, lots, false, false, opNamed("get 1")}, "", impl.OK},
		{"one that lives", asked{impl.TxnLive, 0, 0, lots, false, false, opNamed("get 1")}, "", impl.ErrState},
		{"one that is done", asked{impl.TxnDone, 0, 0, lots, false, false, opNamed("get 1")}, "", impl.ErrState},
		{"one that is gone", asked{impl.TxnGone, 0, 0, lots, false, false, opNamed("get 1")}, "", impl.ErrState},
		{"one that lives, too many acts", asked{impl.TxnLive, 200, 0, lots, false, false, opNamed("get 1")}, "", impl.ErrState},
		{"one that waits for a lock still", asked{impl.TxnWaits, 0, 0, lots, false, false, opNamed("get 1")}, "2 2:x 1?s", impl.ErrWait},
		{"one that waits to convert", asked{impl.TxnWaits, 0, 0, lots, false, false, opNamed("put 1 1")}, "2 2:s 1:s 1?x", impl.ErrWait},
		{"one that waits for another lock than it needs", asked{impl.TxnWaits, 0, 0, lots, false, false, opNamed("commit")}, "100 2:x 1?s", impl.ErrWait},
		{"waits for a lock, ahead of too many acts", asked{impl.TxnWaits, 200, 0, lots, false, false, opNamed("get 1")}, "2 2:x 1?s", impl.ErrWait},
		{"waits for a lock, ahead of too little room", asked{impl.TxnWaits, 0, 40, 0, false, false, opNamed("put 1 1")}, "2 2:x 1?x", impl.ErrWait},
		{"acts just below", asked{impl.TxnWaits, 199, 0, lots, false, false, opNamed("get 1")}, "", impl.OK},
		{"too many acts", asked{impl.TxnWaits, 200, 0, lots, false, false, opNamed("get 1")}, "", impl.ErrMany},
		{"as many acts as an engine may have", asked{impl.TxnWaits, 220, 0, lots, false, false, opNamed("commit")}, "", impl.ErrMany},
		{"put with 39", asked{impl.TxnWaits, 0, 39, lots, false, false, opNamed("put 1 1")}, "", impl.OK},
		{"put with 40", asked{impl.TxnWaits, 0, 40, lots, false, false, opNamed("put 1 1")}, "", impl.ErrMany},
		{"delete with 40", asked{impl.TxnWaits, 0, 40, lots, false, false, opNamed("delete 1")}, "", impl.ErrMany},
		{"get with 40 and no room", asked{impl.TxnWaits, 0, 40, 0, false, false, opNamed("get 1")}, "", impl.OK},
		{"put, room just below", asked{impl.TxnWaits, 0, 0, 21, false, false, opNamed("put 1 1")}, "", impl.ErrMany},
		{"put, room just enough", asked{impl.TxnWaits, 0, 0, 22, false, false, opNamed("put 1 1")}, "", impl.OK},
		{"delete, room just below", asked{impl.TxnWaits, 0, 0, 21, false, false, opNamed("delete 1")}, "", impl.ErrMany},
		{"delete, room just enough", asked{impl.TxnWaits, 0, 0, 22, false, false, opNamed("delete 1")}, "", impl.OK},
		{"a find without an index is asked no code", asked{impl.TxnWaits, 0, 0, lots, false, false, opNamed("find 3")}, "", impl.OK},
		{"nor is pack of a user", asked{impl.TxnWaits, 0, 0, lots, false, false, opNamed("pack")}, "", impl.OK},
		{"nor is put of the system", asked{impl.TxnWaits, 0, 0, lots, true, false, opNamed("put 1 1")}, "", impl.OK},
		{"put of the system, room just below", asked{impl.TxnWaits, 0, 0, 21, true, false, opNamed("put 1 1")}, "", impl.ErrMany},
	} {
		e := c.engine()
		if c.locks != "" {
			e.Txns = append(e.Txns, impl.Txn{Id: 2, State: impl.TxnLive})
			e.Locks = locksOf(c.locks)
			e.Wal.Sure = logBytes(len(e.Wal.Sure) - 5)
		}
		if code := impl.EngineFault(e); code != impl.OK || impl.RoomOf(e).Value != c.room {
			t.Fatalf("%s: the fault %d, the room %d", c.name, code, impl.RoomOf(e).Value)
		}
		if got := resume(t, e, 1); got.Code != c.want || got.Code != impl.OK && !same(got, impl.EngineResult{Code: c.want}) {
			t.Errorf("ResumeTxn, %s: %v, want the code %d", c.name, got, c.want)
		}
		if got, want := impl.CanResume(e, 1), c.state == impl.TxnWaits && c.locks == ""; got != want {
			t.Errorf("CanResume, %s: %v, want %v", c.name, got, want)
		}
	}
}
