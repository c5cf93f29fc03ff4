package tests

import (
	"bytes"
	"slices"
	"testing"

	"loop.example/g00270/impl"
)

// checkEngineFault asks the others too: with a fault they tell its code and nothing else.
func checkEngineFault(t *testing.T, name string, e impl.Engine, want int64) {
	t.Helper()
	if got := impl.EngineFault(e); got != want {
		t.Fatalf("EngineFault, %s: %d, want %d", name, got, want)
	}
	if told := wantedEngineFault(e); told != want {
		t.Fatalf("what is leant on elsewhere tells %d, %s, want %d", told, name, want)
	}
	begun := []impl.EngineResult{impl.BeginTxn(e, false), impl.BeginTxn(e, true)}
	room, rows, systems := impl.RoomOf(e), impl.MapOf(e), impl.SystemsOf(e)
	if want == impl.OK {
		if room.Code != impl.OK || rows.Code != impl.OK || systems.Code != impl.OK {
			t.Fatalf("%s: a code without a fault: %v, %v, %v", name, room, rows, systems)
		}
		return
	}
	for _, got := range begun {
		if !same(got, impl.EngineResult{Code: want}) {
			t.Fatalf("BeginTxn, %s: %v, want the code %d", name, got, want)
		}
	}
	if room != (impl.IntResult{Code: want}) || !same(rows, impl.RowsResult{Code: want}) || !same(systems, impl.IntsResult{Code: want}) {
		t.Fatalf("%s: %v, %v, %v, want the code %d", name, room, rows, systems, want)
	}
}

// engineBreak is one thing that is wrong with an engine: of which part of it, and how it is turned so.
type engineBreak struct {
	part, name string
	want       int64
	turn       func(e *impl.Engine)
}

// storeBreaks are the clauses ahead of the transactions, in the document's order.
func storeBreaks() []engineBreak {
	return []engineBreak{
		{"base", "too many rows", impl.ErrMany, func(e *impl.Engine) { e.Base = manyRows(241) }},
		{"base", "a key out of bounds", impl.ErrRange, func(e *impl.Engine) { e.Base[1].Key = 100 }},
		{"base", "a value out of bounds", impl.ErrRange, func(e *impl.Engine) { e.Base[2].Value = 10000 }},
		{"base", "a ghost with a value", impl.ErrForm, func(e *impl.Engine) { e.Base[0].Ghost = true }},
		{"base", "a key twice", impl.ErrForm, func(e *impl.Engine) { e.Base[1].Key = 1 }},
		{"base", "keys that fall", impl.ErrForm, func(e *impl.Engine) { slices.Reverse(e.Base) }},
		{"base", "240 rows, whose keys cannot rise", impl.ErrForm, func(e *impl.Engine) { e.Base = manyRows(240) }},
		{"base", "a ghost, the first", impl.ErrForm, func(e *impl.Engine) { e.Base[0] = ghost(1) }},
		{"base", "a ghost, the last", impl.ErrForm, func(e *impl.Engine) { e.Base[2] = ghost(20) }},
		{"leaves", "too many leaves", impl.ErrMany, func(e *impl.Engine) { e.Leaves = cutLeaves(0, 1, 61, 1) }},
		{"leaves", "a leaf without rows", impl.ErrForm, func(e *impl.Engine) { e.Leaves[1].Rows = nil }},
		{"leaves", "too many rows in one", impl.ErrMany, func(e *impl.Engine) { e.Leaves[1] = keyed(10, 11, 12, 13, 14) }},
		{"leaves", "a key out of bounds", impl.ErrRange, func(e *impl.Engine) { e.Leaves[1].Rows[1].Key = 100 }},
		{"leaves", "a ghost with a value", impl.ErrForm, func(e *impl.Engine) { e.Leaves[0].Rows[1].Value = 1 }},
		{"leaves", "leaves whose keys fall", impl.ErrForm, func(e *impl.Engine) { slices.Reverse(e.Leaves) }},
		{"locks", "a resource out of bounds", impl.ErrRange, func(e *impl.Engine) { e.Locks[3].Res = 101 }},
		{"locks", "a resource twice", impl.ErrForm, func(e *impl.Engine) { e.Locks[2].Res = 2 }},
		{"locks", "too many that hold", impl.ErrMany, func(e *impl.Engine) { e.Locks[3] = locksOf("100 " + manyOf(1, 21, ":is"))[0] }},
		{"locks", "a transaction out of bounds", impl.ErrRange, func(e *impl.Engine) { e.Locks[1].Holds[0].Txn = 1000 }},
		{"locks", "a mode out of bounds", impl.ErrRange, func(e *impl.Engine) { e.Locks[0].Queue[0].Mode = 6 }},
		{"locks", "a transaction twice", impl.ErrTaken, func(e *impl.Engine) { e.Locks[3].Holds[1].Txn = 5 }},
		{"locks", "a lock of nobody", impl.ErrForm, func(e *impl.Engine) { e.Locks[1].Holds = nil }},
		{"locks", "a head that fits", impl.ErrForm, func(e *impl.Engine) { e.Locks[0].Queue[0].Mode = impl.ModeIs }},
		{"locks", "one that waits at two", impl.ErrState, func(e *impl.Engine) { e.Locks[2].Queue[0].Txn = 2 }},
		{"txns", "too many transactions", impl.ErrMany, func(e *impl.Engine) { e.Txns = liveTxns(21, 0) }},
		{"txns", "far too many transactions", impl.ErrMany, func(e *impl.Engine) { e.Txns = make([]impl.Txn, 100000) }},
		{"acts", "too many acts", impl.ErrMany, func(e *impl.Engine) { e.Acts = manyActs(221) }},
		{"acts", "far too many acts", impl.ErrMany, func(e *impl.Engine) { e.Acts = make([]impl.Act, 100000) }},
	}
}

// txnBreaks are the clauses of the transactions, one by one, and of the locks of those that are none.
func txnBreaks() []engineBreak {
	return []engineBreak{
		{"txns", "an Id below", impl.ErrForm, func(e *impl.Engine) { e.Txns[0].Id = 0 }},
		{"txns", "an Id of the one behind", impl.ErrForm, func(e *impl.Engine) { e.Txns[0].Id = 2 }},
		{"txns", "a State below", impl.ErrForm, func(e *impl.Engine) { e.Txns[0].State = 0 }},
		{"txns", "a State behind", impl.ErrForm, func(e *impl.Engine) { e.Txns[0].State = 5 }},
		{"txns", "too much to be taken back", impl.ErrMany, func(e *impl.Engine) { e.Txns[0].Undo = manyBefores(41) }},
		{"txns", "a key to be taken back that is none", impl.ErrRange, func(e *impl.Engine) { e.Txns[0].Undo[1].Key = 100 }},
		{"txns", "a value to be taken back without one", impl.ErrForm, func(e *impl.Engine) { e.Txns[0].Undo[1].Value = 1 }},
		{"txns", "done, and holds a lock", impl.ErrForm, func(e *impl.Engine) { e.Txns[4].State, e.Commits = impl.TxnDone, []int64{6, 5, 3} }},
		{"txns", "gone, and holds a lock", impl.ErrForm, func(e *impl.Engine) { e.Txns[4].State = impl.TxnGone }},
		{"txns", "done, and waits for a lock", impl.ErrForm, func(e *impl.Engine) {
			e.Txns[1].State, e.Txns[1].Wait, e.Commits = impl.TxnDone, impl.Op{}, []int64{6, 2, 3}
		}},
		{"txns", "gone, and waits for a lock", impl.ErrForm, func(e *impl.Engine) { e.Txns[6].State, e.Txns[6].Wait = impl.TxnGone, impl.Op{} }},
		{"txns", "done, and has Undo", impl.ErrForm, func(e *impl.Engine) { e.Txns[2].Undo = manyBefores(1) }},
		{"txns", "gone, and has Undo", impl.ErrForm, func(e *impl.Engine) { e.Txns[3].Undo = manyBefores(1) }},
		{"txns", "waits for no operation", impl.ErrForm, func(e *impl.Engine) { e.Txns[7].Wait = impl.Op{} }},
		{"txns", "waits for an operation out of bounds", impl.ErrForm, func(e *impl.Engine) { e.Txns[7].Wait = getOf(100) }},
		{"txns", "lives, and waits for an operation", impl.ErrForm, func(e *impl.Engine) { e.Txns[0].Wait = getOf(1) }},
		{"txns", "lives, and waits for a key alone", impl.ErrForm, func(e *impl.Engine) { e.Txns[0].Wait.Key = 1 }},
		{"txns", "done, and waits for an operation", impl.ErrForm, func(e *impl.Engine) { e.Txns[2].Wait = getOf(1) }},
		{"txns", "gone, and waits for an operation", impl.ErrForm, func(e *impl.Engine) { e.Txns[8].Wait = getOf(1) }},
		{"txns", "lives, and waits for a lock", impl.ErrForm, func(e *impl.Engine) { e.Txns[6].State, e.Txns[6].Wait = impl.TxnLive, impl.Op{} }},
		{"locks", "a lock held by no transaction", impl.ErrForm, func(e *impl.Engine) { e.Locks[3].Holds[1].Txn = 10 }},
		{"locks", "a lock wanted by no transaction", impl.ErrForm, func(e *impl.Engine) { e.Locks[2].Queue[0].Txn = 10 }},
		{"locks", "a lock of the last number that locks know", impl.ErrForm, func(e *impl.Engine) { e.Locks[1].Holds[0].Txn = 999 }},
	}
}

// restBreaks are the clauses behind the transactions, in the document's order.
func restBreaks() []engineBreak {
	return []engineBreak{
		{"wal", "too many bytes", impl.ErrMany, func(e *impl.Engine) { e.Wal.Sure = logBytes(4001) }},
		{"wal", "too many bytes, none of them records", impl.ErrMany, func(e *impl.Engine) { e.Wal.Loose = make([]byte, 4001) }},
		{"wal", "sure bytes that are no records", impl.ErrText, func(e *impl.Engine) { e.Wal.Sure = append(e.Wal.Sure, 0) }},
		{"wal", "loose bytes that are no records", impl.ErrText, func(e *impl.Engine) { e.Wal.Loose = e.Wal.Loose[1:] }},
		{"wal", "no room for ends, and bytes that are no records", impl.ErrText, func(e *impl.Engine) { e.Wal.Loose = append(logBytes(3950), 0) }},
		{"wal", "no room for ends", impl.ErrMany, func(e *impl.Engine) { e.Wal.Loose = logBytes(4000 - len(e.Wal.Sure) - 57) }},
		{"index", "too many pairs", impl.ErrMany, func(e *impl.Engine) { e.Index = pairsFrom(241) }},
		{"index", "a value out of bounds", impl.ErrRange, func(e *impl.Engine) { e.Index[2].Value = 10000 }},
		{"index", "a pair that does not stand behind", impl.ErrForm, func(e *impl.Engine) { slices.Reverse(e.Index) }},
		{"index", "a key twice", impl.ErrTaken, func(e *impl.Engine) { e.Index[2].Key = 20 }},
		{"index", "a key that no row has", impl.ErrForm, func(e *impl.Engine) { e.Index[2].Key = 2 }},
		{"index", "a value that its row has not", impl.ErrForm, func(e *impl.Engine) { e.Index[2].Value = 12 }},
		{"index", "a pair of a ghost", impl.ErrForm, func(e *impl.Engine) { e.Index = pairsNamed("0:5 3:7 3:20 11:1") }},
		{"index", "a pair that is missing, the last", impl.ErrForm, func(e *impl.Engine) { e.Index = e.Index[:2] }},
		{"index", "a pair that is missing, the first", impl.ErrForm, func(e *impl.Engine) { e.Index = e.Index[1:] }},
		{"index", "no pairs", impl.ErrForm, func(e *impl.Engine) { e.Index = nil }},
		{"index", "the right index, not Built", impl.ErrForm, func(e *impl.Engine) { e.Built = false }},
		{"index", "one pair, not Built", impl.ErrForm, func(e *impl.Engine) { e.Built, e.Index = false, e.Index[:1] }},
		{"commits", "one of no transaction, 0", impl.ErrForm, func(e *impl.Engine) { e.Commits = []int64{6, 3, 0} }},
		{"commits", "one of no transaction, below", impl.ErrForm, func(e *impl.Engine) { e.Commits = []int64{-3, 6} }},
		{"commits", "one of no transaction, behind", impl.ErrForm, func(e *impl.Engine) { e.Commits = []int64{6, 3, 10} }},
		{"commits", "one that lives", impl.ErrForm, func(e *impl.Engine) { e.Commits = []int64{6, 3, 5} }},
		{"commits", "one that waits", impl.ErrForm, func(e *impl.Engine) { e.Commits = []int64{2, 6, 3} }},
		{"commits", "one that is gone", impl.ErrForm, func(e *impl.Engine) { e.Commits = []int64{6, 4, 3} }},
		{"commits", "one that lives in the place of one that is done", impl.ErrForm, func(e *impl.Engine) { e.Commits = []int64{6, 1} }},
		{"commits", "one twice", impl.ErrForm, func(e *impl.Engine) { e.Commits = []int64{6, 3, 6} }},
		{"commits", "one twice, the other one not there", impl.ErrForm, func(e *impl.Engine) { e.Commits = []int64{6, 6} }},
		{"commits", "one that is done is not there", impl.ErrForm, func(e *impl.Engine) { e.Commits = []int64{6} }},
		{"commits", "the other one that is done is not there", impl.ErrForm, func(e *impl.Engine) { e.Commits = []int64{3} }},
		{"commits", "none", impl.ErrForm, func(e *impl.Engine) { e.Commits = nil }},
		{"commits", "far too many", impl.ErrForm, func(e *impl.Engine) { e.Commits = make([]int64, 100000) }},
		{"acts", "of no transaction, 0", impl.ErrForm, func(e *impl.Engine) { e.Acts[0].Txn = 0 }},
		{"acts", "of no transaction, below", impl.ErrForm, func(e *impl.Engine) { e.Acts[3].Txn = -1 }},
		{"acts", "of no transaction, behind", impl.ErrForm, func(e *impl.Engine) { e.Acts[6].Txn = 10 }},
		{"acts", "of no kind, the first", impl.ErrForm, func(e *impl.Engine) { e.Acts[0].Op.Kind = 0 }},
		{"acts", "out of bounds, the last", impl.ErrForm, func(e *impl.Engine) { e.Acts[6].Op = putOf(1, 10000) }},
		{"acts", "with a field that it has not", impl.ErrForm, func(e *impl.Engine) { e.Acts[2].Op.High = 1 }},
	}
}

func allBreaks() []engineBreak {
	return slices.Concat(storeBreaks(), txnBreaks(), restBreaks())
}

func TestSomeEnginesHaveNoFault(t *testing.T) {
	for i, e := range someEngines() {
		checkEngineFault(t, "of some engines", e, impl.OK)
		checkEngineFault(t, "of some engines, no list nil", emptyOf(e), impl.OK)
		if got := impl.RoomOf(e).Value; got != wantedRoom(e) {
			t.Errorf("RoomOf engine %d: %d, want %d", i, got, wantedRoom(e))
		}
	}
}

func TestEngineFaultOfOneThing(t *testing.T) {
	for _, wrong := range allBreaks() {
		e := busyEngine()
		wrong.turn(&e)
		checkEngineFault(t, wrong.part+", "+wrong.name, e, wrong.want)
	}
}

// TestEngineFaultOfEveryTwo has each two things wrong that are of two parts: the one whose clause stands ahead is told.
func TestEngineFaultOfEveryTwo(t *testing.T) {
	breaks := allBreaks()
	for i, first := range breaks {
		for _, second := range breaks[i+1:] {
			if first.part == second.part {
				continue
			}
			for _, order := range [][]engineBreak{{first, second}, {second, first}} {
				e := busyEngine()
				order[0].turn(&e)
				order[1].turn(&e)
				checkEngineFault(t, first.part+", "+first.name+", and "+second.part+", "+second.name, e, first.want)
			}
		}
	}
}

// TestEngineFaultOfOnePartTwice has things wrong whose clauses are of one part.
func TestEngineFaultOfOnePartTwice(t *testing.T) {
	for _, c := range []engineBreak{
		{"base", "a ghost, and a key out of bounds behind it", impl.ErrRange, func(e *impl.Engine) { e.Base[0], e.Base[2].Key = ghost(1), 100 }},
		{"base", "a ghost, and too many", impl.ErrMany, func(e *impl.Engine) { e.Base = append([]impl.Row{ghost(0)}, manyRows(240)...) }},
		{"acts", "far too many, and far too many transactions", impl.ErrMany, func(e *impl.Engine) { e.Acts, e.Txns = make([]impl.Act, 300), make([]impl.Txn, 300) }},
		{"txns", "too many, and an Id that is not so", impl.ErrMany, func(e *impl.Engine) { e.Txns = make([]impl.Txn, 21) }},
		{"txns", "an Id that is not so, and too much Undo", impl.ErrForm, func(e *impl.Engine) { e.Txns[0].Id, e.Txns[0].Undo = 9, manyBefores(41) }},
		{"txns", "a State that is not so, and a wrong key in Undo", impl.ErrForm, func(e *impl.Engine) { e.Txns[0].State, e.Txns[0].Undo[0].Key = 5, -1 }},
		{"txns", "done, and too much Undo", impl.ErrMany, func(e *impl.Engine) { e.Txns[2].Undo = manyBefores(41) }},
		{"txns", "gone, and a wrong key in Undo", impl.ErrRange, func(e *impl.Engine) { e.Txns[3].Undo = []impl.Before{had(-1, 0)} }},
		{"txns", "lives and waits, and a wrong value in Undo", impl.ErrRange, func(e *impl.Engine) { e.Txns[0].Wait, e.Txns[0].Undo[0].Value = getOf(1), 10000 }},
		{"txns", "waits for no operation, and a wrong key in Undo", impl.ErrRange, func(e *impl.Engine) { e.Txns[7].Wait, e.Txns[7].Undo[0].Key = impl.Op{}, 100 }},
		{"locks", "of no transaction, and a wrong key in the last Undo", impl.ErrRange, func(e *impl.Engine) { e.Locks[1].Holds[0].Txn, e.Txns[7].Undo[0].Key = 10, 100 }},
		{"wal", "no bytes of records, and no room for ends", impl.ErrText, func(e *impl.Engine) { e.Wal.Sure = bytes.Repeat([]byte{9}, 3970) }},
		{"index", "a value out of bounds, not Built", impl.ErrRange, func(e *impl.Engine) { e.Built, e.Index[0].Value = false, -1 }},
		{"index", "a key twice, not Built", impl.ErrTaken, func(e *impl.Engine) { e.Built, e.Index[0].Key = false, 1 }},
		{"index", "as many pairs as there may be, a key twice", impl.ErrTaken, func(e *impl.Engine) { e.Index = pairsFrom(240) }},
	} {
		e := busyEngine()
		c.turn(&e)
		checkEngineFault(t, c.part+", "+c.name, e, c.want)
	}
}

// txnBreak is one thing that is wrong with a transaction that lives.
type txnBreak struct {
	name string
	want int64
	turn func(t *impl.Txn)
}

func eachTxnBreak() []txnBreak {
	breaks := []txnBreak{
		{"too much Undo", impl.ErrMany, func(t *impl.Txn) { t.Undo = manyBefores(41) }},
		{"an Undo out of bounds", impl.ErrRange, func(t *impl.Txn) { t.Undo = []impl.Before{had(1, -1)} }},
		{"an Undo of a wrong form", impl.ErrForm, func(t *impl.Txn) { t.Undo = []impl.Before{{Key: 1, Value: 1}} }},
		{"gone with Undo", impl.ErrForm, func(t *impl.Txn) { t.State, t.Undo = impl.TxnGone, manyBefores(1) }},
		{"waits for nothing", impl.ErrForm, func(t *impl.Txn) { t.State = impl.TxnWaits }},
		{"lives and waits", impl.ErrForm, func(t *impl.Txn) { t.Wait = getOf(1) }},
		{"an Id that is another one's", impl.ErrForm, func(t *impl.Txn) { t.Id = t.Id%20 + 1 }},
	}
	for _, number := range append(wrongTxns(), 21, 255) {
		breaks = append(breaks, txnBreak{"an Id that is none", impl.ErrForm, func(t *impl.Txn) { t.Id = number }})
	}
	for _, number := range append(wrongValues(), 0, 5, 6, 255, 256+1) {
		breaks = append(breaks, txnBreak{"a State that is none", impl.ErrForm, func(t *impl.Txn) { t.State = number }})
	}
	return breaks
}

// TestEngineFaultGoesTransactionByTransaction has each of these wrong at one place and another one behind it: the first one is told.
func TestEngineFaultGoesTransactionByTransaction(t *testing.T) {
	for _, first := range eachTxnBreak() {
		for at := range 20 {
			e := impl.Engine{Txns: liveTxns(20, 1)}
			first.turn(&e.Txns[at])
			checkEngineFault(t, first.name, e, first.want)
		}
		for _, second := range eachTxnBreak() {
			for _, at := range [][2]int{{0, 1}, {0, 19}, {7, 8}, {18, 19}} {
				e := impl.Engine{Txns: liveTxns(20, 1)}
				first.turn(&e.Txns[at[0]])
				second.turn(&e.Txns[at[1]])
				checkEngineFault(t, first.name+", then "+second.name, e, first.want)
			}
		}
	}
}

func TestEngineFaultAtItsNumbers(t *testing.T) {
	acts := func(count int64) impl.Engine { return impl.Engine{Txns: liveTxns(1, 0), Acts: manyActs(count)} }
	for _, c := range []struct {
		name string
		e    impl.Engine
		want int64
	}{
		{"19 transactions", impl.Engine{Txns: liveTxns(19, 0)}, impl.OK},
		{"20 transactions", impl.Engine{Txns: liveTxns(20, 0)}, impl.OK},
		{"21 transactions", impl.Engine{Txns: liveTxns(21, 0)}, impl.ErrMany},
		{"200 acts", acts(200), impl.OK},
		{"201 acts", acts(201), impl.OK},
		{"219 acts", acts(219), impl.OK},
		{"220 acts", acts(220), impl.OK},
		{"221 acts", acts(221), impl.ErrMany},
		{"40 to be taken back", impl.Engine{Txns: liveTxns(1, 40)}, impl.OK},
		{"41 to be taken back", impl.Engine{Txns: liveTxns(1, 41)}, impl.ErrMany},
		{"60 leaves", impl.Engine{Leaves: cutLeaves(0, 1, 60, 1)}, impl.OK},
		{"100 rows at first", impl.Engine{Base: manyRows(100)}, impl.OK},
		{"101 rows at first", impl.Engine{Base: manyRows(101)}, impl.ErrForm},
		{"4000 bytes of the log", impl.Engine{Wal: impl.Wal{Sure: logBytes(1000), Loose: logBytes(3000)}}, impl.OK},
		{"4001 bytes of the log", impl.Engine{Wal: impl.Wal{Sure: logBytes(1001), Loose: logBytes(3000)}}, impl.ErrMany},
		{"an act of the last transaction", impl.Engine{Txns: liveTxns(20, 0), Acts: []impl.Act{act(20, getOf(0))}}, impl.OK},
		{"an act behind the last transaction", impl.Engine{Txns: liveTxns(19, 0), Acts: []impl.Act{act(20, getOf(0))}}, impl.ErrForm},
		{"an act, and no transactions", impl.Engine{Acts: []impl.Act{act(1, getOf(0))}}, impl.ErrForm},
		{"a commit, and no transactions", impl.Engine{Commits: []int64{1}}, impl.ErrForm},
		{"a lock of the last transaction", impl.Engine{Txns: liveTxns(20, 0), Locks: locksOf("5 20:s")}, impl.OK},
		{"a lock behind the last transaction", impl.Engine{Txns: liveTxns(19, 0), Locks: locksOf("5 20:s")}, impl.ErrForm},
		{"a lock, and no transactions", impl.Engine{Locks: locksOf("5 1:s")}, impl.ErrForm},
	} {
		checkEngineFault(t, c.name, c.e, c.want)
	}
}

// TestEngineFaultOfRoom has what is kept for ends reach just to the end of the log, and a byte further.
func TestEngineFaultOfRoom(t *testing.T) {
	for count := range int64(9) {
		for _, undo := range []int64{0, 1, 2, 39, 40} {
			kept := count * (5 + 11*undo)
			for _, waits := range []bool{false, true} {
				for over := range int64(3) {
					e := impl.Engine{Txns: liveTxns(count, undo)}
					for i := range e.Txns {
						if waits {
							e.Txns[i].State, e.Txns[i].Wait = impl.TxnWaits, scanOf(0, 1)
						}
					}
					e.Wal.Sure = logBytes(int(4000 - kept + over))
					checkEngineFault(t, "kept for ends", e, codeIf(over > 0, impl.ErrMany))
					if room := impl.RoomOf(e); over == 0 && room.Value != 0 {
						t.Fatalf("RoomOf %d that keep all the log: %v", count, room)
					}
				}
			}
		}
	}
	over := impl.Engine{Txns: liveTxns(20, 40)}
	checkEngineFault(t, "more kept for ends than a log has", over, impl.ErrMany)
	over.Txns = liveTxns(9, 40)
	checkEngineFault(t, "5 more kept for ends than a log has", over, impl.ErrMany)
	over.Txns[8].Undo = over.Txns[8].Undo[1:]
	checkEngineFault(t, "6 less kept for ends than a log has", over, impl.OK)
}

// TestEngineFaultOfEveryState has a transaction of every state with every kind of lock, Undo and Wait.
func TestEngineFaultOfEveryState(t *testing.T) {
	codes := map[int64]int{}
	for _, locks := range []string{"", "5 2:s", "5 1:s 2:s", "5 2:x 1?s", "5 1:s 2:s 1?x", "5 2:s | 6 1:x 2?s", "5 2:x 1?s | 6 1:s"} {
		for state := int64(-1); state <= 6; state++ {
			for _, wait := range []impl.Op{{}, getOf(0), putOf(99, 9999), {Kind: impl.OpCommit}, {Key: 1}, {High: 1}, {Value: 1}, getOf(100), {Kind: 11}, {Kind: impl.OpPack, Key: 1}} {
				for _, undo := range [][]impl.Before{nil, manyBefores(1), {had(100, 0)}, manyBefores(41)} {
					for _, system := range []bool{false, true} {
						one := impl.Txn{Id: 1, System: system, State: state, Undo: undo, Wait: wait}
						two := impl.Txn{Id: 2, State: impl.TxnWaits, Wait: getOf(5)}
						e := impl.Engine{Txns: []impl.Txn{one, two}, Locks: locksOf(locks)}
						if state == impl.TxnDone {
							e.Commits = []int64{1}
						}
						want := wantedEngineFault(e)
						checkEngineFault(t, "of every state", e, want)
						codes[want]++
					}
				}
			}
		}
	}
	for _, code := range []int64{impl.OK, impl.ErrForm, impl.ErrRange, impl.ErrMany} {
		if codes[code] == 0 {
			t.Errorf("the code %d never came: %v", code, codes)
		}
	}
}

// TestEngineFaultOfEveryCommits has each list of up to four commits of six transactions, three of which are done.
func TestEngineFaultOfEveryCommits(t *testing.T) {
	e := impl.Engine{Txns: liveTxns(6, 0)}
	e.Txns[1].State, e.Txns[2].State, e.Txns[5].State, e.Txns[3].State = impl.TxnDone, impl.TxnDone, impl.TxnDone, impl.TxnGone
	lists, right := [][]int64{nil}, 0
	for at := 0; at < len(lists); at++ {
		e.Commits = lists[at]
		want := wantedEngineFault(e)
		checkEngineFault(t, "of every commits", e, want)
		if want == impl.OK {
			right++
		}
		for id := int64(0); id <= 7 && len(lists[at]) < 4; id++ {
			lists = append(lists, append(slices.Clone(lists[at]), id))
		}
	}
	if right != 6 {
		t.Errorf("%d lists of commits are right, want 6: three that are done, in any order", right)
	}
	for _, number := range append(wrongTxns(), wrongKeys()...) {
		e.Commits = []int64{6, 2, number}
		checkEngineFault(t, "a commit that is none", e, impl.ErrForm)
		e.Commits = []int64{number, 6, 2, 3}
		checkEngineFault(t, "a commit that is none", e, impl.ErrForm)
	}
}

func TestEngineFaultOfEveryAct(t *testing.T) {
	e := impl.Engine{Txns: liveTxns(3, 0)}
	for _, txn := range append(wrongTxns(), 1, 2, 3, 4, 20, 21) {
		e.Acts = []impl.Act{act(1, getOf(1)), act(txn, getOf(1), 1)}
		checkEngineFault(t, "of every act", e, codeIf(txn < 1 || txn > 3, impl.ErrForm))
	}
	for _, kind := range append(wrongKinds(), 1, 2, 3, 4, 5, 6, 7, 8, 9, 10) {
		for _, key := range append(wrongKeys(), 0, 99) {
			e.Acts = []impl.Act{act(3, impl.Op{Kind: kind, Key: key}, key, kind), act(1, getOf(1))}
			checkEngineFault(t, "of every act", e, codeIf(wantedOpFault(e.Acts[0].Op) != impl.OK, impl.ErrForm))
		}
	}
	e.Acts = []impl.Act{act(1, getOf(1), make([]int64, 100000)...)}
	checkEngineFault(t, "an answer of any length", e, impl.OK)
}
