package tests

import (
	"math"
	"slices"
	"testing"

	"loop.example/g00270/impl"
)

func TestNewEngineCases(t *testing.T) {
	for _, c := range []struct {
		name string
		base []impl.Row
		want []impl.Leaf
	}{
		{"no rows", nil, nil},
		{"no rows, not nil", []impl.Row{}, nil},
		{"one row", []impl.Row{row(1, 3)}, []impl.Leaf{leaf(row(1, 3))}},
		{"one row of 0 and 0", []impl.Row{row(0, 0)}, []impl.Leaf{leaf(row(0, 0))}},
		{"one row of the greatest", []impl.Row{row(99, 9999)}, []impl.Leaf{leaf(row(99, 9999))}},
		{"a leaf full of rows", []impl.Row{row(1, 1), row(2, 2), row(3, 3), row(4, 4)}, []impl.Leaf{keyed(1, 2, 3, 4)}},
		{"one row more", []impl.Row{row(1, 1), row(2, 2), row(3, 3), row(4, 4), row(5, 5)}, []impl.Leaf{keyed(1, 2), keyed(3, 4, 5)}},
		{"two rows more", []impl.Row{row(1, 1), row(2, 2), row(3, 3), row(4, 4), row(5, 5), row(99, 99)}, []impl.Leaf{keyed(1, 2), keyed(3, 4, 5, 99)}},
		{"three leaves", []impl.Row{row(0, 0), row(10, 10), row(20, 20), row(30, 30), row(40, 40), row(50, 50), row(60, 60)}, []impl.Leaf{keyed(0, 10), keyed(20, 30), keyed(40, 50, 60)}},
	} {
		want := impl.EngineResult{Engine: impl.Engine{Base: c.base, Leaves: c.want}}
		if got := impl.NewEngine(c.base); !same(got, want) {
			t.Errorf("NewEngine, %s: %v, want %v", c.name, got, want)
		}
	}
}

func manyGhosts(count int64) []impl.Row {
	var rows []impl.Row
	for key := range count {
		rows = append(rows, ghost(key))
	}
	return rows
}

func TestNewEngineFaults(t *testing.T) {
	formless := impl.Row{Key: 2, Value: 1, Ghost: true}
	for _, c := range []struct {
		name string
		base []impl.Row
		want int64
	}{
		{"as many as there are keys", manyRows(100), impl.OK},
		{"one more, whose key comes again", manyRows(101), impl.ErrForm},
		{"240, whose keys cannot rise", manyRows(240), impl.ErrForm},
		{"241", manyRows(241), impl.ErrMany},
		{"241, the first one a ghost", append([]impl.Row{ghost(0)}, manyRows(240)...), impl.ErrMany},
		{"far too many", make([]impl.Row, 100000), impl.ErrMany},
		{"a key below", []impl.Row{row(-1, 0)}, impl.ErrRange},
		{"a key behind", []impl.Row{row(1, 1), row(100, 0)}, impl.ErrRange},
		{"a value below", []impl.Row{row(1, -1)}, impl.ErrRange},
		{"a value behind", []impl.Row{row(1, 10000)}, impl.ErrRange},
		{"a ghost with a value", []impl.Row{formless}, impl.ErrForm},
		{"a ghost with a value, ahead of one out of bounds", []impl.Row{formless, row(100, 0)}, impl.ErrForm},
		{"one out of bounds, ahead of a ghost with a value", []impl.Row{row(100, 0), formless}, impl.ErrRange},
		{"a key twice", []impl.Row{row(1, 1), row(1, 1)}, impl.ErrForm},
		{"keys that fall", []impl.Row{row(2, 1), row(1, 1)}, impl.ErrForm},
		{"keys that fall, ahead of one out of bounds", []impl.Row{row(2, 1), row(1, 1), row(3, -1)}, impl.ErrRange},
		{"a ghost alone", []impl.Row{ghost(0)}, impl.ErrForm},
		{"a ghost, the first", []impl.Row{ghost(0), row(1, 1), row(2, 2)}, impl.ErrForm},
		{"a ghost in the middle", []impl.Row{row(0, 0), ghost(1), row(2, 2)}, impl.ErrForm},
		{"a ghost, the last", []impl.Row{row(0, 0), row(1, 1), ghost(99)}, impl.ErrForm},
		{"a ghost, ahead of one out of bounds", []impl.Row{ghost(0), row(1, 10000)}, impl.ErrRange},
		{"ghosts alone, as many as there are keys", manyGhosts(100), impl.ErrForm},
	} {
		got := impl.NewEngine(c.base)
		if got.Code != c.want || wantedNew(c.base).Code != c.want || c.want != impl.OK && !same(got, impl.EngineResult{Code: c.want}) {
			t.Errorf("NewEngine, %s: %v, want the code %d", c.name, got, c.want)
		}
	}
	for _, key := range wrongKeys() {
		if got := impl.NewEngine([]impl.Row{row(0, 1), row(key, 1)}); !same(got, impl.EngineResult{Code: impl.ErrRange}) {
			t.Errorf("NewEngine with the key %d: %v", key, got)
		}
	}
	for _, value := range wrongValues() {
		if got := impl.NewEngine([]impl.Row{row(0, 1), row(1, value)}); !same(got, impl.EngineResult{Code: impl.ErrRange}) {
			t.Errorf("NewEngine with the value %d: %v", value, got)
		}
	}
}

// roomCase is an engine of transactions alone, and how many bytes its log has.
type roomCase struct {
	name string
	txns []impl.Txn
	log  int
	room int64
	code int64
}

// endedTxns has transactions that are done and gone, by turns, behind some that live.
func endedTxns(live []impl.Txn, count int64) []impl.Txn {
	txns := slices.Clone(live)
	for k := range count {
		txns = append(txns, impl.Txn{Id: int64(len(live)) + k + 1, State: impl.TxnDone + k%2})
	}
	return txns
}

func waitingTxns(count, undo int64) []impl.Txn {
	txns := liveTxns(count, undo)
	for i := range txns {
		txns[i].State, txns[i].Wait = impl.TxnWaits, scanOf(1, 9)
	}
	return txns
}

func roomCases() []roomCase {
	return []roomCase{
		{"nothing", nil, 0, 4000, impl.OK},
		{"a full log", nil, 4000, 0, impl.ErrMany},
		{"room for a plain record", nil, 3995, 5, impl.ErrMany},
		{"room just below", nil, 3991, 9, impl.ErrMany},
		{"room just enough", nil, 3990, 10, impl.OK},
		{"room for one more byte", nil, 3989, 11, impl.OK},
		{"one that lives, no log", liveTxns(1, 0), 0, 3995, impl.OK},
		{"one that lives, no room", liveTxns(1, 0), 3995, 0, impl.ErrMany},
		{"one that lives, room just below", liveTxns(1, 0), 3986, 9, impl.ErrMany},
		{"one that lives, room just enough", liveTxns(1, 0), 3985, 10, impl.OK},
		{"one that lives, room for one more byte", liveTxns(1, 0), 3984, 11, impl.OK},
		{"one that lives, with one change", liveTxns(1, 1), 0, 3984, impl.OK},
		{"one that lives, with as many as there may be", liveTxns(1, 40), 0, 3555, impl.OK},
		{"one that lives, with as many as there may be, room just below", liveTxns(1, 40), 3546, 9, impl.ErrMany},
		{"one that lives, with as many as there may be, room just enough", liveTxns(1, 40), 3545, 10, impl.OK},
		{"one that waits, no log", waitingTxns(1, 0), 0, 3995, impl.OK},
		{"one that waits, room just below", waitingTxns(1, 0), 3986, 9, impl.ErrMany},
		{"one that waits, room just enough", waitingTxns(1, 0), 3985, 10, impl.OK},
		{"one that waits, with changes", waitingTxns(1, 3), 0, 3962, impl.OK},
		{"one that waits, with changes, room just below", waitingTxns(1, 3), 3953, 9, impl.ErrMany},
		{"one that waits, with changes, room just enough", waitingTxns(1, 3), 3952, 10, impl.OK},
		{"some that are at their end, no log", endedTxns(nil, 6), 0, 4000, impl.OK},
		{"some that are at their end, a full log", endedTxns(nil, 6), 4000, 0, impl.ErrMany},
		{"some that are at their end, room just below", endedTxns(nil, 6), 3991, 9, impl.ErrMany},
		{"some that are at their end, room just enough", endedTxns(nil, 6), 3990, 10, impl.OK},
		{"some of each", endedTxns(liveTxns(3, 2), 4), 100, 3819, impl.OK},
		{"19 that live", liveTxns(19, 0), 0, 3905, impl.OK},
		{"19 that are at their end", endedTxns(nil, 19), 0, 4000, impl.OK},
		{"20 that live", liveTxns(20, 0), 0, 3900, impl.ErrMany},
		{"20 that wait", waitingTxns(20, 0), 0, 3900, impl.ErrMany},
		{"20 that are at their end", endedTxns(nil, 20), 0, 4000, impl.ErrMany},
		{"20 that are at their end, a full log", endedTxns(nil, 20), 4000, 0, impl.ErrMany},
	}
}

// engineOf cuts the log at some record, for what is kept does not hang on what is sure.
func (c roomCase) engineOf(sure int) impl.Engine {
	data := logBytes(c.log)
	recs, _ := wantedRecs(data)
	cut := len(recsData(recs[:min(sure, len(recs))]...))
	e := impl.Engine{Txns: c.txns, Wal: impl.Wal{Sure: data[:cut], Loose: data[cut:]}}
	for _, t := range c.txns {
		if t.State == impl.TxnDone {
			e.Commits = append(e.Commits, t.Id)
		}
	}
	return e
}

func TestRoomOfAndBeginTxnCases(t *testing.T) {
	for _, c := range roomCases() {
		for _, sure := range []int{0, 1, 300, 4000} {
			e := c.engineOf(sure)
			checkEngineFault(t, c.name, e, impl.OK)
			if got := impl.RoomOf(e); got != (impl.IntResult{Value: c.room}) {
				t.Errorf("RoomOf, %s: %v, want %d", c.name, got, c.room)
			}
			for _, system := range []bool{false, true} {
				got := impl.BeginTxn(e, system)
				if got.Code != c.code || !same(got, wantedBegin(e, system)) {
					t.Errorf("BeginTxn, %s: %v, want the code %d and %v", c.name, got, c.code, wantedBegin(e, system))
				}
				if room := impl.RoomOf(got.Engine); got.Code == impl.OK && room != (impl.IntResult{Value: c.room - 10}) {
					t.Errorf("RoomOf behind BeginTxn, %s: %v, want %d", c.name, room, c.room-10)
				}
			}
		}
	}
}

// TestBeginTxnAsksTheFaultFirst has engines that have no room for one more as well.
func TestBeginTxnAsksTheFaultFirst(t *testing.T) {
	for _, full := range []impl.Engine{{Txns: liveTxns(20, 0)}, {Wal: impl.Wal{Sure: logBytes(4000)}, Txns: endedTxns(nil, 1), Commits: []int64{1}}} {
		for _, c := range []engineBreak{
			{"base", "a ghost", impl.ErrForm, func(e *impl.Engine) { e.Base = []impl.Row{ghost(1)} }},
			{"leaves", "a key out of bounds", impl.ErrRange, func(e *impl.Engine) { e.Leaves = []impl.Leaf{keyed(100)} }},
			{"locks", "one twice", impl.ErrTaken, func(e *impl.Engine) { e.Locks = locksOf("5 1:s 1:s") }},
			{"txns", "a state", impl.ErrForm, func(e *impl.Engine) { e.Txns = slices.Clone(e.Txns); e.Txns[0].State = 0 }},
			{"wal", "no records", impl.ErrText, func(e *impl.Engine) { e.Wal.Sure = []byte{1} }},
			{"index", "a key twice", impl.ErrTaken, func(e *impl.Engine) { e.Index = pairsNamed("1:1 2:1") }},
			{"commits", "of no transaction", impl.ErrForm, func(e *impl.Engine) { e.Commits = []int64{0} }},
			{"acts", "of no kind", impl.ErrForm, func(e *impl.Engine) { e.Acts = []impl.Act{act(1, impl.Op{})} }},
		} {
			if got := impl.BeginTxn(full, true); !same(got, impl.EngineResult{Code: impl.ErrMany}) {
				t.Fatalf("BeginTxn without room: %v", got)
			}
			e := full
			c.turn(&e)
			checkEngineFault(t, c.part+", "+c.name+", without room", e, c.want)
		}
	}
}

func TestBeginTxnCases(t *testing.T) {
	busy := busyEngine()
	want := busyEngine()
	want.Txns = append(want.Txns, impl.Txn{Id: 10, State: impl.TxnLive})
	want.Wal.Loose = append(want.Wal.Loose, 1, 0, 10)
	sum := impl.SumBytes([]byte{1, 0, 10})
	want.Wal.Loose = append(want.Wal.Loose, byte(sum/256), byte(sum%256))
	if got := impl.BeginTxn(busy, false); !same(got, impl.EngineResult{Id: 10, Engine: want}) {
		t.Errorf("BeginTxn of a user: %v, want %v", got, want)
	}
	want.Txns[9].System = true
	if got := impl.BeginTxn(busy, true); !same(got, impl.EngineResult{Id: 10, Engine: want}) {
		t.Errorf("BeginTxn of the system: %v, want %v", got, want)
	}
	first := impl.BeginTxn(impl.Engine{}, true)
	if !same(first.Engine.Txns, []impl.Txn{{Id: 1, System: true, State: impl.TxnLive}}) || first.Id != 1 || len(first.Engine.Wal.Sure) != 0 {
		t.Errorf("the first one who begins: %v", first)
	}
	if recs := impl.ReadRecs(first.Engine.Wal.Loose); !slices.Equal(recs.Recs, []impl.Rec{plain(impl.LogBegin, 1)}) {
		t.Errorf("the log of the first one who begins: %v", recs)
	}
}

func TestMapOfCases(t *testing.T) {
	for _, c := range []struct {
		name   string
		leaves []impl.Leaf
		want   []impl.Row
	}{
		{"no leaves", nil, nil},
		{"one row of 0", []impl.Leaf{leaf(row(0, 0))}, []impl.Row{row(0, 0)}},
		{"one row of the greatest", []impl.Leaf{leaf(row(99, 9999))}, []impl.Row{row(99, 9999)}},
		{"ghosts alone", []impl.Leaf{leaf(ghost(0), ghost(5)), leaf(ghost(99))}, nil},
		{"a ghost, the first", []impl.Leaf{leaf(ghost(0), row(5, 5)), leaf(row(99, 1))}, []impl.Row{row(5, 5), row(99, 1)}},
		{"a ghost between", []impl.Leaf{leaf(row(0, 1), ghost(5)), leaf(row(99, 1))}, []impl.Row{row(0, 1), row(99, 1)}},
		{"a ghost, the last", []impl.Leaf{leaf(row(0, 1), row(5, 0)), leaf(ghost(99))}, []impl.Row{row(0, 1), row(5, 0)}},
	} {
		e := impl.Engine{Base: []impl.Row{row(50, 50)}, Leaves: c.leaves}
		if got := impl.MapOf(e); !same(got, impl.RowsResult{Rows: c.want}) {
			t.Errorf("MapOf, %s: %v, want %v", c.name, got, c.want)
		}
	}
	for _, leaves := range someLeaves() {
		if got, want := impl.MapOf(impl.Engine{Leaves: leaves}), wantedMap(rowsIn(leaves)); !same(got, want) {
			t.Errorf("MapOf %v: %v, want %v", leaves, got, want)
		}
	}
}

func TestSystemsOfCases(t *testing.T) {
	if got := impl.SystemsOf(busyEngine()); !same(got, impl.IntsResult{List: []int64{5, 6, 7, 9}}) {
		t.Errorf("SystemsOf of those of every state: %v", got)
	}
	for _, e := range []impl.Engine{{}, {Txns: liveTxns(20, 0)}} {
		if got := impl.SystemsOf(e); !same(got, impl.IntsResult{}) {
			t.Errorf("SystemsOf of none: %v", got)
		}
	}
	for at := range 20 {
		e := impl.Engine{Txns: liveTxns(20, 0)}
		e.Txns[at].System = true
		if got := impl.SystemsOf(e); !same(got, impl.IntsResult{List: []int64{int64(at + 1)}}) {
			t.Errorf("SystemsOf of the one at %d: %v", at, got)
		}
	}
	all := impl.Engine{Txns: liveTxns(20, 0)}
	var want []int64
	for i := range all.Txns {
		all.Txns[i].System = true
		want = append(want, int64(i+1))
	}
	if got := impl.SystemsOf(all); !same(got, impl.IntsResult{List: want}) {
		t.Errorf("SystemsOf of all: %v", got)
	}
}

// TestAnswersOfActsMayBeAny has numbers in answers that are no keys and no values.
func TestAnswersOfActsMayBeAny(t *testing.T) {
	e := impl.Engine{Txns: liveTxns(1, 0), Acts: []impl.Act{act(1, getOf(1), math.MinInt64, -1, 0, 10000, math.MaxInt64)}}
	checkEngineFault(t, "an answer of any numbers", e, impl.OK)
	if got := impl.BeginTxn(e, false); !same(got.Engine.Acts, e.Acts) {
		t.Errorf("the acts behind BeginTxn: %v", got.Engine.Acts)
	}
}
