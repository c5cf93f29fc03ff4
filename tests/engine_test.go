package tests

import (
	"slices"
	"testing"

	"loop.example/g00270/impl"
)

// someBases has rows that a store may begin with.
func someBases() [][]impl.Row {
	bases := [][]impl.Row{nil, {}, {row(0, 0)}, {row(99, 9999)}, {row(0, 9999), row(99, 0)}}
	for count := range int64(101) {
		bases = append(bases, manyRows(count))
	}
	next := numbersFrom(33)
	for range 200 {
		var base []impl.Row
		every := next(6) + 1
		for key := range int64(100) {
			if next(every) == 0 {
				base = append(base, row(key, next(10000)))
			}
		}
		bases = append(bases, base)
	}
	return bases
}

// TestNewStoreHasJustItsRows is the first half of promise 11.
func TestNewStoreHasJustItsRows(t *testing.T) {
	for _, base := range someBases() {
		got := impl.NewEngine(base)
		if !same(got, wantedNew(base)) {
			t.Fatalf("NewEngine of %v: %v, want %v", base, got, wantedNew(base))
		}
		checkEngineFault(t, "of a new store", got.Engine, impl.OK)
		if rows := impl.MapOf(got.Engine); !same(rows, impl.RowsResult{Rows: base}) {
			t.Fatalf("MapOf a new store of %v: %v", base, rows)
		}
		if !slices.Equal(got.Engine.Base, base) || !slices.Equal(rowsIn(got.Engine.Leaves), base) {
			t.Fatalf("a new store of %v: %v", base, got.Engine)
		}
		bare := got.Engine
		bare.Base, bare.Leaves = nil, nil
		if !same(bare, impl.Engine{}) {
			t.Fatalf("a new store of %v has something else: %v", base, bare)
		}
		if room, systems := impl.RoomOf(got.Engine), impl.SystemsOf(got.Engine); room.Value != impl.MaxLog || !same(systems, impl.IntsResult{}) {
			t.Fatalf("a new store of %v: %v and %v", base, room, systems)
		}
	}
}

// TestRowsThatNoStoreBeginsWith has ghosts and faults among the rows.
func TestRowsThatNoStoreBeginsWith(t *testing.T) {
	codes := map[int64]int{}
	lists := append(oddRows(), somePages()...)
	for _, base := range someBases() {
		for at := range base {
			turned := slices.Clone(base)
			turned[at].Ghost = true
			lists = append(lists, turned)
			turned = slices.Clone(base)
			turned[at] = ghost(turned[at].Key)
			lists = append(lists, turned)
		}
	}
	for _, base := range lists {
		got, want := impl.NewEngine(base), wantedNew(base)
		if !same(got, want) {
			t.Fatalf("NewEngine of %d rows: %v, want %v", len(base), got, want)
		}
		codes[got.Code]++
	}
	for _, code := range []int64{impl.OK, impl.ErrForm, impl.ErrRange, impl.ErrMany} {
		if codes[code] == 0 {
			t.Errorf("the code %d never came: %v", code, codes)
		}
	}
}

// TestEachOneWhoBeginsHasANumberOfTheirOwn is the second half of promise 11: some begin in one store until there is no room.
func TestEachOneWhoBeginsHasANumberOfTheirOwn(t *testing.T) {
	next := numbersFrom(7)
	engines := someEngines()
	for _, base := range someBases()[:60] {
		engines = append(engines, impl.NewEngine(base).Engine)
	}
	for _, e := range engines {
		var numbers, systems []int64
		for _, t := range e.Txns {
			numbers = append(numbers, t.Id)
		}
		systems = append(systems, impl.SystemsOf(e).List...)
		rows := impl.MapOf(e)
		for {
			system := next(2) == 0
			got := impl.BeginTxn(e, system)
			if !same(got, wantedBegin(e, system)) {
				t.Fatalf("BeginTxn of %v: %v, want %v", e, got, wantedBegin(e, system))
			}
			if got.Code != impl.OK {
				break
			}
			if slices.Contains(numbers, got.Id) || got.Id < 1 || got.Id > impl.MaxTxns {
				t.Fatalf("the number %d is told, and there are %v", got.Id, numbers)
			}
			numbers = append(numbers, got.Id)
			if system {
				systems = append(systems, got.Id)
			}
			e = got.Engine
			checkEngineFault(t, "of a store in which one began", e, impl.OK)
			if now := impl.MapOf(e); !same(now, rows) {
				t.Fatalf("one began, and the rows are %v, not %v", now, rows)
			}
			if now := impl.SystemsOf(e); !slices.Equal(now.List, systems) {
				t.Fatalf("SystemsOf %v, want %v", now, systems)
			}
		}
		if len(e.Txns) < impl.MaxTxns && impl.RoomOf(e).Value >= 10 {
			t.Fatalf("none can begin beside %d, though there is room: %v", len(e.Txns), impl.RoomOf(e))
		}
	}
}

// TestManyBeginInANewStore has as many begin as there may, and tells what the log and the room come to.
func TestManyBeginInANewStore(t *testing.T) {
	e := impl.NewEngine([]impl.Row{row(1, 3)}).Engine
	var begun []impl.Rec
	for k := range int64(impl.MaxTxns) {
		got := impl.BeginTxn(e, k%3 == 0)
		if got.Code != impl.OK || got.Id != k+1 || got.Waits || len(got.Answer)+len(got.Victims) != 0 {
			t.Fatalf("the one at %d: %v", k, got)
		}
		e, begun = got.Engine, append(begun, plain(impl.LogBegin, k+1))
		if last := e.Txns[k]; !same(last, impl.Txn{Id: k + 1, System: k%3 == 0, State: impl.TxnLive}) {
			t.Fatalf("the one at %d began as %v", k, last)
		}
		if recs := impl.ReadRecs(e.Wal.Loose); !slices.Equal(recs.Recs, begun) || len(e.Wal.Sure) != 0 {
			t.Fatalf("the log when %d began: %v", k+1, e.Wal)
		}
		if room := impl.RoomOf(e); room != (impl.IntResult{Value: 4000 - 10*(k+1)}) {
			t.Fatalf("the room when %d began: %v", k+1, room)
		}
	}
	if got := impl.BeginTxn(e, false); !same(got, impl.EngineResult{Code: impl.ErrMany}) {
		t.Errorf("one more than there may be: %v", got)
	}
}

// parts has some of each part of an engine, with and without faults, to be put together as it comes.
type parts struct {
	bases  [][]impl.Row
	leaves [][]impl.Leaf
	locks  [][]impl.Lock
	txns   [][]impl.Txn
	wals   []impl.Wal
	lists  [][]int64
	acts   [][]impl.Act
}

func someParts() parts {
	busy, full := busyEngine(), fullEngine()
	wrong := liveTxns(4, 1)
	wrong[2].Undo[0].Key = 100
	ended := endedTxns(liveTxns(2, 1), 4)
	return parts{
		bases:  [][]impl.Row{nil, busy.Base, manyRows(100), {ghost(1)}, {row(1, 10000)}},
		leaves: [][]impl.Leaf{nil, busy.Leaves, fullLeaves(), {leaf(ghost(0))}, {keyed(100)}},
		locks:  [][]impl.Lock{nil, locksOf("0 1:is 2:is"), locksOf("5 1:x 2?s"), locksOf("5 3:s"), busy.Locks, locksOf("5 1:s 1:s")},
		txns:   [][]impl.Txn{nil, busy.Txns, full.Txns, ended, liveTxns(2, 0), waitingTxns(3, 1), wrong, liveTxns(21, 0)},
		wals:   []impl.Wal{{}, busy.Wal, full.Wal, {Sure: logBytes(3990)}, {Loose: logBytes(3600)}, {Loose: []byte{1}}, {Sure: make([]byte, 4001)}},
		lists:  [][]int64{nil, busy.Commits, {3, 5}, {5, 3}, {1}},
		acts:   [][]impl.Act{nil, busy.Acts, manyActs(3), manyActs(220), {act(1, getOf(100))}, manyActs(221)},
	}
}

// anyOf tells an element of a list, the first ones more often, which are right by themselves.
func anyOf[T any](next func(int64) int64, list []T) T {
	return list[min(next(int64(len(list))), next(int64(len(list))))]
}

func TestMadeUpEngines(t *testing.T) {
	next := numbersFrom(51)
	codes := map[int64]int{}
	from := someParts()
	for range 8000 {
		e := impl.Engine{
			Base: anyOf(next, from.bases), Leaves: anyOf(next, from.leaves), Locks: anyOf(next, from.locks), Txns: anyOf(next, from.txns),
			Wal: anyOf(next, from.wals), Commits: anyOf(next, from.lists), Acts: anyOf(next, from.acts), Built: next(3) == 0,
		}
		if e.Built != (next(9) == 0) {
			e.Index = wantedIndex(e.Leaves).Pairs
		}
		if next(9) == 0 {
			e.Index = pairsNamed("1:1 2:1")
		}
		want := wantedEngineFault(e)
		codes[want]++
		if got := impl.EngineFault(e); got != want {
			t.Fatalf("EngineFault of %v: %d, want %d", e, got, want)
		}
		room, rows, systems := impl.IntResult{Code: want}, impl.RowsResult{Code: want}, impl.IntsResult{Code: want}
		if want == impl.OK {
			room.Value, rows, systems = wantedRoom(e), wantedMap(rowsIn(e.Leaves)), wantedSystems(e)
		}
		if got := impl.RoomOf(e); got != room {
			t.Fatalf("RoomOf %v: %v, want %v", e, got, room)
		}
		if got := impl.MapOf(e); !same(got, rows) {
			t.Fatalf("MapOf %v: %v, want %v", e, got, rows)
		}
		if got := impl.SystemsOf(e); !same(got, systems) {
			t.Fatalf("SystemsOf %v: %v, want %v", e, got, systems)
		}
		system := next(2) == 0
		if got := impl.BeginTxn(e, system); !same(got, wantedBegin(e, system)) {
			t.Fatalf("BeginTxn of %v: %v, want %v", e, got, wantedBegin(e, system))
		}
	}
	for _, code := range []int64{impl.OK, impl.ErrForm, impl.ErrMany, impl.ErrRange, impl.ErrText, impl.ErrTaken} {
		if codes[code] < 20 {
			t.Errorf("the code %d came too seldom: %v", code, codes)
		}
	}
}
