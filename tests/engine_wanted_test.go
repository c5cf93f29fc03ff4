package tests

import (
	"slices"
	"strings"

	"loop.example/g00270/impl"
)

func getOf(key int64) impl.Op {
	return impl.Op{Kind: impl.OpGet, Key: key}
}

func putOf(key, value int64) impl.Op {
	return impl.Op{Kind: impl.OpPut, Key: key, Value: value}
}

func scanOf(low, high int64) impl.Op {
	return impl.Op{Kind: impl.OpScan, Key: low, High: high}
}

func act(txn int64, o impl.Op, answer ...int64) impl.Act {
	return impl.Act{Txn: txn, Op: o, Answer: answer}
}

// opForm tells of a kind which fields it has (k for Key, h for High, v for Value), and which locks it needs: resources with their modes, k for that of the Key.
type opForm struct {
	fields, needs string
}

// opForms has the kinds by their numbers; there is no 0.
func opForms() []opForm {
	return []opForm{
		impl.OpGet:    {"k", "0:is k:s"},
		impl.OpPut:    {"kv", "0:ix k:x"},
		impl.OpDelete: {"k", "0:ix k:x"},
		impl.OpScan:   {"kh", "0:s"},
		impl.OpFind:   {"v", "0:s"},
		impl.OpCommit: {"", ""},
		impl.OpAbort:  {"", ""},
		impl.OpClean:  {"k", "0:ix k:x"},
		impl.OpPack:   {"", "0:is"},
		impl.OpBuild:  {"", "0:s"},
	}
}

// wantedOpFault, wantedNeeds, wantedEngineFault, wantedRoom, wantedSystems, wantedNew and wantedBegin tell by the document alone what is answered.
func wantedOpFault(o impl.Op) int64 {
	if o.Kind < 1 || o.Kind > 10 {
		return impl.ErrForm
	}
	code := int64(impl.OK)
	for _, field := range []struct {
		name          string
		number, bound int64
	}{{"k", o.Key, 99}, {"h", o.High, 99}, {"v", o.Value, 9999}} {
		has := strings.Contains(opForms()[o.Kind].fields, field.name)
		if has && (field.number < 0 || field.number > field.bound) {
			return impl.ErrRange
		}
		if !has && field.number != 0 {
			code = impl.ErrForm
		}
	}
	return code
}

func wantedNeeds(o impl.Op) impl.NeedsResult {
	if code := wantedOpFault(o); code != impl.OK {
		return impl.NeedsResult{Code: code}
	}
	var want impl.NeedsResult
	for _, word := range strings.Fields(opForms()[o.Kind].needs) {
		res, mode, _ := strings.Cut(word, ":")
		need := impl.Need{Res: o.Key + 1, Mode: modeNamed(mode)}
		if res != "k" {
			need.Res = numberOf(res)
		}
		want.Needs = append(want.Needs, need)
	}
	return want
}

func wantedWalFault(w impl.Wal) int64 {
	if len(w.Sure)+len(w.Loose) > 4000 {
		return impl.ErrMany
	}
	for _, data := range [][]byte{w.Sure, w.Loose} {
		if _, used := wantedRecs(data); used != len(data) {
			return impl.ErrText
		}
	}
	return impl.OK
}

// codeIf tells the code where something is so.
func codeIf(so bool, code int64) int64 {
	if so {
		return code
	}
	return impl.OK
}

func wantedEngineFault(e impl.Engine) int64 {
	for _, ask := range []func() int64{
		func() int64 { return wantedMap(e.Base).Code },
		func() int64 {
			return codeIf(slices.ContainsFunc(e.Base, func(r impl.Row) bool { return r.Ghost }), impl.ErrForm)
		},
		func() int64 { return wantedLeavesFault(e.Leaves) },
		func() int64 { return wantedLocksFault(e.Locks) },
		func() int64 { return codeIf(len(e.Txns) > 20 || len(e.Acts) > 220, impl.ErrMany) },
		func() int64 { return wantedTxnsFault(e) },
		func() int64 { return wantedWalFault(e.Wal) },
		func() int64 { return codeIf(wantedRoom(e) < 0, impl.ErrMany) },
		func() int64 { return wantedIndexFault(e.Index) },
		func() int64 { return codeIf(wantedIndexIsWrong(e), impl.ErrForm) },
		func() int64 { return codeIf(wantedHistoryIsWrong(e), impl.ErrForm) },
	} {
		if code := ask(); code != impl.OK {
			return code
		}
	}
	return impl.OK
}

func wantedTxnsFault(e impl.Engine) int64 {
	var held, queued []impl.Hold
	for _, lock := range e.Locks {
		held, queued = append(held, lock.Holds...), append(queued, lock.Queue...)
	}
	for k, t := range e.Txns {
		if t.Id != int64(k+1) || t.State < 1 || t.State > 4 {
			return impl.ErrForm
		}
		if code := wantedBeforesFault(t.Undo); code != impl.OK {
			return code
		}
		holds, waits := slices.ContainsFunc(held, isTxnOf(t.Id)), slices.ContainsFunc(queued, isTxnOf(t.Id))
		atEnd := t.State == impl.TxnDone || t.State == impl.TxnGone
		switch {
		case atEnd && (holds || waits || len(t.Undo) > 0):
			return impl.ErrForm
		case t.State == impl.TxnWaits && wantedOpFault(t.Wait) != impl.OK:
			return impl.ErrForm
		case t.State != impl.TxnWaits && (t.Wait != impl.Op{} || waits):
			return impl.ErrForm
		}
	}
	for _, h := range append(held, queued...) {
		if h.Txn > int64(len(e.Txns)) {
			return impl.ErrForm
		}
	}
	return impl.OK
}

func wantedIndexIsWrong(e impl.Engine) bool {
	if e.Built {
		return !slices.Equal(e.Index, wantedIndex(e.Leaves).Pairs)
	}
	return len(e.Index) != 0
}

// wantedHistoryIsWrong takes transactions without a fault.
func wantedHistoryIsWrong(e impl.Engine) bool {
	for i, id := range e.Commits {
		if id < 1 || id > int64(len(e.Txns)) || e.Txns[id-1].State != impl.TxnDone || slices.Contains(e.Commits[:i], id) {
			return true
		}
	}
	for _, t := range e.Txns {
		if t.State == impl.TxnDone && !slices.Contains(e.Commits, t.Id) {
			return true
		}
	}
	return slices.ContainsFunc(e.Acts, func(a impl.Act) bool {
		return a.Txn < 1 || a.Txn > int64(len(e.Txns)) || wantedOpFault(a.Op) != impl.OK
	})
}

// wantedRoom asks no fault.
func wantedRoom(e impl.Engine) int64 {
	room := 4000 - len(e.Wal.Sure) - len(e.Wal.Loose)
	for _, t := range e.Txns {
		if t.State == impl.TxnLive || t.State == impl.TxnWaits {
			room -= 5 + 11*len(t.Undo)
		}
	}
	return int64(room)
}

// wantedSystems asks no fault.
func wantedSystems(e impl.Engine) impl.IntsResult {
	var want impl.IntsResult
	for _, t := range e.Txns {
		if t.System {
			want.List = append(want.List, t.Id)
		}
	}
	return want
}

func wantedNew(base []impl.Row) impl.EngineResult {
	seen := wantedMap(base)
	if seen.Code == impl.OK && len(seen.Rows) != len(base) {
		seen.Code = impl.ErrForm
	}
	if seen.Code != impl.OK {
		return impl.EngineResult{Code: seen.Code}
	}
	var leaves []impl.Leaf
	for _, r := range base {
		_, leaves = wantedPut(leaves, r)
	}
	return impl.EngineResult{Engine: impl.Engine{Base: base, Leaves: leaves}}
}

func wantedBegin(e impl.Engine, system bool) impl.EngineResult {
	if code := wantedEngineFault(e); code != impl.OK {
		return impl.EngineResult{Code: code}
	}
	if len(e.Txns) == 20 || wantedRoom(e) < 10 {
		return impl.EngineResult{Code: impl.ErrMany}
	}
	want := impl.EngineResult{Id: int64(len(e.Txns) + 1), Engine: bareOf(e)}
	want.Engine.Txns = append(want.Engine.Txns, impl.Txn{Id: want.Id, System: system, State: impl.TxnLive})
	want.Engine.Wal.Loose = append(want.Engine.Wal.Loose, recData(plain(impl.LogBegin, want.Id))...)
	return want
}

// logBytes has just so many bytes of records; some small numbers have none.
func logBytes(size int) []byte {
	var data []byte
	for (size-len(data))%5 != 0 {
		data = append(data, recData(change(impl.LogSet, 1, 1, some{}, some{true, 1}))...)
	}
	for len(data) < size {
		data = append(data, recData(plain(impl.LogEnd, 1))...)
	}
	return data
}

// liveTxns has transactions that live, each with as many changes to be taken back.
func liveTxns(count, undo int64) []impl.Txn {
	var txns []impl.Txn
	for k := range count {
		txns = append(txns, impl.Txn{Id: k + 1, State: impl.TxnLive, Undo: manyBefores(undo)})
	}
	return txns
}

// manyActs has acts of the transaction 1.
func manyActs(count int64) []impl.Act {
	var acts []impl.Act
	for i := range count {
		acts = append(acts, act(1, getOf(i%100), i))
	}
	return acts
}

// busyEngine has transactions of every state, users' and the system's, and something of all that an engine has.
func busyEngine() impl.Engine {
	return impl.Engine{
		Base:   []impl.Row{row(1, 10), row(5, 50), row(20, 3)},
		Leaves: []impl.Leaf{leaf(row(1, 11), ghost(5)), leaf(row(7, 3), row(20, 3))},
		Locks:  locksOf("0 1:ix 5:is 2?s | 2 1:x | 8 1:x 7?x | 100 5:s 8:s"),
		Txns: []impl.Txn{
			{Id: 1, State: impl.TxnLive, Undo: []impl.Before{had(1, 10), hadNone(7)}},
			{Id: 2, State: impl.TxnWaits, Wait: scanOf(0, 99)},
			{Id: 3, State: impl.TxnDone},
			{Id: 4, State: impl.TxnGone},
			{Id: 5, System: true, State: impl.TxnLive},
			{Id: 6, System: true, State: impl.TxnDone},
			{Id: 7, System: true, State: impl.TxnWaits, Wait: impl.Op{Kind: impl.OpClean, Key: 7}},
			{Id: 8, State: impl.TxnWaits, Wait: putOf(99, 9999), Undo: []impl.Before{had(20, 9)}},
			{Id: 9, System: true, State: impl.TxnGone},
		},
		Wal: impl.Wal{
			Sure:  recsData(plain(impl.LogBegin, 3), change(impl.LogSet, 3, 5, some{true, 50}, some{}), plain(impl.LogCommit, 3)),
			Loose: recsData(plain(impl.LogBegin, 1), change(impl.LogSet, 1, 1, some{true, 10}, some{true, 11})),
		},
		Index:   pairsNamed("3:7 3:20 11:1"),
		Built:   true,
		Commits: []int64{6, 3},
		Acts: []impl.Act{
			act(3, impl.Op{Kind: impl.OpDelete, Key: 5}), act(6, impl.Op{Kind: impl.OpBuild}), act(1, getOf(1), 10), act(4, impl.Op{Kind: impl.OpAbort}),
			act(5, scanOf(0, 9), 1, 10, 5, 50), act(9, impl.Op{Kind: impl.OpFind, Value: 3}, 20), act(6, impl.Op{Kind: impl.OpCommit}),
		},
	}
}

// fullEngine has as many transactions, acts, leaves and locks as there may be, and the log is full with what is kept for ends.
func fullEngine() impl.Engine {
	e := impl.Engine{Base: manyRows(100), Leaves: fullLeaves(), Txns: liveTxns(20, 2), Acts: manyActs(220)}
	for res := range int64(101) {
		e.Locks = append(e.Locks, impl.Lock{Res: res, Holds: []impl.Hold{{Txn: res%20 + 1, Mode: impl.ModeX}}})
	}
	e.Wal.Sure = logBytes(4000 - 20*(5+22))
	return e
}

// someEngines has engines without faults.
func someEngines() []impl.Engine {
	engines := []impl.Engine{
		{},
		emptyOf(impl.Engine{}),
		{Base: []impl.Row{row(0, 0)}},
		{Leaves: []impl.Leaf{leaf(ghost(0), row(99, 9999))}},
		{Built: true},
		{Built: true, Leaves: fullLeaves(), Index: wantedIndex(fullLeaves()).Pairs},
		{Wal: impl.Wal{Sure: logBytes(4000)}},
		{Wal: impl.Wal{Sure: logBytes(2000), Loose: logBytes(1990)}},
		{Txns: liveTxns(1, 0)},
		{Txns: liveTxns(1, 40), Wal: impl.Wal{Loose: logBytes(3555)}},
		{Txns: liveTxns(19, 0), Acts: manyActs(1)},
		{Txns: liveTxns(20, 0)},
		wantedNew(manyRows(100)).Engine,
		busyEngine(),
		fullEngine(),
	}
	unbuilt := busyEngine()
	unbuilt.Built, unbuilt.Index = false, nil
	return append(engines, unbuilt)
}
