package tests

import (
	"slices"
	"strconv"
	"strings"
	"testing"

	"loop.example/g00270/impl"
)

// opNamed reads an operation from a text: "put 1 10", "scan 0 9", "commit". Numbers may be any.
func opNamed(text string) impl.Op {
	words := strings.Fields(text)
	names := []string{"", "get", "put", "delete", "scan", "find", "commit", "abort", "clean", "pack", "build"}
	o := impl.Op{Kind: int64(slices.Index(names, words[0]))}
	fields := map[string]*int64{"k": &o.Key, "h": &o.High, "v": &o.Value}
	for i, name := range strings.Split(opForms()[o.Kind].fields, "") {
		*fields[name] = numberOf(words[i+1])
	}
	return o
}

// wantedTxnCode is asked first by all that take an engine and a transaction.
func wantedTxnCode(e impl.Engine, txn int64) int64 {
	if code := wantedEngineFault(e); code != impl.OK {
		return code
	}
	return codeIf(txn < 1 || txn > int64(len(e.Txns)), impl.ErrRange)
}

// wantedState, wantedCanResume, wantedAnswer, wantedDo and wantedResume tell by the document alone what is answered.
func wantedState(e impl.Engine, txn int64) impl.IntResult {
	if code := wantedTxnCode(e, txn); code != impl.OK {
		return impl.IntResult{Code: code}
	}
	return impl.IntResult{Value: e.Txns[txn-1].State}
}

func waitsIn(locks []impl.Lock, txn int64) bool {
	return slices.ContainsFunc(locks, func(l impl.Lock) bool { return heldBy(l.Queue, txn) != 0 })
}

func wantedCanResume(e impl.Engine, txn int64) bool {
	return wantedTxnCode(e, txn) == impl.OK && e.Txns[txn-1].State == impl.TxnWaits && !waitsIn(e.Locks, txn)
}

// toldBy asks the rows alone: the index of an engine without a fault tells the same. There is no fault to be asked here.
func toldBy(e impl.Engine, o impl.Op) []int64 {
	var told []int64
	for _, r := range wantedMap(rowsIn(e.Leaves)).Rows {
		switch {
		case o.Kind == impl.OpGet && r.Key == o.Key:
			told = append(told, r.Value)
		case o.Kind == impl.OpScan && o.Key <= r.Key && r.Key <= o.High:
			told = append(told, r.Key, r.Value)
		case o.Kind == impl.OpFind && e.Built && r.Value == o.Value:
			told = append(told, r.Key)
		}
	}
	return told
}

func wantedAnswer(e impl.Engine, o impl.Op) impl.IntsResult {
	code := wantedEngineFault(e)
	if code == impl.OK {
		code = wantedOpFault(o)
	}
	if code == impl.OK && o.Kind == impl.OpFind && !e.Built {
		code = impl.ErrNone
	}
	if code != impl.OK {
		return impl.IntsResult{Code: code}
	}
	return impl.IntsResult{List: toldBy(e, o)}
}

// wantedMany is the last of the codes ahead of a trial.
func wantedMany(e impl.Engine, txn int64, o impl.Op) int64 {
	changes := o.Kind == impl.OpPut || o.Kind == impl.OpDelete
	full := len(e.Txns[txn-1].Undo) >= 40 || wantedRoom(e) < 22
	return codeIf(len(e.Acts) >= 200 || changes && full, impl.ErrMany)
}

func wantedDo(e impl.Engine, txn int64, o impl.Op) impl.EngineResult {
	if code := wantedTxnCode(e, txn); code != impl.OK {
		return impl.EngineResult{Code: code}
	}
	ofSystem := []int64{impl.OpClean, impl.OpPack, impl.OpBuild}
	ofUsers := []int64{impl.OpPut, impl.OpDelete}
	own := e.Txns[txn-1]
	for _, code := range []int64{
		codeIf(own.State != impl.TxnLive, impl.ErrState),
		wantedOpFault(o),
		codeIf(slices.Contains(ofSystem, o.Kind) && !own.System, impl.ErrForm),
		codeIf(slices.Contains(ofUsers, o.Kind) && own.System, impl.ErrForm),
		codeIf(o.Kind == impl.OpFind && !e.Built, impl.ErrNone),
		wantedMany(e, txn, o),
	} {
		if code != impl.OK {
			return impl.EngineResult{Code: code}
		}
	}
	return wantedTried(e, txn, o)
}

func wantedResume(e impl.Engine, txn int64) impl.EngineResult {
	if code := wantedTxnCode(e, txn); code != impl.OK {
		return impl.EngineResult{Code: code}
	}
	own := e.Txns[txn-1]
	switch {
	case own.State != impl.TxnWaits:
		return impl.EngineResult{Code: impl.ErrState}
	case waitsIn(e.Locks, txn):
		return impl.EngineResult{Code: impl.ErrWait}
	case wantedMany(e, txn, own.Wait) != impl.OK:
		return impl.EngineResult{Code: impl.ErrMany}
	}
	return wantedTried(e, txn, own.Wait)
}

func wantedTried(e impl.Engine, txn int64, o impl.Op) impl.EngineResult {
	want := impl.EngineResult{Engine: bareOf(e)}
	own := &want.Engine.Txns[txn-1]
	own.State, own.Wait = impl.TxnLive, impl.Op{}
	for _, need := range wantedNeeds(o).Needs {
		asked := wantedAsk(want.Engine.Locks, txn, need.Res, need.Mode)
		if asked.Code != impl.OK {
			return impl.EngineResult{Code: asked.Code}
		}
		want.Engine.Locks = asked.Locks
		for waitsIn(want.Engine.Locks, txn) {
			circle := wantedCycle(wantedEdges(want.Engine.Locks).Edges, txn)
			if circle.Code != impl.OK {
				own.State, own.Wait, want.Waits = impl.TxnWaits, o, true
				return want
			}
			victim := wantedVictim(circle.List, wantedSystems(want.Engine).List).Value
			wantedGiveWay(&want, victim)
			if victim == txn {
				want.Code = impl.ErrVictim
				return want
			}
		}
	}
	return wantedDone(want, txn, o)
}

// wantedGone has what was changed taken back, and the transaction at its end.
func wantedGone(e *impl.Engine, txn int64) {
	own := &e.Txns[txn-1]
	if back := wantedUndo(e.Leaves, txn, own.Undo); back.Code == impl.OK {
		e.Leaves = back.Leaves
		e.Wal.Loose = append(e.Wal.Loose, recsData(back.Recs...)...)
	}
	e.Wal.Loose = append(e.Wal.Loose, recData(plain(impl.LogEnd, txn))...)
	*own = impl.Txn{Id: txn, System: own.System, State: impl.TxnGone}
	e.Locks = wantedFree(e.Locks, txn).Locks
	wantedTurned(e)
}

// wantedTurned has the index anew, which is what it comes to when it is turned.
func wantedTurned(e *impl.Engine) {
	if e.Built {
		e.Index = wantedIndex(e.Leaves).Pairs
	}
}

func wantedGiveWay(want *impl.EngineResult, txn int64) {
	wantedGone(&want.Engine, txn)
	want.Engine.Acts = append(want.Engine.Acts, act(txn, opNamed("abort")))
	want.Victims = append(want.Victims, txn)
}

// wantedDone has all locks.
func wantedDone(want impl.EngineResult, txn int64, o impl.Op) impl.EngineResult {
	e := &want.Engine
	want.Answer = toldBy(*e, o)
	own := &e.Txns[txn-1]
	switch o.Kind {
	case impl.OpPut, impl.OpDelete:
		set := wantedSet(e.Leaves, txn, o.Key, o.Kind == impl.OpPut, o.Value)
		if set.Code != impl.OK {
			wantedGiveWay(&want, txn)
			want.Code = impl.ErrVictim
			return want
		}
		own.Undo = append(own.Undo, wantedBefore(e.Leaves, o.Key))
		e.Leaves = set.Leaves
		e.Wal.Loose = append(e.Wal.Loose, recsData(set.Recs...)...)
		wantedTurned(e)
	case impl.OpClean:
		if slices.Contains(rowsIn(e.Leaves), ghost(o.Key)) {
			_, e.Leaves = wantedDrop(e.Leaves, o.Key)
		}
	case impl.OpPack:
		e.Leaves = wantedPack(e.Leaves)
	case impl.OpBuild:
		e.Built = true
		wantedTurned(e)
	case impl.OpCommit:
		e.Wal = impl.Wal{Sure: slices.Concat(e.Wal.Sure, e.Wal.Loose, recData(plain(impl.LogCommit, txn)))}
		*own = impl.Txn{Id: txn, System: own.System, State: impl.TxnDone}
		e.Commits = append(e.Commits, txn)
		e.Locks = wantedFree(e.Locks, txn).Locks
	case impl.OpAbort:
		wantedGone(e, txn)
	}
	e.Acts = append(e.Acts, act(txn, o, want.Answer...))
	return want
}

// cameTo tells an answer as a text: "ok" and what is told, "waits", "victim", or "code" and its number; behind it "over" and who gave way.
func cameTo(r impl.EngineResult) string {
	var words []string
	add := func(word string, numbers ...int64) {
		words = append(words, word)
		for _, n := range numbers {
			words = append(words, strconv.FormatInt(n, 10))
		}
	}
	switch {
	case r.Code == impl.ErrVictim:
		add("victim")
	case r.Code != impl.OK:
		add("code", r.Code)
	case r.Waits:
		add("waits")
	default:
		add("ok", r.Answer...)
	}
	if len(r.Victims) > 0 {
		add("over", r.Victims...)
	}
	return strings.Join(words, " ")
}

// statesIn tells the states of all transactions, in order.
func statesIn(e impl.Engine) string {
	names := []string{impl.TxnLive: "live", impl.TxnWaits: "waits", impl.TxnDone: "done", impl.TxnGone: "gone"}
	var words []string
	for _, t := range e.Txns {
		words = append(words, names[t.State])
	}
	return strings.Join(words, " ")
}

// checkTried holds an answer against the one that is wanted, and against what is promised of every engine that is told.
func checkTried(t *testing.T, name string, e impl.Engine, got, want impl.EngineResult) {
	t.Helper()
	if !same(got, want) {
		t.Fatalf("%s: %v, want %v; of %v", name, got, want, e)
	}
	if got.Code != impl.OK && got.Code != impl.ErrVictim {
		return
	}
	if code := impl.EngineFault(got.Engine); code != impl.OK {
		t.Fatalf("%s: the engine has the fault %d then: %v", name, code, got)
	}
	if !wantedHasCycle(wantedEdges(e.Locks).Edges) && impl.HasCycle(impl.EdgesOf(got.Engine.Locks).Edges) {
		t.Fatalf("%s: there is a circle, where there was none: %v", name, got)
	}
}

func do(t *testing.T, e impl.Engine, txn int64, o impl.Op) impl.EngineResult {
	t.Helper()
	got := impl.DoOp(e, txn, o)
	checkTried(t, "DoOp", e, got, wantedDo(e, txn, o))
	return got
}

func resume(t *testing.T, e impl.Engine, txn int64) impl.EngineResult {
	t.Helper()
	got := impl.ResumeTxn(e, txn)
	checkTried(t, "ResumeTxn", e, got, wantedResume(e, txn))
	return got
}

// play has lines done one behind the other, each held against the document, and tells what the last one came to: "begin", "system", "resume 1", or a transaction and what it does, as "1 put 3 4". Several may stand in one text, with ";" between.
func play(t *testing.T, e impl.Engine, lines string) impl.EngineResult {
	t.Helper()
	got := impl.EngineResult{Engine: e}
	for _, line := range strings.Split(lines, ";") {
		if got.Code != impl.OK && got.Code != impl.ErrVictim {
			t.Fatalf("ahead of %q: %v", line, got)
		}
		first, rest, _ := strings.Cut(strings.TrimSpace(line), " ")
		switch first {
		case "":
		case "begin", "system":
			got = impl.BeginTxn(got.Engine, first == "system")
		case "resume":
			got = resume(t, got.Engine, numberOf(rest))
		default:
			got = do(t, got.Engine, numberOf(first), opNamed(rest))
		}
	}
	return got
}
