package tests

import (
	"bytes"
	"slices"
	"strings"
	"testing"

	"loop.example/g00270/impl"
)

// opsNamed reads operations with ";" between, as "clean 5; pack"; an empty text has none.
func opsNamed(text string) []impl.Op {
	var ops []impl.Op
	for _, part := range strings.Split(text, ";") {
		if strings.TrimSpace(part) != "" {
			ops = append(ops, opNamed(part))
		}
	}
	return ops
}

func repeatedOp(o impl.Op, count int) []impl.Op {
	var ops []impl.Op
	for range count {
		ops = append(ops, o)
	}
	return ops
}

// wantedGhosts, wantedOpsCode, wantedSystem and wantedClean tell by the document alone what is answered.
func wantedGhosts(e impl.Engine) impl.IntsResult {
	if code := wantedEngineFault(e); code != impl.OK {
		return impl.IntsResult{Code: code}
	}
	var want impl.IntsResult
	for key := range int64(100) {
		if slices.Contains(rowsIn(e.Leaves), ghost(key)) {
			want.List = append(want.List, key)
		}
	}
	return want
}

func wantedOpsCode(ops []impl.Op) int64 {
	if len(ops) > 110 {
		return impl.ErrMany
	}
	for _, o := range ops {
		if code := wantedOpFault(o); code != impl.OK {
			return code
		}
		if o.Kind < impl.OpClean {
			return impl.ErrForm
		}
	}
	return impl.OK
}

func wantedSystem(e impl.Engine, ops []impl.Op) impl.SystemResult {
	if code := wantedEngineFault(e); code != impl.OK {
		return impl.SystemResult{Code: code}
	}
	if code := wantedOpsCode(ops); code != impl.OK {
		return impl.SystemResult{Code: code}
	}
	now := wantedBegin(e, true)
	if now.Code != impl.OK {
		return impl.SystemResult{Code: now.Code}
	}
	own := now.Id
	for _, o := range ops {
		now = wantedDo(now.Engine, own, o)
		switch {
		case now.Code == impl.ErrVictim:
			return impl.SystemResult{Engine: now.Engine}
		case now.Code != impl.OK:
			return impl.SystemResult{Code: now.Code, Engine: e}
		case now.Waits:
			wantedGiveWay(&now, own)
			return impl.SystemResult{Engine: now.Engine}
		}
	}
	now = wantedDo(now.Engine, own, opNamed("commit"))
	if now.Code != impl.OK {
		return impl.SystemResult{Code: now.Code}
	}
	return impl.SystemResult{Done: true, Engine: now.Engine}
}

func cleansOf(keys []int64) []impl.Op {
	var ops []impl.Op
	for _, key := range keys {
		ops = append(ops, impl.Op{Kind: impl.OpClean, Key: key})
	}
	return ops
}

// isInTheWay asks the locks alone whether somebody stands where one that has just begun would come to; it takes no faults.
func isInTheWay(e impl.Engine, ops []impl.Op) bool {
	for _, o := range ops {
		for _, need := range wantedNeeds(o).Needs {
			for _, lock := range e.Locks {
				if lock.Res == need.Res && (len(lock.Queue) > 0 || !fitsBeside(lock.Holds, impl.Hold{Txn: 21, Mode: need.Mode})) {
					return true
				}
			}
		}
	}
	return false
}

// checkSystem holds an answer against the one that is wanted, and asks what is promised of work of the system.
func checkSystem(t *testing.T, name string, e impl.Engine, ops []impl.Op, got, want impl.SystemResult) {
	t.Helper()
	if !same(got, want) {
		t.Fatalf("%s of %v: %v, want %v; of %v", name, ops, got, want, e)
	}
	if got.Code != impl.OK {
		return
	}
	if got.Done == isInTheWay(e, ops) {
		t.Fatalf("%s of %v: %v, and of who is in the way: %v; of %v", name, ops, got.Done, !got.Done, e.Locks)
	}
	checkTidied(t, name, e, got)
	checkLeftBehind(t, name, e, got)
}

// checkTidied is of what others see: no row and no index is another one, no lock, and no fault or circle came of it.
func checkTidied(t *testing.T, name string, e impl.Engine, got impl.SystemResult) {
	t.Helper()
	now := got.Engine
	if !same(impl.MapOf(now), impl.MapOf(e)) {
		t.Fatalf("%s: the rows were %v, and are %v", name, impl.MapOf(e), impl.MapOf(now))
	}
	if e.Built && (!now.Built || !same(now.Index, e.Index)) {
		t.Fatalf("%s: the index was %v, and is %v", name, e.Index, now.Index)
	}
	if !same(now.Locks, e.Locks) || !same(now.Base, e.Base) {
		t.Fatalf("%s: the locks were %v, and are %v", name, e.Locks, now.Locks)
	}
	if code := impl.EngineFault(now); code != impl.OK {
		t.Fatalf("%s: the engine has the fault %d then: %v", name, code, now)
	}
	if !wantedHasCycle(wantedEdges(e.Locks).Edges) && impl.HasCycle(impl.EdgesOf(now.Locks).Edges) {
		t.Fatalf("%s: there is a circle, where there was none: %v", name, now.Locks)
	}
}

// checkLeftBehind is of what is told of the work itself: who did it, its acts and its records.
func checkLeftBehind(t *testing.T, name string, e impl.Engine, got impl.SystemResult) {
	t.Helper()
	now, own := got.Engine, int64(len(e.Txns)+1)
	state, end, commits := int64(impl.TxnGone), impl.OpAbort, e.Commits
	if got.Done {
		state, end, commits = impl.TxnDone, impl.OpCommit, append(slices.Clone(e.Commits), own)
	}
	if !same(now.Txns, append(bareOf(e.Txns), impl.Txn{Id: own, System: true, State: state})) || !slices.Equal(now.Commits, commits) {
		t.Fatalf("%s: the transactions are %v, those who committed %v", name, now.Txns, now.Commits)
	}
	acts := now.Acts[len(e.Acts):]
	if !same(now.Acts[:len(e.Acts)], e.Acts) || !same(acts[len(acts)-1], act(own, impl.Op{Kind: int64(end)})) {
		t.Fatalf("%s: the acts are %v", name, now.Acts)
	}
	for _, a := range acts {
		if a.Txn != own || len(a.Answer) > 0 {
			t.Fatalf("%s: the act %v", name, a)
		}
	}
	log, before := slices.Concat(now.Wal.Sure, now.Wal.Loose), slices.Concat(e.Wal.Sure, e.Wal.Loose)
	if !bytes.HasPrefix(log, before) || len(log) != len(before)+10 || got.Done && len(now.Wal.Loose) > 0 || !got.Done && !bytes.Equal(now.Wal.Sure, e.Wal.Sure) {
		t.Fatalf("%s: the log was %v, and is %v", name, e.Wal, now.Wal)
	}
}

// run, clean, pack and build hold what they are told against the document.
func run(t *testing.T, e impl.Engine, ops []impl.Op) impl.SystemResult {
	t.Helper()
	got := impl.RunSystem(e, ops)
	checkSystem(t, "RunSystem", e, ops, got, wantedSystem(e, ops))
	return got
}

func clean(t *testing.T, e impl.Engine) impl.SystemResult {
	t.Helper()
	got, ops := impl.CleanEngine(e), cleansOf(wantedGhosts(e).List)
	checkSystem(t, "CleanEngine", e, ops, got, wantedSystem(e, ops))
	if ghosts := impl.GhostsOf(got.Engine); got.Done && !same(ghosts, impl.IntsResult{}) {
		t.Fatalf("CleanEngine is done, and there are ghosts still: %v", ghosts)
	}
	return got
}

func pack(t *testing.T, e impl.Engine) impl.SystemResult {
	t.Helper()
	got, ops := impl.PackEngine(e), opsNamed("pack")
	checkSystem(t, "PackEngine", e, ops, got, wantedSystem(e, ops))
	for at, l := range got.Engine.Leaves {
		if got.Done && len(l.Rows) != impl.LeafRows && at < len(got.Engine.Leaves)-1 {
			t.Fatalf("PackEngine is done, and the leaf at %d is not full: %v", at, got.Engine.Leaves)
		}
	}
	return got
}

func build(t *testing.T, e impl.Engine) impl.SystemResult {
	t.Helper()
	got, ops := impl.BuildEngine(e), opsNamed("build")
	checkSystem(t, "BuildEngine", e, ops, got, wantedSystem(e, ops))
	if got.Done && (!got.Engine.Built || !slices.Equal(got.Engine.Index, wantedIndex(e.Leaves).Pairs)) {
		t.Fatalf("BuildEngine is done, and the index is %v", got.Engine.Index)
	}
	return got
}

// tidied has all work of the system done to one engine, each by itself.
func tidied(t *testing.T, e impl.Engine) []impl.SystemResult {
	t.Helper()
	if got, want := impl.GhostsOf(e), wantedGhosts(e); !same(got, want) {
		t.Fatalf("GhostsOf: %v, want %v; of %v", got, want, e.Leaves)
	}
	return []impl.SystemResult{clean(t, e), pack(t, e), build(t, e), run(t, e, nil)}
}
