package tests

import (
	"slices"
	"strings"
	"testing"

	"loop.example/g00270/impl"
)

// actsNamed reads acts with ";" between: a transaction, what it did, and behind "=" what it was told, as "1 get 3 = 4". Numbers may be any.
func actsNamed(text string) []impl.Act {
	var acts []impl.Act
	for _, part := range strings.Split(text, ";") {
		did, told, _ := strings.Cut(part, "=")
		who, op, ok := strings.Cut(strings.TrimSpace(did), " ")
		if !ok {
			continue
		}
		var answer []int64
		for _, word := range strings.Fields(told) {
			answer = append(answer, numberOf(word))
		}
		acts = append(acts, act(numberOf(who), opNamed(op), answer...))
	}
	return acts
}

// wantedTouches, wantedActsCode, wantedWrites, wantedStrict, wantedReplay, wantedSerial and wantedWaitsRight tell by the document alone what is answered.
func wantedTouches(o impl.Op, key int64) bool {
	if wantedOpFault(o) != impl.OK || isOut(key, 0, 99) {
		return false
	}
	around := map[int64][2]int64{
		impl.OpGet: {o.Key, o.Key}, impl.OpPut: {o.Key, o.Key}, impl.OpDelete: {o.Key, o.Key},
		impl.OpScan: {o.Key, o.High}, impl.OpFind: {0, 99},
	}
	ends, touches := around[o.Kind]
	return touches && !isOut(key, ends[0], ends[1])
}

func wantedActsCode(acts []impl.Act) int64 {
	if len(acts) > 220 {
		return impl.ErrMany
	}
	for _, a := range acts {
		if isOut(a.Txn, 1, 999) {
			return impl.ErrRange
		}
		if code := wantedOpFault(a.Op); code != impl.OK {
			return code
		}
	}
	return impl.OK
}

func isWriting(o impl.Op) bool {
	return o.Kind == impl.OpPut || o.Kind == impl.OpDelete
}

func isEnding(o impl.Op) bool {
	return o.Kind == impl.OpCommit || o.Kind == impl.OpAbort
}

func wantedWrites(acts []impl.Act, txn int64) impl.IntsResult {
	for _, code := range []int64{wantedActsCode(acts), codeIf(isOut(txn, 1, 999), impl.ErrRange)} {
		if code != impl.OK {
			return impl.IntsResult{Code: code}
		}
	}
	var want impl.IntsResult
	for key := range int64(100) {
		if slices.ContainsFunc(acts, func(a impl.Act) bool { return a.Txn == txn && isWriting(a.Op) && a.Op.Key == key }) {
			want.List = append(want.List, key)
		}
	}
	return want
}

// wantedStrict goes along the acts once, and keeps who has written what and is not at its end, and who is.
func wantedStrict(acts []impl.Act) bool {
	if wantedActsCode(acts) != impl.OK {
		return false
	}
	open, ended := map[int64][]int64{}, map[int64]bool{}
	for _, a := range acts {
		if ended[a.Txn] {
			return false
		}
		for txn, keys := range open {
			if txn != a.Txn && slices.ContainsFunc(keys, func(key int64) bool { return wantedTouches(a.Op, key) }) {
				return false
			}
		}
		if isWriting(a.Op) {
			open[a.Txn] = append(open[a.Txn], a.Op.Key)
		}
		if isEnding(a.Op) {
			delete(open, a.Txn)
			ended[a.Txn] = true
		}
	}
	return true
}

// storeOf is a store of such rows, of which an index is built; it is made to be asked by toldBy alone.
func storeOf(rows []impl.Row) impl.Engine {
	return impl.Engine{Leaves: []impl.Leaf{{Rows: rows}}, Built: true}
}

func wantedReplay(base []impl.Row, acts []impl.Act, commits []int64) impl.ReplayResult {
	for _, code := range []int64{wantedActsCode(acts), wantedBaseCode(base), codeIf(len(commits) > 40, impl.ErrMany)} {
		if code != impl.OK {
			return impl.ReplayResult{Code: code}
		}
	}
	want := impl.ReplayResult{Same: true, Rows: base}
	for _, txn := range commits {
		for _, a := range acts {
			if a.Txn != txn {
				continue
			}
			if !slices.Equal(a.Answer, toldBy(storeOf(want.Rows), a.Op)) {
				want.Same = false
			}
			want.Rows = committedRows(want.Rows, []impl.Act{a}, []int64{txn})
		}
	}
	return want
}

func wantedSerial(e impl.Engine) bool {
	if wantedEngineFault(e) != impl.OK || !wantedStrict(e.Acts) {
		return false
	}
	replayed := wantedReplay(e.Base, e.Acts, e.Commits)
	states := statesIn(e)
	goOn := strings.Contains(states, "live") || strings.Contains(states, "waits")
	return replayed.Code == impl.OK && replayed.Same && (goOn || same(replayed.Rows, wantedMap(rowsIn(e.Leaves)).Rows))
}

func wantedWaitsRight(e impl.Engine) bool {
	return wantedEngineFault(e) == impl.OK && !wantedHasCycle(wantedEdges(e.Locks).Edges)
}

// replayed, strict, writes, serial and waitsRight hold what they are told against the document.
func replayed(t *testing.T, base []impl.Row, acts []impl.Act, commits []int64) impl.ReplayResult {
	t.Helper()
	got, want := impl.ReplayActs(base, acts, commits), wantedReplay(base, acts, commits)
	if !same(got, want) {
		t.Fatalf("ReplayActs of %v, %v and %v: %v, want %v", base, acts, commits, got, want)
	}
	if got.Code == impl.OK {
		checkReplayedInTwo(t, base, acts, commits, got)
	}
	return got
}

// checkReplayedInTwo asks that those who come first and those who come behind them do in two parts what they do in one.
func checkReplayedInTwo(t *testing.T, base []impl.Row, acts []impl.Act, commits []int64, whole impl.ReplayResult) {
	t.Helper()
	for at := range len(commits) + 1 {
		first := impl.ReplayActs(base, acts, commits[:at])
		second := impl.ReplayActs(first.Rows, acts, commits[at:])
		if first.Code != impl.OK || second.Code != impl.OK || (first.Same && second.Same) != whole.Same || !same(second.Rows, whole.Rows) {
			t.Fatalf("ReplayActs of %v and %v, the first %d of %v, then the others: %v, %v, want %v", base, acts, at, commits, first, second, whole)
		}
	}
}

func strict(t *testing.T, acts []impl.Act) bool {
	t.Helper()
	got := impl.StrictActs(acts)
	if got != wantedStrict(acts) {
		t.Fatalf("StrictActs of %v: %v", acts, got)
	}
	return got
}

func writes(t *testing.T, acts []impl.Act, txn int64) impl.IntsResult {
	t.Helper()
	got, want := impl.WritesOf(acts, txn), wantedWrites(acts, txn)
	if !same(got, want) {
		t.Fatalf("WritesOf %v, of %d: %v, want %v", acts, txn, got, want)
	}
	return got
}

func serial(t *testing.T, e impl.Engine) bool {
	t.Helper()
	got := impl.SerialEngine(e)
	if got != wantedSerial(e) {
		t.Fatalf("SerialEngine: %v, of %v", got, e)
	}
	return got
}

func waitsRight(t *testing.T, e impl.Engine) bool {
	t.Helper()
	got := impl.WaitsRight(e)
	if got != wantedWaitsRight(e) {
		t.Fatalf("WaitsRight: %v, of %v", got, e)
	}
	return got
}
