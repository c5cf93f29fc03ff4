package tests

import (
	"cmp"
	"slices"
	"strings"
	"testing"

	"loop.example/g00270/impl"
)

// someNamed reads a value, or "-" for none.
func someNamed(word string) some {
	if word == "-" {
		return some{}
	}
	return some{true, numberOf(word)}
}

// recsNamed reads records with ";" between: "begin 1", "set 1 5 - 7" (the transaction, the key, what it had, what it has), "back 1 5 7 -", "commit 1", "end 1".
func recsNamed(text string) []impl.Rec {
	names := []string{impl.LogBegin: "begin", impl.LogSet: "set", impl.LogBack: "back", impl.LogCommit: "commit", impl.LogEnd: "end"}
	var recs []impl.Rec
	for _, part := range strings.Split(text, ";") {
		words := strings.Fields(part)
		if len(words) == 0 {
			continue
		}
		r := plain(int64(slices.Index(names, words[0])), numberOf(words[1]))
		if len(words) > 2 {
			r = change(r.Kind, r.Txn, numberOf(words[2]), someNamed(words[3]), someNamed(words[4]))
		}
		recs = append(recs, r)
	}
	return recs
}

// rowsNamed reads rows: "1:10 5:50".
func rowsNamed(text string) []impl.Row {
	var rows []impl.Row
	for _, word := range strings.Fields(text) {
		key, value, _ := strings.Cut(word, ":")
		rows = append(rows, row(numberOf(key), numberOf(value)))
	}
	return rows
}

func isOut(number, low, high int64) bool {
	return number < low || number > high
}

// wantedRecFault, wantedRecsCode, wantedCommitted, wantedLosers, wantedRedo, wantedRecover and wantedCrash tell by the document alone what is answered.
func wantedRecFault(r impl.Rec) int64 {
	bare := impl.Rec{Kind: r.Kind, Txn: r.Txn}
	ofChange := r.Kind == impl.LogSet || r.Kind == impl.LogBack
	switch {
	case isOut(r.Kind, 1, 5):
		return impl.ErrForm
	case isOut(r.Txn, 1, 999):
		return impl.ErrRange
	case ofChange && (isOut(r.Key, 0, 99) || isOut(r.Old, 0, 9999) || isOut(r.New, 0, 9999)):
		return impl.ErrRange
	case !ofChange && r != bare:
		return impl.ErrForm
	case r.Old != 0 && !r.Had || r.New != 0 && !r.Has:
		return impl.ErrForm
	}
	return impl.OK
}

func wantedRecsCode(recs []impl.Rec) int64 {
	if len(recs) > 800 {
		return impl.ErrMany
	}
	for _, r := range recs {
		if code := wantedRecFault(r); code != impl.OK {
			return code
		}
	}
	return impl.OK
}

func wantedCommitted(recs []impl.Rec) impl.IntsResult {
	if code := wantedRecsCode(recs); code != impl.OK {
		return impl.IntsResult{Code: code}
	}
	var want impl.IntsResult
	for i, r := range recs {
		if r.Kind == impl.LogCommit && slices.Index(recs, r) == i {
			want.List = append(want.List, r.Txn)
		}
	}
	return want
}

func wantedLosers(recs []impl.Rec) impl.IntsResult {
	if code := wantedRecsCode(recs); code != impl.OK {
		return impl.IntsResult{Code: code}
	}
	var want impl.IntsResult
	for _, r := range recs {
		ends := slices.Contains(recs, plain(impl.LogCommit, r.Txn)) || slices.Contains(recs, plain(impl.LogEnd, r.Txn))
		if r.Kind == impl.LogBegin && !ends {
			want.List = append(want.List, r.Txn)
		}
	}
	slices.Sort(want.List)
	want.List = slices.Compact(want.List)
	return want
}

// wantedTakenBack has the places of the records that are taken back, the last one first: of each that lost all its LogSets, without as many at their end as it has LogBacks.
func wantedTakenBack(recs []impl.Rec, losers []int64) []int {
	var places []int
	for _, txn := range losers {
		var own []int
		backs := 0
		for at, r := range recs {
			if r.Txn == txn && r.Kind == impl.LogSet {
				own = append(own, at)
			}
			if r.Txn == txn && r.Kind == impl.LogBack {
				backs++
			}
		}
		places = append(places, own[:max(0, len(own)-backs)]...)
	}
	slices.SortFunc(places, func(a, b int) int { return cmp.Compare(b, a) })
	return places
}

func wantedBaseCode(base []impl.Row) int64 {
	if code := wantedMap(base).Code; code != impl.OK {
		return code
	}
	return codeIf(slices.ContainsFunc(base, func(r impl.Row) bool { return r.Ghost }), impl.ErrForm)
}

func wantedRedo(base []impl.Row, recs []impl.Rec) impl.RecoverResult {
	for _, code := range []int64{wantedRecsCode(recs), wantedBaseCode(base)} {
		if code != impl.OK {
			return impl.RecoverResult{Code: code}
		}
	}
	rows := slices.Clone(base)
	give := func(key int64, now some) {
		rows = slices.DeleteFunc(rows, isKeyOf(key))
		if now.has {
			rows = append(rows, row(key, now.value))
		}
	}
	for _, r := range recs {
		if r.Kind == impl.LogSet || r.Kind == impl.LogBack {
			give(r.Key, some{r.Has, r.New})
		}
	}
	losers := wantedLosers(recs).List
	for _, at := range wantedTakenBack(recs, losers) {
		give(recs[at].Key, some{recs[at].Had, recs[at].Old})
	}
	slices.SortFunc(rows, func(a, b impl.Row) int { return cmp.Compare(a.Key, b.Key) })
	return impl.RecoverResult{List: losers, Rows: rows}
}

func wantedRecover(base []impl.Row, data []byte) impl.RecoverResult {
	if len(data) > 4000 {
		return impl.RecoverResult{Code: impl.ErrMany}
	}
	recs, _ := wantedRecs(data)
	return wantedRedo(base, recs)
}

func wantedCrash(e impl.Engine, kept int64) impl.EngineResult {
	if code := wantedEngineFault(e); code != impl.OK {
		return impl.EngineResult{Code: code}
	}
	if isOut(kept, 0, int64(len(e.Wal.Loose))) {
		return impl.EngineResult{Code: impl.ErrRange}
	}
	left := slices.Concat(e.Wal.Sure, e.Wal.Loose[:kept])
	recs, _ := wantedRecs(left)
	want := wantedNew(wantedRedo(e.Base, recs).Rows)
	want.Answer = wantedCommitted(recs).List
	return want
}

// redo, recovered and crash hold what they are told against the document, and ask what is promised of it.
func redo(t *testing.T, base []impl.Row, recs []impl.Rec) impl.RecoverResult {
	t.Helper()
	got, want := impl.RedoRows(base, recs), wantedRedo(base, recs)
	if !same(got, want) {
		t.Fatalf("RedoRows of %v and %v: %v, want %v", base, recs, got, want)
	}
	if losers, want := impl.LosersOf(recs), wantedLosers(recs); !same(losers, want) {
		t.Fatalf("LosersOf %v: %v, want %v", recs, losers, want)
	}
	if committed, want := impl.CommittedOf(recs), wantedCommitted(recs); !same(committed, want) {
		t.Fatalf("CommittedOf %v: %v, want %v", recs, committed, want)
	}
	if got.Code == impl.OK {
		checkRecovered(t, got)
		if again := impl.RedoRows(got.Rows, recs); !same(again, got) {
			t.Fatalf("RedoRows once more, of what came out and %v: %v, want %v", recs, again, got)
		}
	}
	return got
}

func recovered(t *testing.T, base []impl.Row, data []byte) impl.RecoverResult {
	t.Helper()
	got, want := impl.RecoverRows(base, data), wantedRecover(base, data)
	if !same(got, want) {
		t.Fatalf("RecoverRows of %v and %d bytes: %v, want %v", base, len(data), got, want)
	}
	if again := impl.RecoverRows(base, data); !same(again, got) {
		t.Fatalf("RecoverRows of the same bytes once more: %v, want %v", again, got)
	}
	if got.Code == impl.OK {
		checkRecovered(t, got)
	}
	return got
}

// checkRecovered is of promise 14: rows in their order, no ghosts, and recovered once more they are the same.
func checkRecovered(t *testing.T, got impl.RecoverResult) {
	t.Helper()
	if code := wantedBaseCode(got.Rows); code != impl.OK || len(got.Rows) > 100 {
		t.Fatalf("what is recovered has the code %d: %v", code, got.Rows)
	}
	if again := impl.RecoverRows(got.Rows, nil); !same(again, impl.RecoverResult{Rows: got.Rows}) {
		t.Fatalf("recovered once more: %v, want %v", again, got.Rows)
	}
}

func crash(t *testing.T, e impl.Engine, kept int64) impl.EngineResult {
	t.Helper()
	got, want := impl.CrashEngine(e, kept), wantedCrash(e, kept)
	if !same(got, want) {
		t.Fatalf("CrashEngine at %d: %v, want %v; of %v", kept, got, want, e)
	}
	if got.Code != impl.OK {
		return got
	}
	now := got.Engine
	if code := impl.EngineFault(now); code != impl.OK || len(impl.GhostsOf(now).List) > 0 {
		t.Fatalf("CrashEngine at %d: the engine has the fault %d: %v", kept, code, now)
	}
	if !same(now, impl.Engine{Base: now.Base, Leaves: now.Leaves}) || !same(impl.MapOf(now).Rows, now.Base) {
		t.Fatalf("CrashEngine at %d: the engine is not a new one: %v", kept, now)
	}
	if again := impl.CrashEngine(now, 0); !same(again, impl.EngineResult{Engine: now}) {
		t.Fatalf("CrashEngine once more: %v, want %v", again, now)
	}
	return got
}
