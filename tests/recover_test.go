package tests

import (
	"slices"
	"testing"

	"loop.example/g00270/impl"
)

// committedRows asks acts alone, not the log: the rows that there are when just those of commits did something, one behind the other.
func committedRows(base []impl.Row, acts []impl.Act, commits []int64) []impl.Row {
	values := map[int64]int64{}
	for _, r := range base {
		values[r.Key] = r.Value
	}
	for _, txn := range commits {
		for _, a := range acts {
			if a.Txn == txn && a.Op.Kind == impl.OpPut {
				values[a.Op.Key] = a.Op.Value
			}
			if a.Txn == txn && a.Op.Kind == impl.OpDelete {
				delete(values, a.Op.Key)
			}
		}
	}
	var rows []impl.Row
	for key := range int64(100) {
		if value, ok := values[key]; ok {
			rows = append(rows, row(key, value))
		}
	}
	return rows
}

// checkCrashedAnywhere is of promise 14: whatever is kept of what is loose, just what was committed is there.
func checkCrashedAnywhere(t *testing.T, e impl.Engine) {
	t.Helper()
	want := committedRows(e.Base, e.Acts, e.Commits)
	for kept := range int64(len(e.Wal.Loose) + 1) {
		got := impl.CrashEngine(e, kept)
		if got.Code != impl.OK || !same(impl.MapOf(got.Engine).Rows, want) || !slices.Equal(got.Answer, e.Commits) {
			t.Fatalf("CrashEngine at %d: %v, want %v and %v; of %v", kept, got, want, e.Commits, e)
		}
	}
	for _, kept := range []int64{0, int64(len(e.Wal.Loose) / 2), int64(len(e.Wal.Loose))} {
		crash(t, e, kept)
	}
}

// checkCutAnywhere is of promise 14 too: the whole log is cut at each byte, and just what was committed by then is there. It counts in came what the cuts met.
func checkCutAnywhere(t *testing.T, e impl.Engine, came map[string]int) {
	t.Helper()
	log := slices.Concat(e.Wal.Sure, e.Wal.Loose)
	last := -1
	for cut := range len(log) + 1 {
		recs, used := wantedRecs(log[:cut])
		commits := wantedCommitted(recs).List
		if !slices.Equal(commits, e.Commits[:len(commits)]) {
			t.Fatalf("the log has the commits %v, the engine %v", commits, e.Commits)
		}
		got := impl.RecoverRows(e.Base, log[:cut])
		if got.Code != impl.OK || !same(got.Rows, committedRows(e.Base, e.Acts, commits)) {
			t.Fatalf("RecoverRows of the first %d bytes, the records %v: %v, want what %v committed of %v", cut, recs, got, commits, e.Acts)
		}
		if used != last {
			redo(t, e.Base, recs)
			came[metAtCut(recs)]++
			last = used
		}
	}
}

// metAtCut tells of a log that is cut how far the one that lost and took most back has come with it.
func metAtCut(recs []impl.Rec) string {
	met := "nobody lost"
	for _, txn := range wantedLosers(recs).List {
		sets, backs := 0, 0
		for _, r := range recs {
			if r.Txn == txn && r.Kind == impl.LogSet {
				sets++
			}
			if r.Txn == txn && r.Kind == impl.LogBack {
				backs++
			}
		}
		switch {
		case backs > 0 && backs < sets:
			return "one in the midst of being taken back"
		case backs > 0:
			return "one taken back, and not at its end"
		case sets > 0:
			met = "one that changed something lost"
		}
	}
	return met
}

// TestCrashedWalks has many do something by turns in new stores, users and the system; a crash is tried now and then, and the store goes on from some of them.
func TestCrashedWalks(t *testing.T) {
	came := map[string]int{}
	for seed := range uint32(60) {
		next := numbersFrom(seed + 7000)
		keys := []int64{2, 3, 4, 6, 20}[next(5)]
		w := &walk{t: t, next: next, e: impl.NewEngine(manyRows(next(8))).Engine, came: came}
		for range 70 {
			w.step(keys)
			if next(4) == 0 {
				checkCrashedAnywhere(t, w.e)
				came["crash"]++
			}
			if next(25) == 0 {
				checkCutAnywhere(t, w.e, came)
				w.e, w.told = crash(t, w.e, next(int64(len(w.e.Wal.Loose)+1))).Engine, nil
				came["gone on from a crash"]++
			}
		}
		checkCutAnywhere(t, w.e, came)
	}
	checkCame(t, came, "ok", "waits", "victim", "victims", "crash", "gone on from a crash", "nobody lost", "one that changed something lost", "one in the midst of being taken back", "one taken back, and not at its end")
}

// someWriting changes something for the most part, and seldom comes to an end.
func someWriting(next func(int64) int64, keys int64) impl.Op {
	switch next(20) {
	case 0, 1:
		return opNamed("commit")
	case 2, 3:
		return opNamed("abort")
	case 4, 5:
		return getOf(next(keys))
	case 6, 7, 8, 9:
		return impl.Op{Kind: impl.OpDelete, Key: next(keys)}
	}
	return putOf(next(keys), next(4))
}

// TestCrashedWriters has stores in which almost all is written, so that there is much to be taken back.
func TestCrashedWriters(t *testing.T) {
	came := map[string]int{}
	for seed := range uint32(80) {
		next := numbersFrom(seed + 52)
		keys := []int64{2, 5, 9, 40}[next(4)]
		e := begun(impl.NewEngine(manyRows(next(10))).Engine, "uuuu")
		for range 90 {
			txn := next(int64(len(e.Txns))) + 1
			got := impl.ResumeTxn(e, txn)
			if !impl.CanResume(e, txn) {
				got = impl.DoOp(e, txn, someWriting(next, keys))
			}
			if got.Code == impl.OK || got.Code == impl.ErrVictim {
				e = got.Engine
				came["victims"] += len(got.Victims)
			}
			if more := impl.BeginTxn(e, false); next(10) == 0 && more.Code == impl.OK {
				e = more.Engine
			}
		}
		checkCrashedAnywhere(t, e)
		checkCutAnywhere(t, e, came)
	}
	checkCame(t, came, "victims", "nobody lost", "one that changed something lost", "one in the midst of being taken back", "one taken back, and not at its end")
}

// TestCrashBehindCrash has a store crash again and again, each time with something committed and something lost.
func TestCrashBehindCrash(t *testing.T) {
	e := impl.NewEngine(rowsNamed("1:10")).Engine
	want := "1:10"
	for _, c := range []struct{ lines, rows string }{
		{"1 put 2 20; 1 commit; 2 put 1 11; 2 put 3 30", "1:10 2:20"},
		{"1 delete 1; 1 commit; 2 delete 2; 2 abort; 3 put 1 12", "2:20"},
		{"1 put 2 21; 2 put 5 50; 2 commit; 1 put 6 60; 1 abort", "2:20 5:50"},
		{"1 put 2 21; 2 get 2; 1 put 5 51; 1 commit", "2:21 5:51"},
		{"1 delete 2; 2 delete 5; 1 get 5; 2 get 2", "2:21 5:51"},
		{"", "2:21 5:51"},
		{"1 delete 2; 1 delete 5; 1 commit", ""},
		{"1 put 99 9999; 1 commit; 2 put 0 1", "99:9999"},
	} {
		ahead := play(t, begun(e, "uuu"), c.lines).Engine
		checkCrashedAnywhere(t, ahead)
		e = crash(t, ahead, int64(len(ahead.Wal.Loose))).Engine
		if !same(impl.MapOf(e).Rows, rowsNamed(c.rows)) {
			t.Fatalf("behind %q, of %q: %v, want %q", c.lines, want, impl.MapOf(e), c.rows)
		}
		want = c.rows
	}
}

// everyRec has a few records, of which every short list is made.
func everyRec() []impl.Rec {
	return recsNamed("begin 1; begin 2; set 1 5 50 1; set 2 5 1 -; set 1 6 - 2; back 1 5 2 3; back 2 6 - 4; commit 1; end 1; commit 2")
}

// TestEveryShortListOfRecords holds every list of up to five records against a second telling of the document.
func TestEveryShortListOfRecords(t *testing.T) {
	base := rowsNamed("5:50 7:70")
	lists := [][]impl.Rec{nil}
	for range 5 {
		var longer [][]impl.Rec
		for _, recs := range lists {
			for _, r := range everyRec() {
				longer = append(longer, append(slices.Clone(recs), r))
			}
		}
		for _, recs := range longer {
			if got, want := impl.RedoRows(base, recs), wantedRedo(base, recs); !same(got, want) {
				t.Fatalf("RedoRows of %v: %v, want %v", recs, got, want)
			}
		}
		lists = longer
	}
}

// someRec has few transactions, keys and values, so that they meet one another.
func someRec(next func(int64) int64, txns, keys int64) impl.Rec {
	txn := next(txns) + 1
	kinds := []int64{impl.LogBegin, impl.LogBegin, impl.LogSet, impl.LogSet, impl.LogSet, impl.LogBack, impl.LogBack, impl.LogBack, impl.LogCommit, impl.LogEnd}
	kind := kinds[next(int64(len(kinds)))]
	if kind != impl.LogSet && kind != impl.LogBack {
		return plain(kind, txn)
	}
	value := func() some { return []some{{}, {true, next(4)}}[next(2)] }
	return change(kind, txn, next(keys), value(), value())
}

// TestMadeUpRecords has longer lists as they come, whole, as bytes that are cut or turned, and with a number that is often a fault.
func TestMadeUpRecords(t *testing.T) {
	next := numbersFrom(4711)
	came, codes := map[string]int{}, map[int64]int{}
	bases := someBases()
	for range 4000 {
		txns, keys := []int64{1, 2, 4, 9, 40, 999}[next(6)], []int64{1, 2, 5, 100}[next(4)]
		base := anyOf(next, bases)
		var recs []impl.Rec
		for range next(40) + 1 {
			recs = append(recs, someRec(next, txns, keys))
		}
		redo(t, base, recs)
		came[metAtCut(recs)]++
		data := recsData(recs...)
		recovered(t, base, data[:next(int64(len(data)+1))])
		data[next(int64(len(data)))] ^= byte(next(255) + 1)
		recovered(t, base, data)
		odd := &recs[next(int64(len(recs)))]
		*[]*int64{&odd.Kind, &odd.Txn, &odd.Key, &odd.Old, &odd.New}[next(5)] = anyOf(next, []int64{-1, 0, 6, 100, 1000, 10000})
		codes[redo(t, base, recs).Code]++
	}
	checkCame(t, came, "nobody lost", "one that changed something lost", "one in the midst of being taken back", "one taken back, and not at its end")
	if codes[impl.OK] < 100 || codes[impl.ErrForm] < 100 || codes[impl.ErrRange] < 100 {
		t.Errorf("the codes that came: %v", codes)
	}
}

// TestMadeUpEnginesCrashed has engines that no call would lead to, with logs as they come.
func TestMadeUpEnginesCrashed(t *testing.T) {
	next := numbersFrom(99)
	leaves, bases := append(someLeaves(), keyStore().Leaves, fullLeaves()), someBases()
	committed := 0
	for range 600 {
		e := madeUp(next, leaves)
		e.Base, e.Wal = anyOf(next, bases), impl.Wal{}
		for range next(12) {
			e.Wal.Sure = append(e.Wal.Sure, recData(someRec(next, 4, 5))...)
		}
		for range next(12) {
			e.Wal.Loose = append(e.Wal.Loose, recData(someRec(next, 4, 5))...)
		}
		for range 6 {
			got := crash(t, e, next(int64(len(e.Wal.Loose)+1)))
			committed += len(got.Answer)
		}
		crash(t, e, int64(len(e.Wal.Loose)))
	}
	if committed < 500 {
		t.Errorf("too few committed: %d", committed)
	}
}
