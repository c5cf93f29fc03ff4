package tests

import (
	"bytes"
	"slices"
	"testing"

	"loop.example/g00270/impl"
)

// someWals has each of someRuns as a log, cut into what is sure and what is loose behind each of its records.
func someWals() []impl.Wal {
	var wals []impl.Wal
	for _, recs := range someRuns() {
		for sure := range len(recs) + 1 {
			wals = append(wals, impl.Wal{Sure: recsData(recs[:sure]...), Loose: recsData(recs[sure:]...)})
		}
	}
	return wals
}

func countOf(data ...[]byte) int64 {
	recs, _ := wantedRecs(slices.Concat(data...))
	return int64(len(recs))
}

// checkWal holds an answer of OK against what it should tell, byte by byte.
func checkWal(t *testing.T, name string, got impl.WalResult, count int64, sure, loose []byte) {
	t.Helper()
	if got.Code != impl.OK || got.Count != count || !bytes.Equal(got.Wal.Sure, sure) || !bytes.Equal(got.Wal.Loose, loose) {
		t.Fatalf("%s: %v, want %d records, %v sure, %v loose", name, got, count, sure, loose)
	}
	if code := impl.WalFault(got.Wal); code != impl.OK {
		t.Fatalf("%s: the log %v has the fault %d", name, got.Wal, code)
	}
}

func TestAppendWal(t *testing.T) {
	for _, w := range someWals() {
		for _, r := range someRuns()[1] {
			loose := slices.Concat(w.Loose, recData(r))
			checkWal(t, "AppendWal", impl.AppendWal(w, r), countOf(w.Sure, w.Loose)+1, w.Sure, loose)
		}
	}
}

func TestForceWal(t *testing.T) {
	for _, w := range someWals() {
		all := slices.Concat(w.Sure, w.Loose)
		got := impl.ForceWal(w)
		checkWal(t, "ForceWal", got, countOf(all), all, nil)
		checkWal(t, "ForceWal once more", impl.ForceWal(got.Wal), countOf(all), all, nil)
	}
}

func TestCrashWalAtEveryByte(t *testing.T) {
	for _, w := range someWals() {
		for kept := range len(w.Loose) + 1 {
			_, used := wantedRecs(w.Loose[:kept])
			left := slices.Concat(w.Sure, w.Loose[:used])
			got := impl.CrashWal(w, int64(kept))
			checkWal(t, "CrashWal", got, countOf(left), left, nil)
			checkWal(t, "CrashWal once more", impl.CrashWal(got.Wal, 0), countOf(left), left, nil)
		}
	}
}

// TestWrittenAndCrashed follows records from their writing to behind a crash: those that were forced are there, of the others the first ones.
func TestWrittenAndCrashed(t *testing.T) {
	for _, recs := range someRuns() {
		for forced := range len(recs) + 1 {
			var w impl.Wal
			for i, r := range recs {
				if i == forced {
					w = impl.ForceWal(w).Wal
				}
				w = impl.AppendWal(w, r).Wal
			}
			if forced == len(recs) {
				w = impl.ForceWal(w).Wal
			}
			checkCrashes(t, w, recs, forced)
		}
	}
}

func checkCrashes(t *testing.T, w impl.Wal, recs []impl.Rec, forced int) {
	t.Helper()
	last := forced
	for kept := range len(w.Loose) + 1 {
		read := impl.ReadRecs(impl.CrashWal(w, int64(kept)).Wal.Sure).Recs
		if len(read) < last || len(read) > last+1 || !slices.Equal(read, recs[:len(read)]) {
			t.Fatalf("%v, %d of them forced, %d bytes kept: %v", recs, forced, kept, read)
		}
		last = len(read)
	}
	if last != len(recs) {
		t.Fatalf("%v, all bytes kept: %d of them", recs, last)
	}
}

func TestEmptyWal(t *testing.T) {
	begin := plain(impl.LogBegin, 1)
	for _, w := range []impl.Wal{{}, {Sure: []byte{}, Loose: []byte{}}} {
		if code := impl.WalFault(w); code != impl.OK {
			t.Errorf("WalFault of an empty log: %d", code)
		}
		checkWal(t, "ForceWal of an empty log", impl.ForceWal(w), 0, nil, nil)
		checkWal(t, "CrashWal of an empty log", impl.CrashWal(w, 0), 0, nil, nil)
		checkWal(t, "AppendWal to an empty log", impl.AppendWal(w, begin), 1, nil, recData(begin))
	}
}

func TestWalUpToItsEnd(t *testing.T) {
	short, long := plain(impl.LogEnd, 7), change(impl.LogBack, 7, 7, some{true, 7}, some{})
	for _, c := range []struct {
		sure, loose int
		rec         impl.Rec
		want        int64
	}{
		{799, 0, short, impl.OK},
		{0, 799, short, impl.OK},
		{400, 399, short, impl.OK},
		{800, 0, short, impl.ErrMany},
		{0, 800, short, impl.ErrMany},
		{400, 400, short, impl.ErrMany},
		{797, 0, long, impl.OK},
		{0, 797, long, impl.OK},
		{798, 0, long, impl.ErrMany},
		{0, 798, long, impl.ErrMany},
		{399, 399, long, impl.ErrMany},
	} {
		w := impl.Wal{Sure: bytes.Repeat(recData(short), c.sure), Loose: bytes.Repeat(recData(short), c.loose)}
		if code := impl.WalFault(w); code != impl.OK {
			t.Fatalf("%d and %d records: the fault %d", c.sure, c.loose, code)
		}
		got := impl.AppendWal(w, c.rec)
		if got.Code != c.want {
			t.Fatalf("AppendWal to %d and %d records: %d, want %d", c.sure, c.loose, got.Code, c.want)
		}
		if c.want == impl.OK {
			count := int64(c.sure + c.loose + 1)
			checkWal(t, "AppendWal up to the end", got, count, w.Sure, slices.Concat(w.Loose, recData(c.rec)))
		}
		all := slices.Concat(w.Sure, w.Loose)
		checkWal(t, "ForceWal of a full log", impl.ForceWal(w), int64(c.sure+c.loose), all, nil)
		checkWal(t, "CrashWal of a full log", impl.CrashWal(w, int64(len(w.Loose))), int64(c.sure+c.loose), all, nil)
	}
}
