package tests

import (
	"bytes"
	"math"
	"reflect"
	"slices"
	"testing"

	"loop.example/g00270/impl"
)

// oddWals has logs with and without faults, each list with room behind it.
func oddWals() []impl.Wal {
	var wals []impl.Wal
	for _, w := range someWals() {
		wals = append(wals, impl.Wal{Sure: roomyBytes(w.Sure), Loose: roomyBytes(w.Loose)})
	}
	for _, data := range oddBytes() {
		wals = append(wals, impl.Wal{Sure: roomyBytes(data)}, impl.Wal{Loose: roomyBytes(data)})
	}
	return wals
}

// walCalls has all that is asked of a log.
func walCalls(w impl.Wal) []impl.WalResult {
	answers := []impl.WalResult{{Code: impl.WalFault(w)}, impl.ForceWal(w)}
	for _, r := range []impl.Rec{{}, plain(impl.LogEnd, 1), change(impl.LogSet, 1, 1, some{}, some{true, 1})} {
		answers = append(answers, impl.AppendWal(w, r))
	}
	for _, kept := range []int64{math.MinInt64, 0, 1, int64(len(w.Loose)), math.MaxInt64} {
		answers = append(answers, impl.CrashWal(w, kept))
	}
	return answers
}

func wholeOf(data []byte) []byte {
	return data[:cap(data)]
}

func sameWal(a, b impl.WalResult) bool {
	same := a.Code == b.Code && a.Count == b.Count
	return same && bytes.Equal(a.Wal.Sure, b.Wal.Sure) && bytes.Equal(a.Wal.Loose, b.Wal.Loose)
}

func TestWalsStayAndAnswersRepeat(t *testing.T) {
	for _, w := range oddWals() {
		sure, loose := slices.Clone(wholeOf(w.Sure)), slices.Clone(wholeOf(w.Loose))
		first, second := walCalls(w), walCalls(w)
		if !bytes.Equal(wholeOf(w.Sure), sure) || !bytes.Equal(wholeOf(w.Loose), loose) {
			t.Fatalf("a log of %d and %d bytes is changed", len(w.Sure), len(w.Loose))
		}
		for i, got := range first {
			if !sameWal(got, second[i]) {
				t.Fatalf("another answer at the second call: %v, %v", got, second[i])
			}
			if got.Code != impl.OK && !reflect.DeepEqual(got, impl.WalResult{Code: got.Code}) {
				t.Fatalf("something beside the code: %v", got)
			}
		}
	}
}

func TestRecBytesStayAndAnswersRepeat(t *testing.T) {
	lists := oddBytes()
	for _, recs := range someRuns() {
		lists = append(lists, recsData(recs...))
	}
	for _, data := range lists {
		given := roomyBytes(data)
		before := slices.Clone(wholeOf(given))
		first, second := impl.ReadRecs(given), impl.ReadRecs(given)
		if !bytes.Equal(wholeOf(given), before) {
			t.Fatalf("bytes are changed, %d of them", len(data))
		}
		if first.Code != second.Code || first.Used != second.Used || !slices.Equal(first.Recs, second.Recs) {
			t.Fatalf("another answer at the second call: %v, %v", first, second)
		}
	}
}

func TestOddRecsAreAnswered(t *testing.T) {
	ends := []int64{math.MinInt64, -1, 0, 1, 2, 5, 6, 99, 100, 999, 1000, 9999, 10000, 65536, math.MaxInt64}
	for _, kind := range []int64{math.MinInt64, -1, 0, 1, 2, 3, 4, 5, 6, 258, math.MaxInt64} {
		for _, txn := range ends {
			for _, number := range ends {
				r := impl.Rec{Kind: kind, Txn: txn, Key: number % 100, Had: true, Old: number, Has: true, New: number}
				fault, packed := impl.RecFault(r), impl.PackRec(r)
				if packed.Code != fault || (fault == impl.OK) == (len(packed.Bytes) == 0) {
					t.Fatalf("PackRec(%v): %v, the fault is %d", r, packed, fault)
				}
			}
		}
	}
}

func TestPackedRecIsNewMemory(t *testing.T) {
	r := change(impl.LogSet, 1, 1, some{}, some{true, 1})
	first, second := impl.PackRec(r), impl.PackRec(r)
	clear(wholeOf(first.Bytes))
	if !bytes.Equal(second.Bytes, recData(r)) {
		t.Errorf("an answer turned with another one: %v", second.Bytes)
	}
}

func TestReadRecsAreNewMemory(t *testing.T) {
	recs := someRuns()[1]
	data := recsData(recs...)
	kept := slices.Clone(data)
	first, second := impl.ReadRecs(data), impl.ReadRecs(data)
	clear(first.Recs[:cap(first.Recs)])
	if !bytes.Equal(data, kept) {
		t.Errorf("bytes turned with the records read from them: %v", data)
	}
	clear(data)
	if !slices.Equal(second.Recs, recs) {
		t.Errorf("an answer turned with another one or with its bytes: %v", second.Recs)
	}
}

// TestWalsAreNewMemory turns every byte within reach of an answer, then every one of the log that others came of.
func TestWalsAreNewMemory(t *testing.T) {
	for _, w := range oddWals() {
		sure, loose := slices.Clone(wholeOf(w.Sure)), slices.Clone(wholeOf(w.Loose))
		answers, others := walCalls(w), walCalls(w)
		var want []impl.WalResult
		for i, got := range answers {
			kept := impl.Wal{Sure: slices.Clone(got.Wal.Sure), Loose: slices.Clone(got.Wal.Loose)}
			want = append(want, impl.WalResult{Code: got.Code, Count: got.Count, Wal: kept})
			clearAll(got.Wal.Sure)
			if !bytes.Equal(got.Wal.Loose, kept.Loose) {
				t.Fatalf("the two lists of answer %d share memory", i)
			}
			clearAll(got.Wal.Loose)
			if !bytes.Equal(wholeOf(w.Sure), sure) || !bytes.Equal(wholeOf(w.Loose), loose) {
				t.Fatalf("a log of %d and %d bytes turned with answer %d", len(w.Sure), len(w.Loose), i)
			}
		}
		clearAll(w.Sure)
		clearAll(w.Loose)
		for i, got := range others {
			if !sameWal(got, want[i]) {
				t.Fatalf("an answer turned with another one or with its log: %v, want %v", got, want[i])
			}
		}
	}
}

func clearAll(data []byte) {
	clear(wholeOf(data))
}
