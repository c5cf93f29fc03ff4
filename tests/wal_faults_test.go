package tests

import (
	"bytes"
	"math"
	"reflect"
	"slices"
	"testing"

	"loop.example/g00270/impl"
)

func TestRecFaultOfKindAndTxn(t *testing.T) {
	for _, c := range []struct {
		rec  impl.Rec
		want int64
	}{
		{impl.Rec{}, impl.ErrForm},
		{plain(0, 1), impl.ErrForm},
		{plain(6, 1), impl.ErrForm},
		{plain(-1, 1), impl.ErrForm},
		{plain(257, 1), impl.ErrForm},
		{plain(math.MinInt64, 1), impl.ErrForm},
		{plain(math.MaxInt64, 1), impl.ErrForm},
		{plain(6, 0), impl.ErrForm},
		{change(6, 0, 100, some{}, some{}), impl.ErrForm},
	} {
		checkRecFault(t, c.rec, c.want)
	}
	for kind := int64(impl.LogBegin); kind <= impl.LogEnd; kind++ {
		checkRecFault(t, plain(kind, 1), impl.OK)
		checkRecFault(t, plain(kind, impl.MaxTxn), impl.OK)
		for _, txn := range []int64{math.MinInt64, -1, 0, impl.MaxTxn + 1, 65537, math.MaxInt64} {
			checkRecFault(t, plain(kind, txn), impl.ErrRange)
			checkRecFault(t, impl.Rec{Kind: kind, Txn: txn, Old: 1}, impl.ErrRange)
			checkRecFault(t, impl.Rec{Kind: kind, Txn: txn, New: 1}, impl.ErrRange)
		}
	}
}

func TestRecFaultOfChanges(t *testing.T) {
	none := some{}
	for _, kind := range []int64{impl.LogSet, impl.LogBack} {
		for _, c := range []struct {
			key      int64
			old, now some
			want     int64
		}{
			{0, none, none, impl.OK},
			{99, some{true, 0}, some{true, 0}, impl.OK},
			{99, some{true, 9999}, some{true, 9999}, impl.OK},
			{99, some{true, 9999}, none, impl.OK},
			{99, none, some{true, 9999}, impl.OK},
			{-1, none, none, impl.ErrRange},
			{100, none, none, impl.ErrRange},
			{256, none, none, impl.ErrRange},
			{math.MinInt64, none, none, impl.ErrRange},
			{math.MaxInt64, none, none, impl.ErrRange},
			{0, some{true, -1}, none, impl.ErrRange},
			{0, some{true, 10000}, none, impl.ErrRange},
			{0, some{true, 65536}, none, impl.ErrRange},
			{0, some{true, math.MinInt64}, none, impl.ErrRange},
			{0, some{true, math.MaxInt64}, none, impl.ErrRange},
			{0, none, some{true, -1}, impl.ErrRange},
			{0, none, some{true, 10000}, impl.ErrRange},
			{0, none, some{true, 65536}, impl.ErrRange},
			{0, none, some{true, math.MinInt64}, impl.ErrRange},
			{0, none, some{true, math.MaxInt64}, impl.ErrRange},
			{0, some{false, -1}, none, impl.ErrRange},
			{0, none, some{false, 10000}, impl.ErrRange},
			{0, some{false, 1}, some{true, 10000}, impl.ErrRange},
			{0, some{true, -1}, some{false, 1}, impl.ErrRange},
			{100, some{false, 1}, some{false, 1}, impl.ErrRange},
			{0, some{false, 1}, none, impl.ErrForm},
			{0, some{false, 9999}, some{true, 1}, impl.ErrForm},
			{0, none, some{false, 1}, impl.ErrForm},
			{0, some{true, 1}, some{false, 9999}, impl.ErrForm},
		} {
			checkRecFault(t, change(kind, 1, c.key, c.old, c.now), c.want)
		}
	}
}

func TestRecFaultOfOtherKinds(t *testing.T) {
	for _, kind := range []int64{impl.LogBegin, impl.LogCommit, impl.LogEnd} {
		for _, number := range []int64{1, -1, 100, 10000, math.MinInt64, math.MaxInt64} {
			checkRecFault(t, impl.Rec{Kind: kind, Txn: 1, Key: number}, impl.ErrForm)
			checkRecFault(t, impl.Rec{Kind: kind, Txn: 1, Old: number}, impl.ErrForm)
			checkRecFault(t, impl.Rec{Kind: kind, Txn: 1, New: number}, impl.ErrForm)
		}
		checkRecFault(t, impl.Rec{Kind: kind, Txn: 1, Had: true}, impl.ErrForm)
		checkRecFault(t, impl.Rec{Kind: kind, Txn: 1, Has: true}, impl.ErrForm)
		checkRecFault(t, impl.Rec{Kind: kind, Txn: 0, Key: 1}, impl.ErrRange)
		checkRecFault(t, impl.Rec{Kind: kind, Txn: 1000, Had: true}, impl.ErrRange)
	}
}

func checkRecFault(t *testing.T, r impl.Rec, want int64) {
	t.Helper()
	if got := impl.RecFault(r); got != want {
		t.Errorf("RecFault(%v): %d, want %d", r, got, want)
	}
	packed := impl.PackRec(r)
	if packed.Code != want || want != impl.OK && len(packed.Bytes) != 0 {
		t.Errorf("PackRec(%v): %v, want the code %d", r, packed, want)
	}
	added := impl.AppendWal(impl.Wal{}, r)
	if added.Code != want || want != impl.OK && !reflect.DeepEqual(added, impl.WalResult{Code: want}) {
		t.Errorf("AppendWal of %v: %v, want the code %d", r, added, want)
	}
}

func TestWalFault(t *testing.T) {
	short, long := recData(plain(impl.LogEnd, 7)), recData(change(impl.LogSet, 7, 7, some{}, some{true, 7}))
	full := bytes.Repeat(short, impl.MaxLog/5)
	half := full[:impl.MaxLog/2]
	for _, c := range []struct {
		name        string
		sure, loose []byte
		want        int64
	}{
		{"as many bytes as there may be, all sure", full, nil, impl.OK},
		{"as many bytes as there may be, all loose", nil, full, impl.OK},
		{"as many bytes as there may be", half, half, impl.OK},
		{"one too many sure", append(slices.Clone(full), 1), nil, impl.ErrMany},
		{"one too many loose", nil, append(slices.Clone(full), 1), impl.ErrMany},
		{"one too many together", full, []byte{1}, impl.ErrMany},
		{"whole records that are too many together", half, append(slices.Clone(half), short...), impl.ErrMany},
		{"too many, ahead of what cannot be read", make([]byte, 2000), make([]byte, 2001), impl.ErrMany},
		{"a byte alone that is sure", []byte{1}, nil, impl.ErrText},
		{"a byte alone that is loose", nil, []byte{1}, impl.ErrText},
		{"a torn record that is sure", long[:10], nil, impl.ErrText},
		{"a torn record that is loose", short, long[:10], impl.ErrText},
		{"a torn record behind a whole one", slices.Concat(short, short[:4]), nil, impl.ErrText},
		{"a record that is half sure and half loose", long[:5], long[5:], impl.ErrText},
		{"a record that begins sure behind a whole one", slices.Concat(short, long[:1]), long[1:], impl.ErrText},
		{"a nought behind the last one", short, append(slices.Clone(long), 0), impl.ErrText},
		{"a sum that is wrong", []byte{1, 0, 1, 84, 145}, short, impl.ErrText},
		{"as many noughts as there may be", make([]byte, 2000), make([]byte, 2000), impl.ErrText},
	} {
		w := impl.Wal{Sure: c.sure, Loose: c.loose}
		if got := impl.WalFault(w); got != c.want {
			t.Errorf("WalFault, %s: %d, want %d", c.name, got, c.want)
		}
		if c.want != impl.OK {
			checkFaultIsFirst(t, c.name, w, c.want)
		}
	}
}

// checkFaultIsFirst asks the others with arguments that have faults of their own, which come behind the log's.
func checkFaultIsFirst(t *testing.T, name string, w impl.Wal, want int64) {
	t.Helper()
	zero := impl.WalResult{Code: want}
	for _, r := range []impl.Rec{plain(impl.LogBegin, 1), plain(impl.LogBegin, 0), plain(0, 1)} {
		if got := impl.AppendWal(w, r); !reflect.DeepEqual(got, zero) {
			t.Errorf("AppendWal of %v, %s: %v, want %v", r, name, got, zero)
		}
	}
	if got := impl.ForceWal(w); !reflect.DeepEqual(got, zero) {
		t.Errorf("ForceWal, %s: %v, want %v", name, got, zero)
	}
	for _, kept := range []int64{math.MinInt64, -1, 0, int64(len(w.Loose)), math.MaxInt64} {
		if got := impl.CrashWal(w, kept); !reflect.DeepEqual(got, zero) {
			t.Errorf("CrashWal at %d, %s: %v, want %v", kept, name, got, zero)
		}
	}
}

func TestAppendWalAsksTheRecordAheadOfTheRoom(t *testing.T) {
	full := impl.Wal{Sure: bytes.Repeat(recData(plain(impl.LogEnd, 7)), impl.MaxLog/5)}
	for _, c := range []struct {
		rec  impl.Rec
		want int64
	}{
		{plain(0, 1), impl.ErrForm},
		{plain(impl.LogBegin, 0), impl.ErrRange},
		{impl.Rec{Kind: impl.LogBegin, Txn: 1, Key: 1}, impl.ErrForm},
		{plain(impl.LogBegin, 1), impl.ErrMany},
	} {
		if got := impl.AppendWal(full, c.rec); !reflect.DeepEqual(got, impl.WalResult{Code: c.want}) {
			t.Errorf("AppendWal of %v to a full log: %v, want the code %d", c.rec, got, c.want)
		}
	}
}

func TestCrashWalOutOfItsRange(t *testing.T) {
	for _, w := range someWals() {
		length := int64(len(w.Loose))
		for _, kept := range []int64{math.MinInt64, -1, length + 1, length + 256, math.MaxInt64} {
			if got := impl.CrashWal(w, kept); !reflect.DeepEqual(got, impl.WalResult{Code: impl.ErrRange}) {
				t.Fatalf("CrashWal of %v at %d: %v", w, kept, got)
			}
		}
	}
}
