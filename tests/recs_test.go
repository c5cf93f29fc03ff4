package tests

import (
	"bytes"
	"slices"
	"testing"

	"loop.example/g00270/impl"
)

func plain(kind, txn int64) impl.Rec {
	return impl.Rec{Kind: kind, Txn: txn}
}

// some is a value that a key has, or none.
type some struct {
	has   bool
	value int64
}

func change(kind, txn, key int64, old, now some) impl.Rec {
	return impl.Rec{Kind: kind, Txn: txn, Key: key, Had: old.has, Old: old.value, Has: now.has, New: now.value}
}

// recData is the document's form of a record without faults, told anew.
func recData(r impl.Rec) []byte {
	data := []byte{byte(r.Kind), byte(r.Txn / 256), byte(r.Txn % 256)}
	if r.Kind == 2 || r.Kind == 3 {
		together := byte(0)
		if r.Had {
			together++
		}
		if r.Has {
			together += 2
		}
		data = append(data, byte(r.Key), together, byte(r.Old/256), byte(r.Old%256), byte(r.New/256), byte(r.New%256))
	}
	return summed(data...)
}

func recsData(recs ...impl.Rec) []byte {
	var data []byte
	for _, r := range recs {
		data = append(data, recData(r)...)
	}
	return data
}

// someRecs has records of every kind, with numbers at and about the ends of their bounds.
func someRecs() []impl.Rec {
	values := []some{{false, 0}, {true, 0}, {true, 1}, {true, 255}, {true, 256}, {true, 9998}, {true, 9999}}
	var recs []impl.Rec
	for _, txn := range []int64{1, 2, 255, 256, 998, 999} {
		for _, kind := range []int64{impl.LogBegin, impl.LogCommit, impl.LogEnd} {
			recs = append(recs, plain(kind, txn))
		}
		for _, kind := range []int64{impl.LogSet, impl.LogBack} {
			for _, key := range []int64{0, 1, 50, 98, 99} {
				for _, old := range values {
					for _, now := range values {
						recs = append(recs, change(kind, txn, key, old, now))
					}
				}
			}
		}
	}
	return recs
}

// someRuns has records in a row: each kind behind each other one, and longer runs.
func someRuns() [][]impl.Rec {
	each := []impl.Rec{
		plain(impl.LogBegin, 1),
		change(impl.LogSet, 256, 99, some{}, some{true, 9999}),
		change(impl.LogBack, 999, 0, some{true, 513}, some{}),
		plain(impl.LogCommit, 999),
		plain(impl.LogEnd, 255),
	}
	runs := [][]impl.Rec{nil, each, append(slices.Clone(each), each...)}
	for _, first := range each {
		runs = append(runs, []impl.Rec{first})
		for _, second := range each {
			runs = append(runs, []impl.Rec{first, second})
			for _, third := range each {
				runs = append(runs, []impl.Rec{first, second, third})
			}
		}
	}
	return runs
}

// wantedFirst tells by the document alone which record stands at the beginning of data, if there is one.
func wantedFirst(data []byte) (impl.Rec, int, bool) {
	if len(data) < 5 || data[0] < 1 || data[0] > 5 {
		return impl.Rec{}, 0, false
	}
	r := impl.Rec{Kind: int64(data[0]), Txn: int64(data[1])*256 + int64(data[2])}
	size := 5
	if data[0] == 2 || data[0] == 3 {
		if len(data) < 11 || data[4] > 3 {
			return impl.Rec{}, 0, false
		}
		size = 11
		r.Key, r.Had, r.Has = int64(data[3]), data[4]%2 == 1, data[4]/2 == 1
		r.Old, r.New = int64(data[5])*256+int64(data[6]), int64(data[7])*256+int64(data[8])
	}
	fits := r.Txn >= 1 && r.Txn <= 999 && r.Key <= 99 && r.Old <= 9999 && r.New <= 9999
	fits = fits && (r.Had || r.Old == 0) && (r.Has || r.New == 0)
	return r, size, fits && bytes.Equal(summed(data[:size-2]...), data[:size])
}

func wantedRecs(data []byte) (recs []impl.Rec, used int) {
	for {
		r, size, ok := wantedFirst(data[used:])
		if !ok {
			return recs, used
		}
		recs = append(recs, r)
		used += size
	}
}

func checkRecs(t *testing.T, data []byte) {
	t.Helper()
	recs, used := wantedRecs(data)
	got := impl.ReadRecs(data)
	if got.Code != impl.OK || got.Used != int64(used) || !slices.Equal(got.Recs, recs) {
		t.Fatalf("ReadRecs(%v): %v, want %d bytes used, %v", data, got, used, recs)
	}
}

func TestPackRecBytes(t *testing.T) {
	for _, c := range []struct {
		rec  impl.Rec
		want []byte
	}{
		{plain(impl.LogBegin, 1), []byte{1, 0, 1, 84, 144}},
		{plain(impl.LogCommit, 999), []byte{4, 3, 231, 131, 75}},
		{plain(impl.LogEnd, 256), []byte{5, 1, 0, 142, 150}},
		{change(impl.LogSet, 3, 7, some{}, some{true, 300}), []byte{2, 0, 3, 7, 2, 0, 0, 1, 44, 93, 119}},
		{change(impl.LogBack, 999, 99, some{true, 9999}, some{true, 9999}), []byte{3, 3, 231, 99, 3, 39, 15, 39, 15, 246, 72}},
		{change(impl.LogSet, 255, 0, some{}, some{}), []byte{2, 0, 255, 0, 0, 0, 0, 0, 0, 176, 126}},
		{change(impl.LogBack, 256, 50, some{true, 256}, some{}), []byte{3, 1, 0, 50, 1, 1, 0, 0, 0, 158, 227}},
	} {
		got := impl.PackRec(c.rec)
		if got.Code != impl.OK || !bytes.Equal(got.Bytes, c.want) {
			t.Errorf("PackRec(%v): %v, want %v", c.rec, got, c.want)
		}
	}
}

func TestRecIsReadBack(t *testing.T) {
	for _, r := range someRecs() {
		packed := impl.PackRec(r)
		if impl.RecFault(r) != impl.OK || packed.Code != impl.OK || !bytes.Equal(packed.Bytes, recData(r)) {
			t.Fatalf("PackRec(%v): %v, want %v", r, packed, recData(r))
		}
		read := impl.ReadRecs(packed.Bytes)
		if read.Code != impl.OK || read.Used != int64(len(packed.Bytes)) || !slices.Equal(read.Recs, []impl.Rec{r}) {
			t.Fatalf("%v is read back as %v", r, read)
		}
	}
}

func TestRecsOfEveryBeginning(t *testing.T) {
	for _, recs := range someRuns() {
		whole := 0
		ends := []int{0}
		var data []byte
		for _, r := range recs {
			data = append(data, impl.PackRec(r).Bytes...)
			ends = append(ends, len(data))
		}
		for length := range len(data) + 1 {
			for whole < len(recs) && ends[whole+1] <= length {
				whole++
			}
			got := impl.ReadRecs(data[:length])
			if got.Code != impl.OK || got.Used != int64(ends[whole]) || !slices.Equal(got.Recs, recs[:whole]) {
				t.Fatalf("the first %d bytes of %v: %v, want the first %d", length, recs, got, whole)
			}
		}
	}
}

func TestRecsUpToTheFullLog(t *testing.T) {
	short := recData(plain(impl.LogEnd, 7))
	long := recData(change(impl.LogSet, 7, 7, some{}, some{true, 7}))
	full := bytes.Repeat(short, impl.MaxLog/5)
	if got := impl.ReadRecs(full); got.Code != impl.OK || got.Used != impl.MaxLog || len(got.Recs) != 800 {
		t.Errorf("a full log of short ones: %d, %d bytes used, %d records", got.Code, got.Used, len(got.Recs))
	}
	torn := bytes.Repeat(long, 364)[:impl.MaxLog]
	if got := impl.ReadRecs(torn); got.Code != impl.OK || got.Used != 363*11 || len(got.Recs) != 363 {
		t.Errorf("a full log of long ones: %d, %d bytes used, %d records", got.Code, got.Used, len(got.Recs))
	}
	for _, data := range [][]byte{append(full, 1), bytes.Repeat(long, 364), make([]byte, impl.MaxLog+1), make([]byte, 1<<20)} {
		if got := impl.ReadRecs(data); got.Code != impl.ErrMany || got.Used != 0 || len(got.Recs) != 0 {
			t.Errorf("%d bytes: %d, %d bytes used, %d records", len(data), got.Code, got.Used, len(got.Recs))
		}
	}
	if got := impl.ReadRecs(make([]byte, impl.MaxLog)); got.Code != impl.OK || got.Used != 0 || len(got.Recs) != 0 {
		t.Errorf("as many noughts as a log may have: %v", got)
	}
}

func TestRecsWithOneByteTurned(t *testing.T) {
	for _, recs := range someRuns() {
		if len(recs) != 2 {
			continue
		}
		first, rest := recData(recs[0]), recData(recs[1])
		for at := range first {
			for b := range 256 {
				turned := slices.Clone(first)
				turned[at] = byte(b)
				checkRecs(t, turned)
				checkRecs(t, slices.Concat(turned, rest))
				mended := summed(turned[:len(turned)-2]...)
				checkRecs(t, slices.Concat(mended, rest))
				checkRecs(t, slices.Concat(rest, mended, first))
			}
		}
	}
}

func TestBytesThatNoRecordHas(t *testing.T) {
	good := recData(plain(impl.LogBegin, 1))
	for _, c := range []struct {
		name string
		data []byte
	}{
		{"a kind of 0", summed(0, 0, 1)},
		{"a kind of 6", summed(6, 0, 1)},
		{"a kind of 6, as long as a change", summed(6, 0, 1, 0, 3, 0, 0, 0, 0)},
		{"a kind of 255", summed(255, 0, 1)},
		{"no transaction", summed(1, 0, 0)},
		{"a transaction above its bound", summed(4, 3, 232)},
		{"the greatest two bytes as a transaction", summed(5, 255, 255)},
		{"a change by no transaction", summed(2, 0, 0, 0, 3, 0, 0, 0, 0)},
		{"a key above its bound", summed(2, 0, 1, 100, 3, 0, 0, 0, 0)},
		{"an old value above its bound", summed(3, 0, 1, 0, 3, 39, 16, 0, 0)},
		{"a new value above its bound", summed(3, 0, 1, 0, 3, 0, 0, 39, 16)},
		{"an old value where it had none", summed(2, 0, 1, 0, 2, 0, 1, 0, 0)},
		{"a new value where it has none", summed(2, 0, 1, 0, 1, 0, 0, 0, 1)},
		{"a byte of bools of 4", summed(2, 0, 1, 0, 4, 0, 0, 0, 0)},
		{"a byte of bools of 7", summed(2, 0, 1, 0, 7, 0, 1, 0, 1)},
		{"a byte of bools of 255", summed(3, 0, 1, 0, 255, 0, 1, 0, 1)},
		{"a change as short as the others", summed(2, 0, 1)},
		{"another one as long as a change", summed(1, 0, 1, 0, 0, 0, 0, 0, 0)},
		{"a sum that is wrong", []byte{1, 0, 1, 84, 145}},
		{"a sum that is wrong by its higher byte", []byte{1, 0, 1, 85, 144}},
		{"a sum with its bytes the other way round", []byte{1, 0, 1, 144, 84}},
		{"a change's sum that is wrong", []byte{2, 0, 3, 7, 2, 0, 0, 1, 44, 93, 118}},
		{"no sum", []byte{1, 0, 1}},
		{"half a sum", []byte{1, 0, 1, 84}},
		{"a kind alone", []byte{1}},
		{"noughts", make([]byte, 11)},
	} {
		if got := impl.ReadRecs(c.data); got.Code != impl.OK || got.Used != 0 || len(got.Recs) != 0 {
			t.Errorf("%s: %v", c.name, got)
		}
		behind := impl.ReadRecs(slices.Concat(good, c.data, good))
		if behind.Code != impl.OK || behind.Used != 5 || !slices.Equal(behind.Recs, []impl.Rec{plain(impl.LogBegin, 1)}) {
			t.Errorf("%s, between two that are good: %v", c.name, behind)
		}
	}
}

// TestMadeUpRecs holds bytes of a plain rule's making against the document; their sums are right as often as not.
func TestMadeUpRecs(t *testing.T) {
	state := uint32(2)
	next := func(bound uint32) byte {
		state = state*1664525 + 1013904223
		return byte((state >> 16) % bound)
	}
	for range 20000 {
		var data []byte
		for range next(6) {
			one := []byte{next(7), next(5), next(255)}
			if next(8) > 0 && (one[0] == 2 || one[0] == 3) {
				one = append(one, next(104), next(5), next(41), next(64), next(41), next(64))
			}
			if next(8) > 0 {
				one = summed(one...)
			}
			data = append(data, one...)
		}
		checkRecs(t, data)
	}
}
