package tests

import (
	"bytes"
	"math"
	"reflect"
	"slices"
	"testing"

	"loop.example/g00270/impl"
)

// roomyRows has rows with room behind them, so that an append to the argument would be seen there.
func roomyRows(rows []impl.Row) []impl.Row {
	whole := append(slices.Clone(rows), row(77, 77), row(78, 78), row(79, 79))
	return whole[:len(rows)]
}

func roomyBytes(data []byte) []byte {
	whole := append(slices.Clone(data), 71, 72, 73, 74)
	return whole[:len(data)]
}

func oddRows() [][]impl.Row {
	ends := []int64{math.MinInt64, -1, 0, 99, 100, 9999, 10000, 65536, math.MaxInt64}
	lists := [][]impl.Row{nil, {}, make([]impl.Row, 5), make([]impl.Row, 100000)}
	for _, key := range ends {
		for _, value := range ends {
			for _, isGhost := range []bool{false, true} {
				r := impl.Row{Key: key, Value: value, Ghost: isGhost}
				lists = append(lists, []impl.Row{r}, []impl.Row{row(0, 0), r}, []impl.Row{r, row(99, 9999)})
			}
		}
	}
	return lists
}

func oddBytes() [][]byte {
	lists := [][]byte{nil, {}, {0}, {255}, {0, 0}, make([]byte, 1<<20), bytes.Repeat([]byte{255}, 1<<20)}
	for first := range 256 {
		data := make([]byte, 1+4*first)
		data[0] = byte(first)
		lists = append(lists, summed(data...), append(data, 0, 0))
	}
	for _, rows := range [][]impl.Row{nil, {row(0, 0)}, {ghost(1), row(2, 2), row(3, 3), row(4, 4)}} {
		lists = append(lists, impl.PackPage(rows).Bytes)
	}
	return lists
}

func TestRowsStayAndAnswersRepeat(t *testing.T) {
	for _, rows := range oddRows() {
		given := roomyRows(rows)
		before := slices.Clone(given[:cap(given)])
		fault, packed := impl.PageFault(given), impl.PackPage(given)
		for _, r := range given {
			impl.RowFault(r)
		}
		if !slices.Equal(given[:cap(given)], before) {
			t.Fatalf("rows are changed: %v", before[:min(len(before), 5)])
		}
		if fault != packed.Code {
			t.Fatalf("PageFault %d, PackPage %d", fault, packed.Code)
		}
		if fault != impl.OK && !reflect.DeepEqual(packed, impl.BytesResult{Code: fault}) {
			t.Fatalf("bytes beside the code %d", fault)
		}
		if again := impl.PackPage(given); again.Code != packed.Code || !bytes.Equal(again.Bytes, packed.Bytes) {
			t.Fatalf("another answer at the second call: %v", again)
		}
	}
}

func TestBytesStayAndAnswersRepeat(t *testing.T) {
	for _, data := range oddBytes() {
		given := roomyBytes(data)
		before := slices.Clone(given[:cap(given)])
		read, sum := impl.UnpackPage(given), impl.SumBytes(given)
		if !bytes.Equal(given[:cap(given)], before) {
			t.Fatalf("bytes are changed, %d of them", len(data))
		}
		if read.Code != impl.OK && !reflect.DeepEqual(read, impl.RowsResult{Code: read.Code}) {
			t.Fatalf("rows beside the code %d", read.Code)
		}
		if sum < 0 || sum >= 65521 || sum != int64(sumOf(data)) {
			t.Fatalf("the sum of %d bytes: %d", len(data), sum)
		}
		again := impl.UnpackPage(given)
		if again.Code != read.Code || !slices.Equal(again.Rows, read.Rows) || impl.SumBytes(given) != sum {
			t.Fatalf("another answer at the second call: %v", again)
		}
	}
}

func TestPackedBytesAreNewMemory(t *testing.T) {
	rows := []impl.Row{row(1, 1), row(2, 2)}
	first, second := impl.PackPage(rows), impl.PackPage(rows)
	want := slices.Clone(first.Bytes)
	clear(first.Bytes[:cap(first.Bytes)])
	clear(rows)
	if !bytes.Equal(second.Bytes, want) {
		t.Errorf("an answer turned with another one or with its rows: %v", second.Bytes)
	}
}

func TestReadRowsAreNewMemory(t *testing.T) {
	data := impl.PackPage([]impl.Row{row(1, 1), ghost(2)}).Bytes
	kept := slices.Clone(data)
	first, second := impl.UnpackPage(data), impl.UnpackPage(data)
	want := slices.Clone(first.Rows)
	clear(first.Rows[:cap(first.Rows)])
	if !bytes.Equal(data, kept) {
		t.Errorf("bytes turned with the rows read from them: %v", data)
	}
	clear(data)
	if !slices.Equal(second.Rows, want) {
		t.Errorf("an answer turned with another one or with its bytes: %v", second.Rows)
	}
}

func TestACodeLeavesNothingBehind(t *testing.T) {
	good := impl.PackPage([]impl.Row{row(9, 9)}).Bytes
	for _, bad := range [][]byte{nil, {0, 0, 0}, summed(1, 100, 0, 0, 0)} {
		if impl.UnpackPage(bad).Code == impl.OK {
			t.Fatalf("%v is read", bad)
		}
		if got := impl.UnpackPage(good); got.Code != impl.OK || !slices.Equal(got.Rows, []impl.Row{row(9, 9)}) {
			t.Errorf("behind %v: %v", bad, got)
		}
	}
}
