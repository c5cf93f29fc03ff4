package tests

import (
	"bytes"
	"slices"
	"testing"

	"loop.example/g00270/impl"
)

func row(key, value int64) impl.Row {
	return impl.Row{Key: key, Value: value}
}

func ghost(key int64) impl.Row {
	return impl.Row{Key: key, Ghost: true}
}

// sumOf is the document's sum, told anew, so that the program is not held against itself.
func sumOf(data []byte) int {
	h := 5
	for _, b := range data {
		h *= 263
		h += int(b)
		h++
		h %= 65521
	}
	return h
}

// summed puts the right sum behind data.
func summed(data ...byte) []byte {
	sum := sumOf(data)
	return append(slices.Clone(data), byte(sum/256), byte(sum%256))
}

// somePages has pages of 0 to LeafRows rows over keys and values at and about the ends of their bounds.
func somePages() [][]impl.Row {
	kinds := []impl.Row{row(0, 0), ghost(0), row(0, 1), row(0, 255), row(0, 256), row(0, impl.MaxValue-1), row(0, impl.MaxValue)}
	keys := []int64{0, 1, 50, 98, impl.MaxKey}
	pages := [][]impl.Row{nil}
	last := pages
	for range impl.LeafRows {
		var longer [][]impl.Row
		for _, page := range last {
			for _, key := range keys {
				if len(page) > 0 && key <= page[len(page)-1].Key {
					continue
				}
				for _, r := range kinds {
					r.Key = key
					longer = append(longer, append(slices.Clone(page), r))
				}
			}
		}
		pages = append(pages, longer...)
		last = longer
	}
	return pages
}

func TestSumBytes(t *testing.T) {
	rising := make([]byte, 256)
	for i := range rising {
		rising[i] = byte(i)
	}
	for _, c := range []struct {
		data []byte
		want int64
	}{
		{nil, 5},
		{[]byte{}, 5},
		{[]byte{0}, 1316},
		{[]byte{255}, 1571},
		{[]byte{0, 0}, 18504},
		{[]byte{1, 2, 3}, 22176},
		{rising, 12508},
		{bytes.Repeat([]byte{255}, 1000), 23548},
	} {
		if got := impl.SumBytes(c.data); got != c.want {
			t.Errorf("SumBytes of %d bytes: %d, want %d", len(c.data), got, c.want)
		}
	}
}

func TestPackPageBytes(t *testing.T) {
	for _, c := range []struct {
		rows []impl.Row
		want []byte
	}{
		{nil, []byte{0, 5, 36}},
		{[]impl.Row{}, []byte{0, 5, 36}},
		{[]impl.Row{row(0, 0)}, []byte{1, 0, 0, 0, 0, 61, 99}},
		{[]impl.Row{row(99, 9999)}, []byte{1, 99, 39, 15, 0, 32, 224}},
		{[]impl.Row{row(1, 300), ghost(2)}, []byte{2, 1, 1, 44, 0, 2, 0, 0, 1, 122, 14}},
		{
			[]impl.Row{ghost(0), row(1, 255), row(98, 256), row(99, 9999)},
			[]byte{4, 0, 0, 0, 1, 1, 0, 255, 0, 98, 1, 0, 0, 99, 39, 15, 0, 159, 154},
		},
	} {
		got := impl.PackPage(c.rows)
		if got.Code != impl.OK || !bytes.Equal(got.Bytes, c.want) {
			t.Errorf("PackPage(%v): %v, want %v", c.rows, got, c.want)
		}
	}
}

func TestPageIsReadBack(t *testing.T) {
	for _, rows := range somePages() {
		packed := impl.PackPage(rows)
		if packed.Code != impl.OK || impl.PageFault(rows) != impl.OK {
			t.Fatalf("%v is refused: %d", rows, packed.Code)
		}
		read := impl.UnpackPage(packed.Bytes)
		if read.Code != impl.OK || !slices.Equal(read.Rows, rows) {
			t.Fatalf("%v is read back as %v", rows, read)
		}
	}
}

// wantedRead tells by the document alone which code bytes have, and which rows.
func wantedRead(data []byte) (int64, []impl.Row) {
	if len(data) == 0 || len(data) != 3+4*int(data[0]) {
		return impl.ErrText, nil
	}
	body := data[:len(data)-2]
	if !bytes.Equal(summed(body...), data) {
		return impl.ErrSum, nil
	}
	var rows []impl.Row
	for i := range int(data[0]) {
		b := data[1+4*i : 5+4*i]
		value := int64(b[1])*256 + int64(b[2])
		falls := i > 0 && b[0] <= data[4*i-3]
		if i >= 4 || b[0] > 99 || value > 9999 || b[3] > 1 || b[3] == 1 && value != 0 || falls {
			return impl.ErrForm, nil
		}
		rows = append(rows, impl.Row{Key: int64(b[0]), Value: value, Ghost: b[3] == 1})
	}
	return impl.OK, rows
}

func checkRead(t *testing.T, data []byte) {
	t.Helper()
	code, rows := wantedRead(data)
	got := impl.UnpackPage(data)
	if got.Code != code || !slices.Equal(got.Rows, rows) {
		t.Fatalf("UnpackPage(%v): %v, want %d %v", data, got, code, rows)
	}
	if code != impl.OK {
		return
	}
	again := impl.PackPage(got.Rows)
	if again.Code != impl.OK || !bytes.Equal(again.Bytes, data) {
		t.Fatalf("%v is packed again as %v", data, again)
	}
}

func TestEverySumOfAnEmptyPage(t *testing.T) {
	for high := range 256 {
		for low := range 256 {
			checkRead(t, []byte{0, byte(high), byte(low)})
		}
	}
}

func TestBytesWithOneByteTurned(t *testing.T) {
	for _, rows := range [][]impl.Row{
		nil,
		{row(0, 0)},
		{row(99, 9999)},
		{ghost(0), row(50, 256)},
		{row(0, 255), ghost(1), row(98, 0), row(99, 9999)},
	} {
		data := impl.PackPage(rows).Bytes
		for at := range data {
			for b := range 256 {
				turned := slices.Clone(data)
				turned[at] = byte(b)
				checkRead(t, turned)
				checkRead(t, summed(turned[:len(turned)-2]...))
			}
		}
	}
}

// TestMadeUpBytes holds bytes of a plain rule's making against the document; their sums are right as often as not.
func TestMadeUpBytes(t *testing.T) {
	state := uint32(1)
	next := func(bound uint32) byte {
		state = state*1664525 + 1013904223
		return byte((state >> 16) % bound)
	}
	for range 20000 {
		count := next(6)
		data := []byte{count}
		for range count {
			data = append(data, next(110), next(44), next(64), next(3))
		}
		if next(2) == 0 {
			data = summed(data...)
		} else {
			data = append(data, next(255), next(255))
		}
		checkRead(t, data)
	}
}

func TestBytesOfOtherLengths(t *testing.T) {
	checkRead(t, nil)
	checkRead(t, []byte{})
	if got := impl.UnpackPage(nil); got.Code != impl.ErrText {
		t.Errorf("no bytes: %v", got)
	}
	for first := range 256 {
		for length := 1; length <= 30; length++ {
			data := make([]byte, length)
			data[0] = byte(first)
			checkRead(t, data)
			checkRead(t, summed(data...))
		}
	}
	whole := impl.PackPage([]impl.Row{row(1, 1), row(2, 2)}).Bytes
	for length := range whole {
		if got := impl.UnpackPage(whole[:length]); got.Code != impl.ErrText {
			t.Errorf("the first %d bytes: %v", length, got)
		}
	}
	if got := impl.UnpackPage(append(slices.Clone(whole), 0)); got.Code != impl.ErrText {
		t.Errorf("a byte more: %v", got)
	}
}

func TestUnpackPageCodes(t *testing.T) {
	many := make([]byte, 1+4*255)
	many[0] = 255
	for _, c := range []struct {
		name string
		data []byte
		want int64
	}{
		{"a length that is wrong, whatever the sum", summed(1, 0, 0, 0), impl.ErrText},
		{"a sum that is wrong", []byte{0, 5, 37}, impl.ErrSum},
		{"a sum that is wrong by its higher byte", []byte{0, 4, 36}, impl.ErrSum},
		{"a sum with its bytes the other way round", []byte{0, 36, 5}, impl.ErrSum},
		{"a sum that is wrong ahead of rows that are", []byte{1, 100, 0, 0, 2, 0, 0}, impl.ErrSum},
		{"a key above its bound", summed(1, 100, 0, 0, 0), impl.ErrForm},
		{"a value above its bound", summed(1, 0, 39, 16, 0), impl.ErrForm},
		{"the greatest two bytes as a value", summed(1, 0, 255, 255, 0), impl.ErrForm},
		{"a ghost with a value", summed(1, 0, 0, 1, 1), impl.ErrForm},
		{"a last byte of 2", summed(1, 0, 0, 0, 2), impl.ErrForm},
		{"a last byte of 255", summed(1, 0, 0, 0, 255), impl.ErrForm},
		{"keys that are alike", summed(2, 7, 0, 0, 0, 7, 0, 0, 0), impl.ErrForm},
		{"keys that fall", summed(2, 7, 0, 0, 0, 6, 0, 0, 0), impl.ErrForm},
		{"five rows", summed(5, 0, 0, 0, 0, 1, 0, 0, 0, 2, 0, 0, 0, 3, 0, 0, 0, 4, 0, 0, 0), impl.ErrForm},
		{"as many rows as a byte can tell", summed(many...), impl.ErrForm},
	} {
		got := impl.UnpackPage(c.data)
		if got.Code != c.want || len(got.Rows) != 0 {
			t.Errorf("%s: %v, want the code %d and no rows", c.name, got, c.want)
		}
	}
}
