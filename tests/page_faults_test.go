package tests

import (
	"math"
	"testing"

	"loop.example/g00270/impl"
)

func TestRowFault(t *testing.T) {
	for _, c := range []struct {
		row  impl.Row
		want int64
	}{
		{row(0, 0), impl.OK},
		{row(impl.MaxKey, impl.MaxValue), impl.OK},
		{ghost(0), impl.OK},
		{ghost(impl.MaxKey), impl.OK},
		{row(-1, 0), impl.ErrRange},
		{row(impl.MaxKey+1, 0), impl.ErrRange},
		{row(0, -1), impl.ErrRange},
		{row(0, impl.MaxValue+1), impl.ErrRange},
		{row(math.MinInt64, 0), impl.ErrRange},
		{row(math.MaxInt64, 0), impl.ErrRange},
		{row(0, math.MinInt64), impl.ErrRange},
		{row(0, math.MaxInt64), impl.ErrRange},
		{ghost(-1), impl.ErrRange},
		{ghost(impl.MaxKey + 1), impl.ErrRange},
		{impl.Row{Value: 1, Ghost: true}, impl.ErrForm},
		{impl.Row{Key: impl.MaxKey, Value: impl.MaxValue, Ghost: true}, impl.ErrForm},
		{impl.Row{Value: -1, Ghost: true}, impl.ErrRange},
		{impl.Row{Value: impl.MaxValue + 1, Ghost: true}, impl.ErrRange},
		{impl.Row{Key: impl.MaxKey + 1, Value: 1, Ghost: true}, impl.ErrRange},
	} {
		if got := impl.RowFault(c.row); got != c.want {
			t.Errorf("RowFault(%v): %d, want %d", c.row, got, c.want)
		}
	}
}

func TestPageFault(t *testing.T) {
	badGhost := impl.Row{Key: 5, Value: 1, Ghost: true}
	for _, c := range []struct {
		name string
		rows []impl.Row
		want int64
	}{
		{"none", nil, impl.OK},
		{"none, but a list", []impl.Row{}, impl.OK},
		{"one", []impl.Row{row(0, 0)}, impl.OK},
		{"as many as there may be", []impl.Row{row(0, 1), ghost(1), row(98, 0), row(99, 9999)}, impl.OK},
		{"one too many", []impl.Row{row(0, 0), row(1, 0), row(2, 0), row(3, 0), row(4, 0)}, impl.ErrMany},
		{"too many, ahead of a row's own fault", []impl.Row{row(-1, 0), row(1, 0), row(2, 0), row(3, 0), row(4, 0)}, impl.ErrMany},
		{"too many, ahead of their order", []impl.Row{row(4, 0), row(3, 0), row(2, 0), row(1, 0), row(0, 0)}, impl.ErrMany},
		{"a key below its bounds", []impl.Row{row(-1, 0)}, impl.ErrRange},
		{"a value above its bounds", []impl.Row{row(0, 0), row(1, 10000)}, impl.ErrRange},
		{"a ghost with a value", []impl.Row{row(0, 0), badGhost}, impl.ErrForm},
		{"keys that are alike", []impl.Row{row(3, 0), row(3, 1)}, impl.ErrForm},
		{"keys that fall", []impl.Row{row(3, 0), row(2, 0)}, impl.ErrForm},
		{"keys that are alike at the end", []impl.Row{row(1, 0), row(2, 0), row(3, 0), row(3, 0)}, impl.ErrForm},
		{"a row with both asks its bounds first", []impl.Row{row(3, 0), row(2, -1)}, impl.ErrRange},
		{"the order of a row ahead of the bounds of the next one", []impl.Row{row(3, 0), row(2, 0), row(100, 0)}, impl.ErrForm},
		{"the bounds of a row ahead of the order of the next one", []impl.Row{row(3, 0), row(100, 0), row(2, 0)}, impl.ErrRange},
		{"a ghost with a value ahead of the bounds of the next one", []impl.Row{badGhost, row(100, 0)}, impl.ErrForm},
		{"bounds ahead of a ghost with a value that comes next", []impl.Row{row(0, -1), badGhost}, impl.ErrRange},
	} {
		if got := impl.PageFault(c.rows); got != c.want {
			t.Errorf("PageFault, %s: %d, want %d", c.name, got, c.want)
		}
		packed := impl.PackPage(c.rows)
		if packed.Code != c.want {
			t.Errorf("PackPage, %s: %d, want %d", c.name, packed.Code, c.want)
		}
		if c.want != impl.OK && len(packed.Bytes) != 0 {
			t.Errorf("PackPage, %s: bytes beside a code: %v", c.name, packed.Bytes)
		}
	}
}
