package tests

import (
	"math"
	"reflect"
	"testing"

	"loop.example/g00270/impl"
)

// checkPackFault asks all that takes leaves which have a fault, with places that have faults of their own, which come behind the leaves'.
func checkPackFault(t *testing.T, name string, list []impl.Leaf, want int64) {
	t.Helper()
	noLeaves := impl.LeavesResult{Code: want}
	for _, at := range []int64{0, 1, int64(len(list)) - 2, int64(len(list)) - 1, int64(len(list)), -1, math.MinInt64, math.MaxInt64} {
		for _, got := range []impl.LeavesResult{impl.MergeLeaves(list, at), impl.EvenLeaves(list, at), impl.PackLeaves(list)} {
			if !reflect.DeepEqual(got, noLeaves) {
				t.Fatalf("leaves at %d, %s: %v, want the code %d", at, name, got, want)
			}
		}
	}
	if got := impl.FillOf(list); got != (impl.IntResult{Code: want}) {
		t.Fatalf("FillOf, %s: %v, want the code %d", name, got, want)
	}
	for _, other := range [][]impl.Leaf{nil, {keyed(1)}, {keyed(1, 2, 3, 4), keyed(5)}, {keyed(-1)}, {leaf()}, cloneOf(list), list} {
		if impl.SameRows(list, other) || impl.SameRows(other, list) {
			t.Fatalf("SameRows with %v, %s", other, name)
		}
	}
}

// TestPlacesWithoutTwoLeaves has places of which some are right ones, if bits of them are lost or one is added to them.
func TestPlacesWithoutTwoLeaves(t *testing.T) {
	none := impl.LeavesResult{Code: impl.ErrRange}
	for _, list := range sizedLeaves() {
		count := int64(len(list))
		places := []int64{math.MinInt64, math.MinInt64 + 1, -1 << 32, -256, -2, -1, count - 1, count, count + 1, 256, 1 << 32, 1 << 62, math.MaxInt64 - 1, math.MaxInt64}
		for _, at := range places {
			merged, evened := impl.MergeLeaves(list, at), impl.EvenLeaves(list, at)
			if !reflect.DeepEqual(merged, none) || !reflect.DeepEqual(evened, none) {
				t.Fatalf("at %d of %v: %v, %v", at, list, merged, evened)
			}
		}
	}
}

func TestNoTwoLeavesAtAll(t *testing.T) {
	none := impl.LeavesResult{Code: impl.ErrRange}
	for _, list := range [][]impl.Leaf{nil, {}, {keyed(1)}, {keyed(1, 2, 3, 4)}} {
		for at := int64(-1); at <= 2; at++ {
			merged, evened := impl.MergeLeaves(list, at), impl.EvenLeaves(list, at)
			if !reflect.DeepEqual(merged, none) || !reflect.DeepEqual(evened, none) {
				t.Errorf("at %d of %v: %v, %v", at, list, merged, evened)
			}
		}
	}
}

func TestMergeLeavesOfTooManyRows(t *testing.T) {
	none := impl.LeavesResult{Code: impl.ErrMany}
	for _, sizes := range sizesOf(2) {
		if sizes[0]+sizes[1] <= impl.LeafRows {
			continue
		}
		list := append(cutLeaves(10, 1, 2, sizes...), keyed(98), keyed(99))
		if got := impl.MergeLeaves(list, 0); !reflect.DeepEqual(got, none) {
			t.Errorf("MergeLeaves of %v: %v", sizes, got)
		}
		list = append([]impl.Leaf{keyed(1), keyed(2)}, cutLeaves(10, 1, 2, sizes...)...)
		if got := impl.MergeLeaves(list, 2); !reflect.DeepEqual(got, none) {
			t.Errorf("MergeLeaves of %v, the last two: %v", sizes, got)
		}
	}
}

func TestNoLeavesAreNotFilled(t *testing.T) {
	for _, list := range [][]impl.Leaf{nil, {}} {
		if got := impl.FillOf(list); got != (impl.IntResult{Code: impl.ErrNone}) {
			t.Errorf("FillOf no leaves: %v", got)
		}
		if got := impl.PackLeaves(list); got.Code != impl.OK || len(got.Leaves) != 0 {
			t.Errorf("PackLeaves of no leaves: %v", got)
		}
	}
}
