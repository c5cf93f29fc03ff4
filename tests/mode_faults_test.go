package tests

import (
	"math"
	"testing"

	"loop.example/g00270/impl"
)

// noModes has numbers of which some are modes, if bits or the sign of them are lost or they are taken modulo the number of modes.
func noModes() []int64 {
	numbers := []int64{
		math.MinInt64, math.MinInt64 + 1, math.MaxInt64, math.MaxInt64 - 1,
		math.MinInt32 - 1, math.MinInt32, math.MaxInt32, math.MaxInt32 + 1, math.MaxUint32,
		-1000, 1000, 1 << 62, -1 << 62,
	}
	for m := range int64(modeCount) {
		numbers = append(numbers, -1-m, modeCount+m, 2*modeCount+m)
		for _, bits := range []int{6, 8, 16, 31, 32, 33, 62} {
			numbers = append(numbers, 1<<bits+m, -1<<bits+m, -1<<bits-m)
		}
		numbers = append(numbers, math.MinInt64+m, math.MaxInt64-m)
	}
	return numbers
}

// checkNoModes asks all that takes two modes, of which at least one is none.
func checkNoModes(t *testing.T, a int64, b int64) {
	t.Helper()
	if impl.FitModes(a, b) {
		t.Errorf("FitModes(%d, %d)", a, b)
	}
	if impl.CoversMode(a, b) {
		t.Errorf("CoversMode(%d, %d)", a, b)
	}
	if got := impl.JoinModes(a, b); got != (impl.IntResult{Code: impl.ErrRange}) {
		t.Errorf("JoinModes(%d, %d): %v", a, b, got)
	}
}

func TestNoModesOnEitherSide(t *testing.T) {
	for _, wrong := range noModes() {
		for m := range int64(modeCount) {
			checkNoModes(t, wrong, m)
			checkNoModes(t, m, wrong)
		}
	}
}

func TestNoModesOnBothSides(t *testing.T) {
	for _, a := range noModes() {
		for _, b := range noModes() {
			checkNoModes(t, a, b)
		}
	}
}

func TestNoModesAlone(t *testing.T) {
	for _, wrong := range noModes() {
		if impl.IsMode(wrong) {
			t.Errorf("IsMode(%d)", wrong)
		}
		if got := impl.ModeText(wrong); got != (impl.TextResult{Code: impl.ErrRange}) {
			t.Errorf("ModeText(%d): %v", wrong, got)
		}
	}
}
