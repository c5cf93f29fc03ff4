package tests

import (
	"math"
	"slices"
	"testing"

	"loop.example/g00270/impl"
)

// modeAnswer is all that the functions of modes answer of two numbers.
type modeAnswer struct {
	is     [2]bool
	fits   bool
	covers bool
	joint  impl.IntResult
	texts  [2]impl.TextResult
}

func modeAnswerOf(pair [2]int64) modeAnswer {
	a, b := pair[0], pair[1]
	return modeAnswer{
		is:     [2]bool{impl.IsMode(a), impl.IsMode(b)},
		fits:   impl.FitModes(a, b),
		covers: impl.CoversMode(a, b),
		joint:  impl.JoinModes(a, b),
		texts:  [2]impl.TextResult{impl.ModeText(a), impl.ModeText(b)},
	}
}

// modePairs has every two of the modes and of some numbers that are none.
func modePairs() [][2]int64 {
	numbers := []int64{0, 1, 2, 3, 4, 5, -1, 6, 1<<32 + 3, math.MinInt64, math.MaxInt64}
	var pairs [][2]int64
	for _, a := range numbers {
		for _, b := range numbers {
			pairs = append(pairs, [2]int64{a, b})
		}
	}
	return pairs
}

func TestModeAnswersRepeat(t *testing.T) {
	pairs := modePairs()
	first := map[[2]int64]modeAnswer{}
	for _, pair := range pairs {
		first[pair] = modeAnswerOf(pair)
	}
	slices.Reverse(pairs)
	for _, pair := range pairs {
		if got := modeAnswerOf(pair); got != first[pair] {
			t.Errorf("%v, asked in the other order: %v, at first %v", pair, got, first[pair])
		}
	}
	for _, ahead := range pairs {
		for _, pair := range pairs {
			modeAnswerOf(ahead)
			if got := modeAnswerOf(pair); got != first[pair] {
				t.Fatalf("%v behind %v: %v, at first %v", pair, ahead, got, first[pair])
			}
		}
	}
}
