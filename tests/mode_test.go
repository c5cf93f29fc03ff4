package tests

import (
	"testing"

	"loop.example/g00270/impl"
)

const modeCount = 6

// fitsTable and coversTable have a line for each mode, and in it a 1 for each one with which it fits, or which it covers.
var fitsTable = [modeCount]string{
	"111111",
	"111110",
	"111000",
	"110100",
	"110000",
	"100000",
}

var coversTable = [modeCount]string{
	"100000",
	"110000",
	"111000",
	"110100",
	"111110",
	"111111",
}

// joinTable has a line for each mode, and in it the joint mode with each one.
var joinTable = [modeCount][modeCount]int64{
	{0, 1, 2, 3, 4, 5},
	{1, 1, 2, 3, 4, 5},
	{2, 2, 2, 4, 4, 5},
	{3, 3, 4, 3, 4, 5},
	{4, 4, 4, 4, 4, 5},
	{5, 5, 5, 5, 5, 5},
}

func TestModeNumbers(t *testing.T) {
	numbers := [modeCount]int64{impl.ModeNone, impl.ModeIs, impl.ModeIx, impl.ModeS, impl.ModeSix, impl.ModeX}
	if numbers != [modeCount]int64{0, 1, 2, 3, 4, 5} {
		t.Errorf("modes: %v", numbers)
	}
}

func TestIsMode(t *testing.T) {
	for m := int64(-300); m <= 300; m++ {
		if got, want := impl.IsMode(m), m >= 0 && m <= 5; got != want {
			t.Errorf("IsMode(%d): %v", m, got)
		}
	}
}

func TestFitModesOfEveryTwo(t *testing.T) {
	for a := range int64(modeCount) {
		for b := range int64(modeCount) {
			if got, want := impl.FitModes(a, b), fitsTable[a][b] == '1'; got != want {
				t.Errorf("FitModes(%d, %d): %v, want %v", a, b, got, want)
			}
		}
	}
}

func TestCoversModeOfEveryTwo(t *testing.T) {
	for a := range int64(modeCount) {
		for b := range int64(modeCount) {
			if got, want := impl.CoversMode(a, b), coversTable[a][b] == '1'; got != want {
				t.Errorf("CoversMode(%d, %d): %v, want %v", a, b, got, want)
			}
		}
	}
}

func TestJoinModesOfEveryTwo(t *testing.T) {
	for a := range int64(modeCount) {
		for b := range int64(modeCount) {
			if got, want := impl.JoinModes(a, b), (impl.IntResult{Value: joinTable[a][b]}); got != want {
				t.Errorf("JoinModes(%d, %d): %v, want %v", a, b, got, want)
			}
		}
	}
}

func TestModeTextOfEachMode(t *testing.T) {
	for m, want := range [modeCount]string{"none", "is", "ix", "s", "six", "x"} {
		if got := impl.ModeText(int64(m)); got != (impl.TextResult{Text: want}) {
			t.Errorf("ModeText(%d): %v, want %s", m, got, want)
		}
	}
}

func TestWhatFitsFitsBothWays(t *testing.T) {
	for a := range int64(modeCount) {
		for b := range int64(modeCount) {
			if impl.FitModes(a, b) != impl.FitModes(b, a) {
				t.Errorf("%d and %d fit one way alone", a, b)
			}
		}
		if !impl.FitModes(impl.ModeNone, a) {
			t.Errorf("ModeNone does not fit with %d", a)
		}
	}
}

func TestWhoCoversMoreFitsWithLess(t *testing.T) {
	for more := range int64(modeCount) {
		for less := range int64(modeCount) {
			for other := range int64(modeCount) {
				if impl.CoversMode(more, less) && impl.FitModes(more, other) && !impl.FitModes(less, other) {
					t.Errorf("%d covers %d and fits with %d, which does not", more, less, other)
				}
			}
		}
	}
}

func TestCoversModeIsAnOrder(t *testing.T) {
	for a := range int64(modeCount) {
		if !impl.CoversMode(a, a) || !impl.CoversMode(a, impl.ModeNone) || !impl.CoversMode(impl.ModeX, a) {
			t.Errorf("%d: itself %v, ModeNone %v, by ModeX %v", a, impl.CoversMode(a, a), impl.CoversMode(a, impl.ModeNone), impl.CoversMode(impl.ModeX, a))
		}
		for b := range int64(modeCount) {
			if a != b && impl.CoversMode(a, b) && impl.CoversMode(b, a) {
				t.Errorf("%d and %d cover each other", a, b)
			}
			for c := range int64(modeCount) {
				if impl.CoversMode(a, b) && impl.CoversMode(b, c) && !impl.CoversMode(a, c) {
					t.Errorf("%d covers %d, which covers %d, but not that", a, b, c)
				}
			}
		}
	}
}

func TestJointModeIsTheLeastThatCoversBoth(t *testing.T) {
	for a := range int64(modeCount) {
		for b := range int64(modeCount) {
			joint := impl.JoinModes(a, b)
			if joint.Code != impl.OK || !impl.CoversMode(joint.Value, a) || !impl.CoversMode(joint.Value, b) {
				t.Fatalf("JoinModes(%d, %d): %v does not cover both", a, b, joint)
			}
			for m := range int64(modeCount) {
				if impl.CoversMode(m, a) && impl.CoversMode(m, b) && !impl.CoversMode(m, joint.Value) {
					t.Errorf("JoinModes(%d, %d): %d covers both, but not %d", a, b, m, joint.Value)
				}
			}
		}
	}
}

func TestJointModeOfBothOrders(t *testing.T) {
	for a := range int64(modeCount) {
		if got := impl.JoinModes(a, a); got != (impl.IntResult{Value: a}) {
			t.Errorf("JoinModes of %d with itself: %v", a, got)
		}
		for b := range int64(modeCount) {
			one, other := impl.JoinModes(a, b), impl.JoinModes(b, a)
			if one != other {
				t.Errorf("JoinModes of %d and %d: %v, and the other way round %v", a, b, one, other)
			}
			if impl.CoversMode(a, b) != (one.Value == a) {
				t.Errorf("JoinModes(%d, %d): %v, where covering is %v", a, b, one, impl.CoversMode(a, b))
			}
		}
	}
}

// TestJointModeOfThree has a lock that is asked for step by step: in which order must not matter.
func TestJointModeOfThree(t *testing.T) {
	for a := range int64(modeCount) {
		for b := range int64(modeCount) {
			for c := range int64(modeCount) {
				first := impl.JoinModes(impl.JoinModes(a, b).Value, c)
				last := impl.JoinModes(a, impl.JoinModes(b, c).Value)
				if first != last {
					t.Errorf("JoinModes of %d, %d and %d: %v or %v", a, b, c, first, last)
				}
			}
		}
	}
}
