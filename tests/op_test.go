package tests

import (
	"math"
	"slices"
	"testing"

	"loop.example/g00270/impl"
)

// checkOp holds what is told of an operation against the code that is wanted, and its needs against the document.
func checkOp(t *testing.T, name string, o impl.Op, want int64) {
	t.Helper()
	if got := impl.OpFault(o); got != want || got != wantedOpFault(o) {
		t.Fatalf("OpFault of %v, %s: %d, want %d", o, name, got, want)
	}
	if got := impl.NeedsOf(o); got.Code != want || !same(got, wantedNeeds(o)) {
		t.Fatalf("NeedsOf %v, %s: %v, want %v", o, name, got, wantedNeeds(o))
	}
}

func wrongKinds() []int64 {
	return []int64{math.MinInt64, math.MinInt64 + 1, -1 << 32, -10, -1, 0, 11, 12, 16 + 1, 256 + 1, 1<<32 + 1, 1<<62 + 1, math.MaxInt64}
}

func TestOpFaultOfKinds(t *testing.T) {
	for kind := int64(impl.OpGet); kind <= impl.OpBuild; kind++ {
		checkOp(t, "a kind", impl.Op{Kind: kind}, impl.OK)
	}
	checkOp(t, "nothing at all", impl.Op{}, impl.ErrForm)
	for _, kind := range wrongKinds() {
		checkOp(t, "no kind", impl.Op{Kind: kind}, impl.ErrForm)
		checkOp(t, "no kind, with fields", impl.Op{Kind: kind, Key: 1, High: 1, Value: 1}, impl.ErrForm)
		checkOp(t, "no kind, ahead of a key out of bounds", impl.Op{Kind: kind, Key: 100}, impl.ErrForm)
		checkOp(t, "no kind, ahead of all out of bounds", impl.Op{Kind: kind, Key: -1, High: 100, Value: 10000}, impl.ErrForm)
	}
}

// opField is a field of an operation, and the bound of it where an operation has it.
type opField struct {
	name  string
	bound int64
	of    func(o *impl.Op) *int64
}

func opFieldsOf() []opField {
	return []opField{
		{"k", impl.MaxKey, func(o *impl.Op) *int64 { return &o.Key }},
		{"h", impl.MaxKey, func(o *impl.Op) *int64 { return &o.High }},
		{"v", impl.MaxValue, func(o *impl.Op) *int64 { return &o.Value }},
	}
}

// fieldsByKind is told here once more, so that the table that is leant on elsewhere is asked too.
func fieldsByKind() map[int64]string {
	return map[int64]string{
		impl.OpGet: "k", impl.OpPut: "kv", impl.OpDelete: "k", impl.OpScan: "kh", impl.OpFind: "v",
		impl.OpCommit: "", impl.OpAbort: "", impl.OpClean: "k", impl.OpPack: "", impl.OpBuild: "",
	}
}

func TestOpFaultOfFields(t *testing.T) {
	for kind, fields := range fieldsByKind() {
		for _, field := range opFieldsOf() {
			has := slices.Contains([]byte(fields), field.name[0])
			for _, number := range []int64{math.MinInt64, -256, -1, 0, 1, field.bound - 1, field.bound, field.bound + 1, 1 << 32, math.MaxInt64} {
				o := impl.Op{Kind: kind}
				*field.of(&o) = number
				want := int64(impl.OK)
				if has && (number < 0 || number > field.bound) {
					want = impl.ErrRange
				}
				if !has && number != 0 {
					want = impl.ErrForm
				}
				checkOp(t, "the field "+field.name, o, want)
			}
		}
	}
}

// TestOpFaultAsksBoundsFirst has a field that it has out of its bounds beside one that it has not.
func TestOpFaultAsksBoundsFirst(t *testing.T) {
	for kind, fields := range fieldsByKind() {
		for _, field := range opFieldsOf() {
			for _, other := range opFieldsOf() {
				hasIt, hasOther := slices.Contains([]byte(fields), field.name[0]), slices.Contains([]byte(fields), other.name[0])
				if !hasIt || hasOther {
					continue
				}
				for _, number := range []int64{-1, field.bound + 1, math.MinInt64, math.MaxInt64} {
					for _, beside := range []int64{-1, 1, math.MinInt64, math.MaxInt64} {
						o := impl.Op{Kind: kind}
						*field.of(&o), *other.of(&o) = number, beside
						checkOp(t, "out of bounds beside one that it has not", o, impl.ErrRange)
						*field.of(&o) = field.bound
						checkOp(t, "at its bound beside one that it has not", o, impl.ErrForm)
					}
				}
			}
		}
	}
}

func TestEveryOp(t *testing.T) {
	numbers := []int64{math.MinInt64, -1, 0, 1, 98, 99, 100, 9998, 9999, 10000, math.MaxInt64}
	codes := map[int64]int{}
	for kind := int64(-1); kind <= 12; kind++ {
		for _, key := range numbers {
			for _, high := range numbers {
				for _, value := range numbers {
					o := impl.Op{Kind: kind, Key: key, High: high, Value: value}
					want := wantedOpFault(o)
					checkOp(t, "of every one", o, want)
					codes[want]++
				}
			}
		}
	}
	if codes[impl.OK] == 0 || codes[impl.ErrForm] == 0 || codes[impl.ErrRange] == 0 || len(codes) != 3 {
		t.Errorf("the codes that came: %v", codes)
	}
}

func TestNeedsOfCases(t *testing.T) {
	for _, c := range []struct {
		name string
		op   impl.Op
		want []impl.Need
	}{
		{"get", getOf(7), []impl.Need{{Res: 0, Mode: impl.ModeIs}, {Res: 8, Mode: impl.ModeS}}},
		{"get of the least key", getOf(0), []impl.Need{{Res: 0, Mode: impl.ModeIs}, {Res: 1, Mode: impl.ModeS}}},
		{"get of the greatest key", getOf(99), []impl.Need{{Res: 0, Mode: impl.ModeIs}, {Res: impl.MaxRes, Mode: impl.ModeS}}},
		{"put", putOf(7, 9999), []impl.Need{{Res: 0, Mode: impl.ModeIx}, {Res: 8, Mode: impl.ModeX}}},
		{"put of the least key", putOf(0, 5), []impl.Need{{Res: 0, Mode: impl.ModeIx}, {Res: 1, Mode: impl.ModeX}}},
		{"put of the greatest key", putOf(99, 0), []impl.Need{{Res: 0, Mode: impl.ModeIx}, {Res: 100, Mode: impl.ModeX}}},
		{"delete", impl.Op{Kind: impl.OpDelete, Key: 4}, []impl.Need{{Res: 0, Mode: impl.ModeIx}, {Res: 5, Mode: impl.ModeX}}},
		{"delete of the greatest key", impl.Op{Kind: impl.OpDelete, Key: 99}, []impl.Need{{Res: 0, Mode: impl.ModeIx}, {Res: 100, Mode: impl.ModeX}}},
		{"clean", impl.Op{Kind: impl.OpClean, Key: 50}, []impl.Need{{Res: 0, Mode: impl.ModeIx}, {Res: 51, Mode: impl.ModeX}}},
		{"clean of the greatest key", impl.Op{Kind: impl.OpClean, Key: 99}, []impl.Need{{Res: 0, Mode: impl.ModeIx}, {Res: 100, Mode: impl.ModeX}}},
		{"scan", scanOf(3, 9), []impl.Need{{Res: 0, Mode: impl.ModeS}}},
		{"scan that goes the other way", scanOf(9, 3), []impl.Need{{Res: 0, Mode: impl.ModeS}}},
		{"find", impl.Op{Kind: impl.OpFind, Value: 9999}, []impl.Need{{Res: 0, Mode: impl.ModeS}}},
		{"build", impl.Op{Kind: impl.OpBuild}, []impl.Need{{Res: 0, Mode: impl.ModeS}}},
		{"pack", impl.Op{Kind: impl.OpPack}, []impl.Need{{Res: 0, Mode: impl.ModeIs}}},
		{"commit", impl.Op{Kind: impl.OpCommit}, nil},
		{"abort", impl.Op{Kind: impl.OpAbort}, nil},
	} {
		got := impl.NeedsOf(c.op)
		if !same(got, impl.NeedsResult{Needs: c.want}) {
			t.Errorf("NeedsOf, %s: %v, want %v", c.name, got, c.want)
		}
		if !same(wantedNeeds(c.op), got) {
			t.Errorf("the table that is leant on elsewhere tells %v for %s", wantedNeeds(c.op), c.name)
		}
	}
}

// TestNeedsAreAskedFor asks the locks that are needed one by one of a lock table: each of them is one, and who is alone gets it.
func TestNeedsAreAskedFor(t *testing.T) {
	for kind, form := range opForms() {
		for key := range int64(100) {
			o := impl.Op{Kind: int64(kind)}
			for _, field := range opFieldsOf() {
				if slices.Contains([]byte(form.fields), field.name[0]) {
					*field.of(&o) = key
				}
			}
			var locks []impl.Lock
			for _, need := range impl.NeedsOf(o).Needs {
				asked := impl.AskLock(locks, 1, need.Res, need.Mode)
				if asked.Code != impl.OK || !asked.Granted {
					t.Fatalf("AskLock of the need %v of %v: %v", need, o, asked)
				}
				locks = asked.Locks
			}
		}
	}
}

func TestNeedsAreNewMemory(t *testing.T) {
	for kind := range int64(12) {
		for _, o := range []impl.Op{{Kind: kind}, {Kind: kind, Key: 5}, {Kind: kind, Value: 5}, {Kind: kind, Key: 100}} {
			first, second := impl.NeedsOf(o), impl.NeedsOf(o)
			checkApart(t, "NeedsOf", first, second)
			clear(first.Needs[:cap(first.Needs)])
			for range 3 {
				if again := impl.NeedsOf(o); !same(again, second) || impl.OpFault(o) != second.Code {
					t.Fatalf("NeedsOf %v: %v, then %v", o, second, again)
				}
			}
			if second.Code != impl.OK && second.Needs != nil {
				t.Fatalf("needs beside the code %d", second.Code)
			}
		}
	}
}
