package tests

import (
	"math"
	"slices"
	"testing"

	"loop.example/g00270/impl"
)

func repeatedAct(a impl.Act, count int) []impl.Act {
	return slices.Repeat([]impl.Act{a}, count)
}

// oddCommits has as many commits as there may be, and more, and numbers that are none.
func oddCommits() [][]int64 {
	return [][]int64{nil, {1}, {2, 1}, make([]int64, 40), make([]int64, 41), {0, -1, 1000, math.MinInt64, math.MaxInt64}}
}

// checkActsCode asks all that take acts; with a code they tell it alone, whatever else they are given.
func checkActsCode(t *testing.T, name string, acts []impl.Act, want int64) {
	t.Helper()
	if code := wantedActsCode(acts); code != want {
		t.Fatalf("what is leant on elsewhere tells %d, %s, want %d", code, name, want)
	}
	if want == impl.OK {
		strict(t, acts)
		if got := replayed(t, nil, acts, []int64{1}); got.Code != impl.OK {
			t.Fatalf("ReplayActs, %s: %v, want no code", name, got)
		}
		if got := writes(t, acts, 1); got.Code != impl.OK {
			t.Fatalf("WritesOf, %s: %v, want no code", name, got)
		}
		return
	}
	if impl.StrictActs(acts) {
		t.Fatalf("StrictActs, %s, with the code %d", name, want)
	}
	for _, txn := range append(wrongTxns(), 1, 2, 999) {
		if got := impl.WritesOf(acts, txn); !same(got, impl.IntsResult{Code: want}) {
			t.Fatalf("WritesOf %d, %s: %v, want the code %d", txn, name, got, want)
		}
	}
	for _, base := range [][]impl.Row{nil, {row(1, 1)}, {ghost(5)}, {row(100, 0)}, manyRows(101), manyRows(241)} {
		for _, commits := range oddCommits() {
			if got := impl.ReplayActs(base, acts, commits); !same(got, impl.ReplayResult{Code: want}) {
				t.Fatalf("ReplayActs of %d rows and %d commits, %s: %v, want the code %d", len(base), len(commits), name, got, want)
			}
		}
	}
}

func TestActsCodes(t *testing.T) {
	get, put := act(1, getOf(5)), act(1, putOf(5, 1))
	noTxn, noKind, noKey := act(1000, getOf(5)), act(1, impl.Op{Kind: 11}), act(1, getOf(100))
	noField := act(1, impl.Op{Kind: impl.OpGet, Key: 5, High: 1})
	for _, c := range []struct {
		name string
		acts []impl.Act
		want int64
	}{
		{"none", nil, impl.OK},
		{"one", []impl.Act{get}, impl.OK},
		{"199", repeatedAct(get, 199), impl.OK},
		{"200", repeatedAct(get, 200), impl.OK},
		{"201", repeatedAct(get, 201), impl.OK},
		{"219", repeatedAct(put, 219), impl.OK},
		{"220", repeatedAct(get, 220), impl.OK},
		{"220 that change something", repeatedAct(put, 220), impl.OK},
		{"221", repeatedAct(get, 221), impl.ErrMany},
		{"221 that change something", repeatedAct(put, 221), impl.ErrMany},
		{"very many", repeatedAct(get, 100000), impl.ErrMany},
		{"221 of nobody", make([]impl.Act, 221), impl.ErrMany},
		{"220 of nobody", make([]impl.Act, 220), impl.ErrRange},
		{"221, the first one of nobody", append([]impl.Act{noTxn}, repeatedAct(get, 220)...), impl.ErrMany},
		{"221, the first one of no kind", append([]impl.Act{noKind}, repeatedAct(get, 220)...), impl.ErrMany},
		{"221, the last one out of bounds", append(repeatedAct(get, 220), noKey), impl.ErrMany},
		{"220, the first one of nobody", append([]impl.Act{noTxn}, repeatedAct(get, 219)...), impl.ErrRange},
		{"220, the last one of nobody", append(repeatedAct(get, 219), noTxn), impl.ErrRange},
		{"220, the last one of no kind", append(repeatedAct(get, 219), noKind), impl.ErrForm},
		{"220, the last one out of bounds", append(repeatedAct(get, 219), noKey), impl.ErrRange},
		{"220, one between with a field that it has not", slices.Concat(repeatedAct(get, 100), []impl.Act{noField}, repeatedAct(put, 119)), impl.ErrForm},
		{"of nobody", []impl.Act{noTxn}, impl.ErrRange},
		{"of no kind", []impl.Act{noKind}, impl.ErrForm},
		{"a key out of bounds", []impl.Act{noKey}, impl.ErrRange},
		{"a field that it has not", []impl.Act{noField}, impl.ErrForm},
		{"nothing at all", []impl.Act{{}}, impl.ErrRange},
		{"of nobody and of no kind", []impl.Act{{Txn: 0, Op: impl.Op{Kind: 11}}}, impl.ErrRange},
		{"of nobody with a field that it has not", []impl.Act{{Txn: 1000, Op: impl.Op{Kind: impl.OpCommit, Key: 1}}}, impl.ErrRange},
		{"of no kind and out of bounds", []impl.Act{act(1, impl.Op{Kind: 0, Key: 100})}, impl.ErrForm},
		{"out of bounds with a field that it has not", []impl.Act{act(1, impl.Op{Kind: impl.OpGet, Key: 100, High: 1})}, impl.ErrRange},
		{"one of nobody, then one of no kind", []impl.Act{get, noTxn, noKind}, impl.ErrRange},
		{"one of no kind, then one of nobody", []impl.Act{get, noKind, noTxn}, impl.ErrForm},
		{"one with a field that it has not, then one of nobody", []impl.Act{noField, get, noTxn}, impl.ErrForm},
		{"one with a field that it has not, then one out of bounds", []impl.Act{noField, noKey}, impl.ErrForm},
		{"one out of bounds, then one with a field that it has not", []impl.Act{noKey, noField}, impl.ErrRange},
		{"one out of bounds, then one of no kind", []impl.Act{put, noKey, noKind}, impl.ErrRange},
		{"one of no kind, then one out of bounds", []impl.Act{put, noKind, noKey}, impl.ErrForm},
		{"one that is not strict, then one of no kind", append(actsNamed("1 put 5 1; 2 get 5"), noKind), impl.ErrForm},
		{"one behind its end, then one of nobody", append(actsNamed("1 commit; 1 get 5"), noTxn), impl.ErrRange},
	} {
		checkActsCode(t, c.name, c.acts, c.want)
	}
}

// actsWithOne has one act alone, ahead of others and behind them.
func actsWithOne(a impl.Act) [][]impl.Act {
	return [][]impl.Act{{a}, {a, act(1, getOf(5))}, append(actsNamed("1 put 5 7; 2 get 6"), a), append(actsNamed("1 commit"), a, act(2, getOf(7)))}
}

// TestActsOutOfBounds has each number of an act leave its bounds.
func TestActsOutOfBounds(t *testing.T) {
	check := func(a impl.Act, want int64) {
		t.Helper()
		for _, acts := range actsWithOne(a) {
			checkActsCode(t, "an act out of bounds", acts, want)
		}
		if want != impl.OK {
			checkActsCode(t, "two acts out of bounds", []impl.Act{a, {}}, want)
			checkActsCode(t, "two acts out of bounds", []impl.Act{a, act(1, impl.Op{Kind: 11})}, want)
		}
	}
	for _, txn := range wrongTxns() {
		for _, text := range []string{"get 5", "put 5 1", "commit", "pack", "get 100"} {
			check(act(txn, opNamed(text)), impl.ErrRange)
		}
		check(act(txn, impl.Op{Kind: 11}), impl.ErrRange)
	}
	for _, txn := range []int64{1, 2, 20, 21, 220, 998, 999} {
		check(act(txn, getOf(5)), impl.OK)
	}
	for _, kind := range wrongKinds() {
		check(act(1, impl.Op{Kind: kind}), impl.ErrForm)
		check(act(999, impl.Op{Kind: kind, Key: 100}), impl.ErrForm)
	}
	for kind, fields := range fieldsByKind() {
		for _, field := range opFieldsOf() {
			for _, number := range []int64{math.MinInt64, -1, 0, field.bound, field.bound + 1, math.MaxInt64} {
				o := impl.Op{Kind: kind}
				*field.of(&o) = number
				want := wantedOpFault(o)
				has := slices.Contains([]byte(fields), field.name[0])
				if has && isOut(number, 0, field.bound) != (want == impl.ErrRange) || !has && (number != 0) != (want == impl.ErrForm) {
					t.Fatalf("what is leant on elsewhere tells %d of %v", want, o)
				}
				check(act(2, o), want)
			}
		}
	}
	for _, answer := range [][]int64{nil, {}, {math.MinInt64}, {math.MaxInt64, -1, 10000}, make([]int64, 5000)} {
		check(act(1, getOf(5), answer...), impl.OK)
	}
}

func TestWritesOfAsksTheActsFirst(t *testing.T) {
	right := actsNamed("1 put 5 7; 2 delete 6; 999 put 7 1")
	for _, txn := range wrongTxns() {
		for _, acts := range [][]impl.Act{nil, right, repeatedAct(right[0], 220)} {
			if got := impl.WritesOf(acts, txn); !same(got, impl.IntsResult{Code: impl.ErrRange}) {
				t.Errorf("WritesOf %d: %v, want ErrRange", txn, got)
			}
		}
		for _, wrong := range [][]impl.Act{{act(1, impl.Op{Kind: 11})}, {act(1, impl.Op{Kind: impl.OpPut, Key: 1, High: 1})}} {
			if got := impl.WritesOf(wrong, txn); !same(got, impl.IntsResult{Code: impl.ErrForm}) {
				t.Errorf("WritesOf %d, with an act of a wrong form: %v, want ErrForm", txn, got)
			}
		}
		if got := impl.WritesOf(repeatedAct(right[0], 221), txn); !same(got, impl.IntsResult{Code: impl.ErrMany}) {
			t.Errorf("WritesOf %d, of too many: %v, want ErrMany", txn, got)
		}
	}
	for txn, want := range map[int64][]int64{1: {5}, 2: {6}, 3: nil, 998: nil, 999: {7}} {
		if got := impl.WritesOf(right, txn); !same(got, impl.IntsResult{List: want}) {
			t.Errorf("WritesOf %d: %v, want %v", txn, got, want)
		}
	}
}

// TestReplayActsCodes: behind those of the acts come those of MapOfRows, then that of ghosts, then that of commits.
func TestReplayActsCodes(t *testing.T) {
	for _, c := range basesCases() {
		for _, acts := range [][]impl.Act{nil, actsNamed("1 put 5 7; 1 get 5 = 7; 2 delete 5; 1 commit"), repeatedAct(act(1, putOf(5, 1)), 220)} {
			for count := range 45 {
				commits := make([]int64, count)
				want := c.want
				if want == impl.OK && count > 40 {
					want = impl.ErrMany
				}
				got := impl.ReplayActs(c.rows, acts, commits)
				if got.Code != want || want != impl.OK && !same(got, impl.ReplayResult{Code: want}) {
					t.Fatalf("ReplayActs, %s, with %d commits: %v, want the code %d", c.name, count, got, want)
				}
			}
		}
		if got := impl.ReplayActs(c.rows, repeatedAct(act(1, getOf(5)), 221), nil); !same(got, impl.ReplayResult{Code: impl.ErrMany}) {
			t.Fatalf("ReplayActs, %s, with too many acts: %v", c.name, got)
		}
		if got := impl.ReplayActs(c.rows, []impl.Act{act(1, impl.Op{Kind: 11})}, make([]int64, 41)); !same(got, impl.ReplayResult{Code: impl.ErrForm}) {
			t.Fatalf("ReplayActs, %s, with an act of no kind: %v", c.name, got)
		}
		if got := impl.ReplayActs(c.rows, []impl.Act{act(0, getOf(5))}, nil); !same(got, impl.ReplayResult{Code: impl.ErrRange}) {
			t.Fatalf("ReplayActs, %s, with an act of nobody: %v", c.name, got)
		}
	}
}

// TestReplayActsOfManyCommits has as many commits as there may be, each of which does something, and one more.
func TestReplayActsOfManyCommits(t *testing.T) {
	var acts []impl.Act
	for txn := int64(1); txn <= 41; txn++ {
		var told []int64
		if txn > 1 {
			told = []int64{txn - 1}
		}
		acts = append(acts, act(txn, getOf(5), told...), act(txn, putOf(5, txn)))
	}
	for count, want := range map[int64]impl.ReplayResult{
		1: {Same: true, Rows: rowsNamed("5:1")}, 39: {Same: true, Rows: rowsNamed("5:39")}, 40: {Same: true, Rows: rowsNamed("5:40")}, 41: {Code: impl.ErrMany},
	} {
		if got := replayed(t, nil, acts, numbersTo(1, count)); !same(got, want) {
			t.Errorf("ReplayActs of %d commits: %v, want %v", count, got, want)
		}
	}
	for _, commits := range [][]int64{make([]int64, 41), make([]int64, 100000), slices.Repeat([]int64{1}, 41), slices.Repeat([]int64{-1}, 41)} {
		if got := replayed(t, nil, acts, commits); !same(got, impl.ReplayResult{Code: impl.ErrMany}) {
			t.Errorf("ReplayActs of %d commits: %v", len(commits), got)
		}
	}
	many := slices.Concat(repeatedAct(act(1, scanOf(0, 99)), 219), repeatedAct(act(1, putOf(1, 1)), 1))
	if got := impl.ReplayActs(nil, many, slices.Repeat([]int64{1}, 40)); !same(got, impl.ReplayResult{Rows: rowsNamed("1:1")}) {
		t.Errorf("ReplayActs of as much as there may be: %v", got)
	}
}
