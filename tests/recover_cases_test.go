package tests

import (
	"slices"
	"testing"

	"loop.example/g00270/impl"
)

// fallingRecs has a record of a kind of each transaction from high down to low.
func fallingRecs(kind, high, low int64) []impl.Rec {
	var recs []impl.Rec
	for txn := high; txn >= low; txn-- {
		recs = append(recs, plain(kind, txn))
	}
	return recs
}

func numbersTo(low, high int64) []int64 {
	var numbers []int64
	for n := low; n <= high; n++ {
		numbers = append(numbers, n)
	}
	return numbers
}

func TestCommittedOfCases(t *testing.T) {
	for _, c := range []struct {
		name, recs string
		want       []int64
	}{
		{"no records", "", nil},
		{"none committed", "begin 1; set 1 5 - 7; back 1 5 7 -; end 1; begin 2", nil},
		{"one", "begin 1; set 1 5 - 7; commit 1", []int64{1}},
		{"some of several", "begin 1; begin 2; begin 3; commit 1; end 2; set 3 5 - 7; begin 4; commit 4", []int64{1, 4}},
		{"in the order of their LogCommits", "begin 1; begin 2; begin 3; commit 3; commit 1; commit 2", []int64{3, 1, 2}},
		{"in the order of their LogCommits, not of their beginnings", "begin 2; begin 3; begin 1; commit 3; commit 1; commit 2", []int64{3, 1, 2}},
		{"one that has two of them", "commit 2; commit 2", []int64{2}},
		{"one that has two of them, another one between", "commit 2; commit 1; commit 2", []int64{2, 1}},
		{"two that have two of them each", "commit 2; commit 1; commit 1; commit 2; commit 3", []int64{2, 1, 3}},
		{"one that never began", "commit 7", []int64{7}},
		{"one that began behind it", "commit 7; begin 7", []int64{7}},
		{"one that has a LogEnd as well", "begin 1; end 1; commit 1; end 1", []int64{1}},
		{"the greatest number and the least", "commit 999; commit 1", []int64{999, 1}},
		{"of numbers that are alike in a byte", "commit 1; commit 257; commit 513", []int64{1, 257, 513}},
	} {
		recs := recsNamed(c.recs)
		if got := impl.CommittedOf(recs); !same(got, impl.IntsResult{List: c.want}) {
			t.Errorf("CommittedOf, %s: %v, want %v", c.name, got, c.want)
		}
		redo(t, nil, recs)
	}
	falling := numbersTo(200, 999)
	slices.Reverse(falling)
	if got := impl.CommittedOf(fallingRecs(impl.LogCommit, 999, 200)); !same(got, impl.IntsResult{List: falling}) {
		t.Errorf("CommittedOf 800 that fall: %v", got)
	}
}

func TestLosersOfCases(t *testing.T) {
	for _, c := range []struct {
		name, recs string
		want       []int64
	}{
		{"no records", "", nil},
		{"one that began alone", "begin 1", []int64{1}},
		{"one that did something", "begin 1; set 1 5 - 7; set 1 6 - 7", []int64{1}},
		{"one that took all of it back", "begin 1; set 1 5 - 7; back 1 5 7 -", []int64{1}},
		{"with a LogCommit", "begin 1; commit 1", nil},
		{"with a LogEnd", "begin 1; end 1", nil},
		{"with both", "begin 1; commit 1; end 1", nil},
		{"with both, the other way round", "begin 1; end 1; commit 1", nil},
		{"with a LogCommit ahead of its beginning", "commit 1; begin 1", nil},
		{"with a LogEnd ahead of its beginning", "end 1; begin 1", nil},
		{"with both ahead of its beginning", "end 1; commit 1; begin 1", nil},
		{"one that began twice", "begin 1; begin 1", []int64{1}},
		{"one that began twice, something between", "begin 2; begin 1; begin 2", []int64{1, 2}},
		{"one that began twice, a LogCommit between", "begin 1; commit 1; begin 1", nil},
		{"one that began twice, a LogEnd between", "begin 1; end 1; begin 1", nil},
		{"one that never began", "set 1 5 - 7; back 1 5 7 -", nil},
		{"the LogCommit of another one", "begin 1; commit 2", []int64{1}},
		{"the LogEnd of another one", "begin 2; end 1", []int64{2}},
		{"several, falling", "begin 3; begin 2; begin 1", []int64{1, 2, 3}},
		{"several, as they come", "begin 2; begin 3; begin 5; begin 1; begin 4; commit 3; end 5", []int64{1, 2, 4}},
		{"the greatest number and the least", "begin 999; begin 1; begin 998", []int64{1, 998, 999}},
		{"of numbers that are alike in a byte", "begin 513; begin 1; begin 257; commit 257", []int64{1, 513}},
	} {
		recs := recsNamed(c.recs)
		if got := impl.LosersOf(recs); !same(got, impl.IntsResult{List: c.want}) {
			t.Errorf("LosersOf, %s: %v, want %v", c.name, got, c.want)
		}
		if got := redo(t, nil, recs); !slices.Equal(got.List, c.want) {
			t.Errorf("RedoRows, %s: %v, want the list %v", c.name, got, c.want)
		}
	}
	for range 5 {
		if got := impl.LosersOf(fallingRecs(impl.LogBegin, 999, 200)); !same(got, impl.IntsResult{List: numbersTo(200, 999)}) {
			t.Fatalf("LosersOf 800 that fall: %v", got)
		}
	}
}

// redoCase tells by hand what comes of rows and records.
type redoCase struct {
	name, base, recs, rows string
	losers                 []int64
}

func checkRedoCases(t *testing.T, cases []redoCase) {
	t.Helper()
	for _, c := range cases {
		want := impl.RecoverResult{List: c.losers, Rows: rowsNamed(c.rows)}
		if got := redo(t, rowsNamed(c.base), recsNamed(c.recs)); !same(got, want) {
			t.Errorf("RedoRows, %s: %v, want %v", c.name, got, want)
		}
		if got := recovered(t, rowsNamed(c.base), recsData(recsNamed(c.recs)...)); !same(got, want) {
			t.Errorf("RecoverRows, %s: %v, want %v", c.name, got, want)
		}
	}
}

func TestRedoRowsDoneAgain(t *testing.T) {
	checkRedoCases(t, []redoCase{
		{"nothing", "", "", "", nil},
		{"no records", "0:0 5:50 99:9999", "", "0:0 5:50 99:9999", nil},
		{"no records that change something", "1:10", "begin 1; commit 1; begin 2; end 2; begin 3", "1:10", []int64{3}},
		{"a LogSet of a new key", "1:10", "begin 1; set 1 5 - 7; commit 1", "1:10 5:7", nil},
		{"a LogSet of a new key ahead of all", "1:10", "begin 1; set 1 0 - 7; commit 1", "0:7 1:10", nil},
		{"a LogSet of one that is there", "1:10 5:50", "begin 1; set 1 5 50 7; commit 1", "1:10 5:7", nil},
		{"a LogSet to the value 0", "5:50", "begin 1; set 1 5 50 0; commit 1", "5:0", nil},
		{"a LogSet to have none", "1:10 5:50", "begin 1; set 1 5 50 -; commit 1", "1:10", nil},
		{"a LogSet to have none, of one that has 0", "5:0", "begin 1; set 1 5 0 -; commit 1", "", nil},
		{"a LogSet to have none, of one that has none", "1:10", "begin 1; set 1 5 - -; commit 1", "1:10", nil},
		{"a LogBack of a new key", "1:10", "begin 1; back 1 5 - 7; end 1", "1:10 5:7", nil},
		{"a LogBack of one that is there", "1:10 5:50", "begin 1; back 1 5 50 7; end 1", "1:10 5:7", nil},
		{"a LogBack to have none", "1:10 5:50", "begin 1; back 1 5 50 -; end 1", "1:10", nil},
		{"a LogBack to have none, of one that has none", "1:10", "begin 1; back 1 5 - -; end 1", "1:10", nil},
		{"of one that committed, what was before is not asked", "5:50", "begin 1; set 1 5 20 7; back 1 6 30 8; commit 1", "5:7 6:8", nil},
		{"of one that ended", "5:50", "begin 1; set 1 5 50 7; set 1 6 - 8; end 1", "5:7 6:8", nil},
		{"of one that ended and took it back", "5:50", "begin 1; set 1 5 50 7; set 1 6 - 8; back 1 6 8 -; back 1 5 7 50; end 1", "5:50", nil},
		{"of one that never began", "5:50", "set 1 5 50 7; back 1 6 - 8", "5:7 6:8", nil},
		{"of one that lost: a LogBack", "5:50", "begin 1; back 1 5 50 7; back 1 6 - 8", "5:7 6:8", []int64{1}},
		{"of one that lost: a LogSet that was taken back already", "5:50", "begin 1; set 1 5 50 7; back 1 6 - 8", "5:7 6:8", []int64{1}},
		{"the last record of a key counts", "5:50", "set 3 5 50 1; set 2 5 1 2; set 1 5 2 3", "5:3", nil},
		{"the last record of a key counts, whatever its kind", "5:50", "set 1 5 50 1; back 3 5 1 2; set 2 5 2 3; back 1 5 3 4", "5:4", nil},
		{"gone and there again", "5:50", "set 1 5 50 -; set 1 5 - 8", "5:8", nil},
		{"there and gone again", "", "set 1 5 - 8; back 1 5 8 -", "", nil},
		{"a key of each end, the greatest values", "", "set 1 99 - 9999; set 1 0 - 9999", "0:9999 99:9999", nil},
		{"rows in order of their keys", "50:1", "set 1 70 - 2; set 1 60 - 3; set 1 10 - 4; set 2 30 - 5; set 1 90 - 6; set 1 20 - 7", "10:4 20:7 30:5 50:1 60:3 70:2 90:6", nil},
	})
}

func TestRedoRowsTakenBack(t *testing.T) {
	checkRedoCases(t, []redoCase{
		{"one that lost", "5:50", "begin 1; set 1 5 50 7", "5:50", []int64{1}},
		{"what was before is asked of the record, not of the rows", "5:50", "begin 1; set 1 5 20 7", "5:20", []int64{1}},
		{"one that had nothing before", "1:10", "begin 1; set 1 5 - 7", "1:10", []int64{1}},
		{"one that had nothing before, though the rows have it", "5:50", "begin 1; set 1 5 - 7", "", []int64{1}},
		{"one that had 0 before", "", "begin 1; set 1 5 0 7", "5:0", []int64{1}},
		{"one that has nothing then", "5:50", "begin 1; set 1 5 50 -", "5:50", []int64{1}},
		{"one that had nothing and has nothing", "5:50", "begin 1; set 1 5 - -", "", []int64{1}},
		{"several keys", "1:10 2:20", "begin 1; set 1 1 10 11; set 1 2 20 -; set 1 3 - 31", "1:10 2:20", []int64{1}},
		{"one key several times, from the last to the first", "5:50", "begin 1; set 1 5 50 1; set 1 5 1 2; set 1 5 2 3", "5:50", []int64{1}},
		{"one key several times, the first had nothing", "", "begin 1; set 1 5 - 1; set 1 5 1 -; set 1 5 - 3", "", []int64{1}},
		{"a LogSet ahead of its LogBegin", "5:50", "set 1 5 20 7; begin 1", "5:20", []int64{1}},
		{"one that began twice", "5:50", "begin 1; set 1 5 20 7; begin 1", "5:20", []int64{1}},
		{"the greatest number", "5:50", "begin 999; set 999 5 20 7", "5:20", []int64{999}},
		{"one lost, one committed", "1:10 2:20", "begin 1; begin 2; set 1 1 10 11; set 2 2 20 21; set 1 3 - 31; commit 1", "1:11 2:20 3:31", []int64{2}},
		{"what one committed behind it is undone by what lost ahead of it", "5:50", "begin 1; set 1 5 50 1; set 2 5 1 2; commit 2", "5:50", []int64{1}},
		{"two that lost, one key, the first one first", "", "begin 1; begin 2; set 1 5 - 1; set 2 5 1 2", "", []int64{1, 2}},
		{"two that lost, one key, the second one first", "", "begin 1; begin 2; set 2 5 - 1; set 1 5 1 2", "", []int64{1, 2}},
		{"two that lost, one key, by turns", "", "begin 1; begin 2; set 1 5 - 1; set 2 5 1 2; set 1 5 2 3; set 2 5 3 4", "", []int64{1, 2}},
		{"two that lost, one key, by turns the other way", "5:50", "begin 2; begin 1; set 2 5 50 1; set 1 5 1 2; set 2 5 2 3; set 1 5 3 4", "5:50", []int64{1, 2}},
		{"three that lost, several keys among one another", "1:10 2:20", "begin 3; set 3 1 10 1; begin 1; set 1 2 20 2; begin 2; set 2 1 1 3; set 3 2 2 4; set 1 3 - 5; set 2 3 5 6", "1:10 2:20", []int64{1, 2, 3}},
		{"one with a LogEnd is not taken back", "5:50", "begin 1; set 1 5 50 7; end 1", "5:7", nil},
		{"one with a LogEnd ahead of it is not taken back", "5:50", "end 1; begin 1; set 1 5 50 7", "5:7", nil},
		{"one with a LogCommit ahead of it is not taken back", "5:50", "begin 1; commit 1; set 1 5 50 7", "5:7", nil},
		{"one without a LogBegin is not taken back", "5:50", "begin 2; set 1 5 50 7", "5:7", []int64{2}},
	})
}

// TestRedoRowsTakenBackAlready has LogBacks that tell something else than what was before, so that it is seen what is taken back once more.
func TestRedoRowsTakenBackAlready(t *testing.T) {
	checkRedoCases(t, []redoCase{
		{"one of one", "5:50", "begin 1; set 1 5 50 7; back 1 5 7 30", "5:30", []int64{1}},
		{"two of two", "1:10 2:20", "begin 1; set 1 1 10 11; set 1 2 20 21; back 1 2 21 22; back 1 1 11 12", "1:12 2:22", []int64{1}},
		{"one of two: the last one stays", "1:10 2:20", "begin 1; set 1 1 10 11; set 1 2 20 21; back 1 2 21 22", "1:10 2:22", []int64{1}},
		{"one of two, of one key", "5:50", "begin 1; set 1 5 50 1; set 1 5 40 2; back 1 5 2 3", "5:50", []int64{1}},
		{"one of three", "1:10 2:20 3:30", "begin 1; set 1 1 10 11; set 1 2 20 21; set 1 3 30 31; back 1 3 31 32", "1:10 2:20 3:32", []int64{1}},
		{"two of three", "1:10 2:20 3:30", "begin 1; set 1 1 10 11; set 1 2 20 21; set 1 3 30 31; back 1 3 31 32; back 1 2 21 22", "1:10 2:22 3:32", []int64{1}},
		{"three of three", "1:10 2:20 3:30", "begin 1; set 1 1 10 11; set 1 2 20 21; set 1 3 30 31; back 1 3 31 32; back 1 2 21 22; back 1 1 11 12", "1:12 2:22 3:32", []int64{1}},
		{"more than there are", "5:50", "begin 1; set 1 5 50 7; back 1 5 7 8; back 1 5 8 9; back 1 6 - 1", "5:9 6:1", []int64{1}},
		{"more than there are, and another one that lost", "5:50 6:60", "begin 1; begin 2; set 1 5 50 7; set 2 6 60 8; back 1 5 7 8; back 1 5 8 9", "5:9 6:60", []int64{1, 2}},
		{"the keys of LogBacks are not asked", "1:10 2:20", "begin 1; set 1 1 10 11; set 1 2 20 21; back 1 1 11 12", "1:10 2:21", []int64{1}},
		{"LogBacks ahead of the LogSets count", "1:10 2:20", "begin 1; back 1 9 - 5; set 1 1 10 11; set 1 2 20 21", "1:10 2:21 9:5", []int64{1}},
		{"LogBacks between LogSets count for the last ones", "1:10 2:20 3:30", "begin 1; set 1 1 10 11; back 1 9 - 5; set 1 2 20 21; set 1 3 30 31", "1:10 2:20 3:31 9:5", []int64{1}},
		{"LogBacks ahead of the beginning count", "1:10", "back 1 9 - 5; begin 1; set 1 1 10 11", "1:11 9:5", []int64{1}},
		{"LogBacks of one do not count for another", "1:10 2:20", "begin 1; begin 2; set 1 1 10 11; set 2 2 20 21; back 2 9 - 5", "1:10 2:21 9:5", []int64{1, 2}},
		{"LogBacks of one that ended do not count for another", "1:10 2:20", "begin 1; begin 2; set 1 1 10 11; set 2 2 20 21; back 2 9 - 5; end 2", "1:10 2:21 9:5", []int64{1}},
		{"LogBacks of one that never began do not count for another", "1:10", "begin 1; set 1 1 10 11; back 2 9 - 5", "1:10 9:5", []int64{1}},
		{"LogBacks of two that lost, each their own", "1:10 2:20 3:30 4:40", "begin 1; begin 2; set 1 1 10 11; set 2 2 20 21; set 1 3 30 31; set 2 4 40 41; back 1 3 31 32", "1:10 2:20 3:32 4:40", []int64{1, 2}},
		{"LogBacks of two that lost, both", "1:10 2:20 3:30 4:40", "begin 1; begin 2; set 1 1 10 11; set 2 2 20 21; set 1 3 30 31; set 2 4 40 41; back 1 3 31 32; back 2 4 41 42", "1:10 2:20 3:32 4:42", []int64{1, 2}},
		{"LogBacks that are a LogSet of another one again", "5:50", "begin 1; begin 2; set 1 5 50 1; back 1 5 1 50; set 2 5 50 2", "5:50", []int64{1, 2}},
	})
}

// TestRedoRowsUpToAllKeys has as many rows as there are keys: that is no code.
func TestRedoRowsUpToAllKeys(t *testing.T) {
	all := manyRows(100)
	var sets, drops []impl.Rec
	for _, r := range all {
		sets = append(sets, change(impl.LogSet, 1, r.Key, some{}, some{true, r.Value}))
		drops = append(drops, change(impl.LogSet, 2, r.Key, some{true, r.Value}, some{}))
	}
	begin, second := recsNamed("begin 1"), recsNamed("begin 2")
	for _, c := range []struct {
		name string
		base []impl.Row
		recs []impl.Rec
		want impl.RecoverResult
	}{
		{"all of them there", all, nil, impl.RecoverResult{Rows: all}},
		{"all of them set anew", nil, sets, impl.RecoverResult{Rows: all}},
		{"all of them there and set anew", all, sets, impl.RecoverResult{Rows: all}},
		{"all of them set by one that lost", nil, append(begin, sets...), impl.RecoverResult{List: []int64{1}}},
		{"all of them gone", all, drops, impl.RecoverResult{}},
		{"all of them taken by one that lost", all, append(second, drops...), impl.RecoverResult{List: []int64{2}, Rows: all}},
		{"all of them set, and taken by one that lost", nil, slices.Concat(second, sets, drops), impl.RecoverResult{List: []int64{2}, Rows: all}},
		{"all of them but one, which is set", all[:99], sets[99:], impl.RecoverResult{Rows: all}},
		{"as many records as there may be", all, slices.Concat(sets, drops, sets, drops, sets, drops, sets, drops), impl.RecoverResult{}},
	} {
		if got := redo(t, c.base, c.recs); !same(got, c.want) {
			t.Errorf("RedoRows, %s: %v, want %v", c.name, got, c.want)
		}
	}
}

// TestRecoverRowsCutAnywhere has bytes that are cut at each place of each record: those that are whole count.
func TestRecoverRowsCutAnywhere(t *testing.T) {
	recs := recsNamed("begin 1; set 1 5 50 7; begin 2; set 2 6 - 8; commit 1; set 2 1 10 -; back 2 1 - 10; back 2 6 8 -; end 2; begin 3; set 3 5 7 9; commit 3")
	want := []struct {
		rows   string
		losers []int64
	}{
		{"1:10 5:50", nil}, {"1:10 5:50", []int64{1}}, {"1:10 5:50", []int64{1}}, {"1:10 5:50", []int64{1, 2}}, {"1:10 5:50", []int64{1, 2}},
		{"1:10 5:7", []int64{2}}, {"1:10 5:7", []int64{2}}, {"1:10 5:7", []int64{2}}, {"1:10 5:7", []int64{2}},
		{"1:10 5:7", nil}, {"1:10 5:7", []int64{3}}, {"1:10 5:7", []int64{3}}, {"1:10 5:9", nil},
	}
	data, base := recsData(recs...), rowsNamed("1:10 5:50")
	for cut := range len(data) + 1 {
		whole := countOf(data[:cut])
		got := recovered(t, base, data[:cut])
		if !same(got, impl.RecoverResult{List: want[whole].losers, Rows: rowsNamed(want[whole].rows)}) {
			t.Errorf("RecoverRows of the first %d bytes: %v, want %v", cut, got, want[whole])
		}
	}
	if len(want) != len(recs)+1 {
		t.Fatalf("%d are wanted of %d records", len(want), len(recs))
	}
}

// TestRecoverRowsOfWrongBytes turns each byte of each record: the records ahead still count, those behind do not.
func TestRecoverRowsOfWrongBytes(t *testing.T) {
	recs := recsNamed("begin 1; set 1 5 50 7; commit 1; begin 2; set 2 6 - 8; set 2 5 7 -; commit 2; set 3 9 - 1")
	data, base := recsData(recs...), rowsNamed("1:10 5:50")
	ahead := 0
	for i, r := range recs {
		want := redo(t, base, recs[:i])
		for at := range recData(r) {
			for _, turn := range []byte{1, 2, 128, 255} {
				turned := slices.Clone(data)
				turned[ahead+at] ^= turn
				if got := recovered(t, base, turned); !same(got, want) {
					t.Errorf("RecoverRows with the byte %d of the record %d turned: %v, want %v", at, i, got, want)
				}
			}
		}
		ahead += len(recData(r))
	}
	for _, c := range []struct {
		name string
		data []byte
		want string
	}{
		{"no bytes", nil, "1:10 5:50"},
		{"a nought alone", []byte{0}, "1:10 5:50"},
		{"noughts", make([]byte, 100), "1:10 5:50"},
		{"as many noughts as there may be", make([]byte, impl.MaxLog), "1:10 5:50"},
		{"a nought ahead of all", append([]byte{0}, data...), "1:10 5:50"},
		{"a nought behind all", append(slices.Clone(data), 0), "1:10 6:8 9:1"},
		{"records twice", append(slices.Clone(data), data...), "1:10 6:8 9:1"},
		{"a nought, and records behind it", slices.Concat(recsData(recs[:3]...), []byte{0}, recsData(recs[3:]...)), "1:10 5:7"},
		{"without its first byte", data[1:], "1:10 5:50"},
	} {
		if got := recovered(t, base, c.data); !same(got, impl.RecoverResult{Rows: rowsNamed(c.want)}) {
			t.Errorf("RecoverRows, %s: %v, want %v", c.name, got, c.want)
		}
	}
}

// TestRecoverRowsUpToTheFullLog has as many bytes as there may be, and one more.
func TestRecoverRowsUpToTheFullLog(t *testing.T) {
	base := rowsNamed("5:50")
	lost := recsNamed("begin 2; set 2 5 50 7; set 2 6 - 8")
	for _, c := range []struct {
		name string
		data []byte
		want impl.RecoverResult
	}{
		{"800 records", recsData(fallingRecs(impl.LogBegin, 999, 200)...), impl.RecoverResult{List: numbersTo(200, 999), Rows: base}},
		{"800 records and a byte", append(recsData(fallingRecs(impl.LogBegin, 999, 200)...), 0), impl.RecoverResult{Code: impl.ErrMany}},
		{"800 records and one", recsData(fallingRecs(impl.LogBegin, 999, 199)...), impl.RecoverResult{Code: impl.ErrMany}},
		{"full, with one that lost", append(recsData(lost...), logBytes(3973)...), impl.RecoverResult{List: []int64{2}, Rows: wantedRedo(base, append(lost, wantedRecsOf(logBytes(3973))...)).Rows}},
		{"a byte too many, with one that lost", append(recsData(lost...), logBytes(3974)...), impl.RecoverResult{Code: impl.ErrMany}},
		{"a byte too many, none of them a record", make([]byte, 4001), impl.RecoverResult{Code: impl.ErrMany}},
		{"far too many", make([]byte, 100000), impl.RecoverResult{Code: impl.ErrMany}},
	} {
		if got := recovered(t, base, c.data); !same(got, c.want) {
			t.Errorf("RecoverRows, %s: %v, want %v", c.name, got, c.want)
		}
	}
}

func wantedRecsOf(data []byte) []impl.Rec {
	recs, _ := wantedRecs(data)
	return recs
}
