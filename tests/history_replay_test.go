package tests

import (
	"math"
	"slices"
	"testing"

	"loop.example/g00270/impl"
)

// replayCase is told by hand: of the rows 1:10 2:20 5:20.
type replayCase struct {
	name, acts string
	commits    []int64
	same       bool
	rows       string
}

func checkReplayCases(t *testing.T, cases []replayCase) {
	t.Helper()
	for _, c := range cases {
		got := replayed(t, rowsNamed("1:10 2:20 5:20"), actsNamed(c.acts), c.commits)
		if want := (impl.ReplayResult{Same: c.same, Rows: rowsNamed(c.rows)}); !same(got, want) {
			t.Errorf("ReplayActs, %s: %v, want %v", c.name, got, want)
		}
	}
}

// TestReplayActsAnswers has each kind of operation with a right and with a wrong Answer.
func TestReplayActsAnswers(t *testing.T) {
	asItWas := "1:10 2:20 5:20"
	for _, c := range []struct {
		op, right, rows string
		wrong           []string
	}{
		{"get 1", "10", asItWas, []string{"", "11", "20", "1", "1 10", "10 10", "10 20", "0"}},
		{"get 5", "20", asItWas, []string{"", "10", "5 20"}},
		{"get 3", "", asItWas, []string{"0", "3", "10", "-1"}},
		{"get 0", "", asItWas, []string{"0", "10"}},
		{"get 99", "", asItWas, []string{"0", "20"}},
		{"scan 0 99", "1 10 2 20 5 20", asItWas, []string{"", "1 10 2 20", "2 20 5 20", "1 10 2 20 5 20 6 30", "2 20 1 10 5 20", "1 10 5 20 2 20", "1 10 2 20 5 21", "1 10 2 20 6 20", "1 2 5", "10 20 20", "1 10 2 20 5"}},
		{"scan 1 5", "1 10 2 20 5 20", asItWas, []string{"1 10 2 20", "2 20"}},
		{"scan 2 4", "2 20", asItWas, []string{"", "1 10 2 20", "2 20 5 20", "20", "2"}},
		{"scan 0 1", "1 10", asItWas, []string{"", "1 10 2 20"}},
		{"scan 5 5", "5 20", asItWas, []string{"", "2 20"}},
		{"scan 3 4", "", asItWas, []string{"3 0", "2 20", "5 20"}},
		{"scan 6 99", "", asItWas, []string{"5 20"}},
		{"scan 5 1", "", asItWas, []string{"1 10 2 20 5 20", "2 20"}},
		{"find 20", "2 5", asItWas, []string{"", "2", "5", "5 2", "2 20 5 20", "1 2 5", "20 20"}},
		{"find 10", "1", asItWas, []string{"", "10", "2"}},
		{"find 0", "", asItWas, []string{"0", "3"}},
		{"find 5", "", asItWas, []string{"5", "2 5"}},
		{"put 1 11", "", "1:11 2:20 5:20", []string{"10", "11", "1", "0"}},
		{"put 3 7", "", "1:10 2:20 3:7 5:20", []string{"7", "0", "3 7"}},
		{"put 0 0", "", "0:0 1:10 2:20 5:20", []string{"0"}},
		{"put 99 9999", "", "1:10 2:20 5:20 99:9999", []string{"9999"}},
		{"delete 2", "", "1:10 5:20", []string{"20", "2", "0"}},
		{"delete 3", "", asItWas, []string{"3", "0"}},
		{"commit", "", asItWas, []string{"1", "0", "7"}},
		{"abort", "", asItWas, []string{"1", "0"}},
		{"clean 2", "", asItWas, []string{"2", "20", "0"}},
		{"clean 3", "", asItWas, []string{"3"}},
		{"pack", "", asItWas, []string{"1 10 2 20 5 20", "0"}},
		{"build", "", asItWas, []string{"1 2 5", "0"}},
	} {
		cases := []replayCase{
			{c.op + ", right", "7 " + c.op + " = " + c.right, []int64{7}, true, c.rows},
			{c.op + ", right, of one who did not commit", "7 " + c.op + " = " + c.right, []int64{8}, true, asItWas},
		}
		for _, wrong := range c.wrong {
			told := c.op + " = " + wrong
			cases = append(cases,
				replayCase{told + ", wrong", "7 " + told, []int64{7}, false, c.rows},
				replayCase{told + ", wrong, right ones around it", "7 get 1 = 10; 7 " + told + "; 7 build; 7 pack", []int64{7}, false, c.rows},
				replayCase{told + ", wrong, of one who did not commit", "7 " + told + "; 8 get 1 = 10", []int64{8, 9}, true, asItWas},
			)
		}
		checkReplayCases(t, cases)
	}
}

// TestReplayActsGoesOn has what one did seen by itself and by those who come behind it, in the order of commits, not of acts.
func TestReplayActsGoesOn(t *testing.T) {
	checkReplayCases(t, []replayCase{
		{"no acts, no commits", "", nil, true, "1:10 2:20 5:20"},
		{"no acts, some commits", "", []int64{1, 2, 3}, true, "1:10 2:20 5:20"},
		{"some acts, no commits", "1 put 1 11; 1 get 1 = 77; 2 delete 5", nil, true, "1:10 2:20 5:20"},
		{"one sees what it put", "1 put 1 11; 1 get 1 = 11; 1 scan 0 2 = 1 11 2 20; 1 find 11 = 1; 1 find 10; 1 commit", []int64{1}, true, "1:11 2:20 5:20"},
		{"one does not see what it puts later", "1 get 1 = 10; 1 put 1 11; 1 commit", []int64{1}, true, "1:11 2:20 5:20"},
		{"one is told what it puts later", "1 get 1 = 11; 1 put 1 11; 1 commit", []int64{1}, false, "1:11 2:20 5:20"},
		{"one is told what it had ahead of its put", "1 put 1 11; 1 get 1 = 10; 1 commit", []int64{1}, false, "1:11 2:20 5:20"},
		{"one does not see what it deleted", "1 delete 2; 1 get 2; 1 scan 0 9 = 1 10 5 20; 1 find 20 = 5", []int64{1}, true, "1:10 5:20"},
		{"one is told what it deleted", "1 delete 2; 1 get 2 = 20", []int64{1}, false, "1:10 5:20"},
		{"one puts what it deleted", "1 delete 2; 1 put 2 5; 1 get 2 = 5; 1 find 5 = 2", []int64{1}, true, "1:10 2:5 5:20"},
		{"one deletes what it put", "1 put 3 5; 1 delete 3; 1 get 3; 1 find 5", []int64{1}, true, "1:10 2:20 5:20"},
		{"one deletes twice", "1 delete 2; 1 delete 2; 1 scan 0 4 = 1 10", []int64{1}, true, "1:10 5:20"},
		{"values alike come and go", "1 put 0 20; 1 find 20 = 0 2 5; 1 delete 2; 1 find 20 = 0 5; 1 put 5 1; 1 find 20 = 0", []int64{1}, true, "0:20 1:10 5:1"},
		{"what tidies up in the midst of it", "1 delete 2; 1 clean 2; 1 get 2; 1 pack; 1 build; 1 find 20 = 5", []int64{1}, true, "1:10 5:20"},
		{"what cleans a key that has a value", "1 clean 2; 1 get 2 = 20; 1 find 20 = 2 5", []int64{1}, true, "1:10 2:20 5:20"},
		{"a find, nothing being built", "1 find 20 = 2 5", []int64{1}, true, "1:10 2:20 5:20"},
		{"an abort of one among commits takes nothing back", "1 put 1 11; 1 abort; 2 get 1 = 11", []int64{1, 2}, true, "1:11 2:20 5:20"},
		{"a commit in the midst of it ends nothing", "1 put 1 11; 1 commit; 1 put 2 21; 1 get 2 = 21", []int64{1}, true, "1:11 2:21 5:20"},
		{"two, one sees the other one's", "1 put 1 11; 1 commit; 2 get 1 = 11; 2 commit", []int64{1, 2}, true, "1:11 2:20 5:20"},
		{"two, the other way round", "1 put 1 11; 1 commit; 2 get 1 = 11; 2 commit", []int64{2, 1}, false, "1:11 2:20 5:20"},
		{"two, the second is first among commits", "1 put 1 11; 2 get 1 = 10; 2 commit; 1 commit", []int64{2, 1}, true, "1:11 2:20 5:20"},
		{"two put one key, the last of commits is there", "1 put 1 11; 2 put 1 12", []int64{1, 2}, true, "1:12 2:20 5:20"},
		{"two put one key, the last of commits is there, not of acts", "1 put 1 11; 2 put 1 12", []int64{2, 1}, true, "1:11 2:20 5:20"},
		{"two by turns", "1 put 1 11; 2 get 2 = 20; 1 put 2 21; 2 get 1 = 10; 1 commit; 2 commit", []int64{2, 1}, true, "1:11 2:21 5:20"},
		{"two by turns, the other way round", "1 put 1 11; 2 get 2 = 20; 1 put 2 21; 2 get 1 = 10; 1 commit; 2 commit", []int64{1, 2}, false, "1:11 2:21 5:20"},
		{"one who is not among commits", "1 put 1 11; 2 get 1 = 10; 1 abort", []int64{2}, true, "1:10 2:20 5:20"},
		{"one who is not among commits is seen", "1 put 1 11; 2 get 1 = 11; 1 abort", []int64{2}, false, "1:10 2:20 5:20"},
		{"one who is not among commits was told something wrong", "1 get 1 = 77; 2 get 1 = 10", []int64{2}, true, "1:10 2:20 5:20"},
		{"one twice, who reads", "1 get 1 = 10; 1 scan 2 9 = 2 20 5 20", []int64{1, 1}, true, "1:10 2:20 5:20"},
		{"one twice, who puts and sees it", "1 put 1 11; 1 get 1 = 11", []int64{1, 1}, true, "1:11 2:20 5:20"},
		{"one twice, who reads and puts", "1 get 1 = 10; 1 put 1 11", []int64{1, 1}, false, "1:11 2:20 5:20"},
		{"one once, who reads and puts", "1 get 1 = 10; 1 put 1 11", []int64{1}, true, "1:11 2:20 5:20"},
		{"one twice, another one between puts it back", "1 get 1 = 10; 1 put 1 11; 2 get 1 = 11; 2 put 1 10", []int64{1, 2, 1}, true, "1:11 2:20 5:20"},
		{"one that has no acts", "1 put 1 11; 3 get 1 = 11", []int64{2, 1, 4, 3, 5}, true, "1:11 2:20 5:20"},
		{"numbers that are none", "1 put 1 11; 3 get 1 = 11", []int64{0, 1, -1, 1000, 3, math.MaxInt64, math.MinInt64}, true, "1:11 2:20 5:20"},
		{"numbers that would be some, if they were cut", "1 put 1 11; 3 get 1 = 77", []int64{256 + 1, 1<<16 + 3, 1<<32 + 1, -1<<32 + 3, 1<<62 + 1}, true, "1:10 2:20 5:20"},
		{"the greatest transaction", "999 put 1 11; 999 get 1 = 11; 998 get 1 = 10", []int64{998, 999}, true, "1:11 2:20 5:20"},
		{"all rows are deleted", "1 delete 1; 2 delete 2; 3 delete 5; 4 scan 0 99; 4 find 20", []int64{1, 2, 3, 4}, true, ""},
		{"the first one of three was told something wrong", "1 get 1; 2 put 2 1; 3 get 2 = 1", []int64{1, 2, 3}, false, "1:10 2:1 5:20"},
		{"the last one of three was told something wrong", "1 get 1 = 10; 2 put 2 1; 3 get 2 = 20", []int64{1, 2, 3}, false, "1:10 2:1 5:20"},
		{"all rows are told, with something wrong ahead of them", "1 get 1 = 77; 1 put 0 1; 2 put 3 3; 2 delete 5", []int64{1, 2}, false, "0:1 1:10 2:20 3:3"},
		{"who scanned ahead of one who put", "1 scan 0 9 = 1 10 2 20 5 20; 2 put 3 3; 1 scan 0 9 = 1 10 2 20 5 20", []int64{1, 2}, true, "1:10 2:20 3:3 5:20"},
		{"who scanned around one who put", "1 scan 0 9 = 1 10 2 20 5 20; 2 put 3 3; 1 scan 0 9 = 1 10 2 20 3 3 5 20", []int64{1, 2}, false, "1:10 2:20 3:3 5:20"},
		{"who found ahead of one who put", "1 find 20 = 2 5; 2 put 3 20; 2 commit; 1 find 20 = 2 5", []int64{1, 2}, true, "1:10 2:20 3:20 5:20"},
		{"each lost what the other one put", "1 get 1 = 10; 2 get 1 = 10; 1 put 1 11; 2 put 1 12", []int64{1, 2}, false, "1:12 2:20 5:20"},
		{"each read what the other one wrote", "1 get 1 = 10; 2 get 2 = 20; 1 put 2 10; 2 put 1 20", []int64{1, 2}, false, "1:20 2:10 5:20"},
	})
}

// TestReplayActsBases has as few and as many rows as there may be.
func TestReplayActsBases(t *testing.T) {
	for _, base := range someBases() {
		if got := replayed(t, base, nil, nil); !same(got, impl.ReplayResult{Same: true, Rows: base}) {
			t.Fatalf("ReplayActs of %v and nothing: %v", base, got)
		}
		var all []int64
		for _, r := range base {
			all = append(all, r.Key, r.Value)
		}
		acts := []impl.Act{act(1, scanOf(0, 99), all...), act(1, putOf(50, 7)), act(1, impl.Op{Kind: impl.OpDelete, Key: 51}), act(1, getOf(50), 7), act(1, getOf(51))}
		got := replayed(t, base, acts, []int64{1})
		if !got.Same || !same(got.Rows, committedRows(base, acts, []int64{1})) {
			t.Fatalf("ReplayActs of %v: %v", base, got)
		}
	}
	var acts []impl.Act
	for key := range int64(100) {
		acts = append(acts, act(key+1, putOf(99-key, key)))
	}
	if got := replayed(t, nil, acts, numbersTo(1, 40)); !got.Same || len(got.Rows) != 40 || got.Rows[0] != row(60, 39) || got.Rows[39] != row(99, 0) {
		t.Errorf("ReplayActs of puts that fall: %v", got)
	}
	full := replayed(t, manyRows(99), []impl.Act{act(1, putOf(99, 1)), act(1, putOf(98, 2))}, []int64{1})
	if len(full.Rows) != 100 || full.Rows[99] != row(99, 1) || full.Rows[98] != row(98, 2) {
		t.Errorf("ReplayActs up to as many rows as there are keys: %v", full)
	}
}

// everyAct has a few acts, of which every short list is made.
func everyAct() []impl.Act {
	return actsNamed("1 put 5 50; 2 put 5 1; 1 get 5 = 50; 2 get 5 = 1; 2 delete 5; 2 scan 0 9 = 5 50; 1 find 1 = 5; 1 commit; 2 abort; 1 clean 5")
}

// TestEveryShortListOfActs holds every list of up to four acts against a second telling of the document, with some commits.
func TestEveryShortListOfActs(t *testing.T) {
	base := rowsNamed("5:50")
	orders := [][]int64{nil, {1}, {2}, {1, 2}, {2, 1}, {1, 2, 1}, {2, 3}}
	lists := [][]impl.Act{nil}
	right, wrong := map[bool]int{}, map[bool]int{}
	for range 4 {
		var longer [][]impl.Act
		for _, acts := range lists {
			for _, a := range everyAct() {
				longer = append(longer, append(slices.Clone(acts), a))
			}
		}
		for i, acts := range longer {
			right[strict(t, acts)]++
			writes(t, acts, int64(i%3+1))
			commits := orders[i%len(orders)]
			got := impl.ReplayActs(base, acts, commits)
			if want := wantedReplay(base, acts, commits); !same(got, want) {
				t.Fatalf("ReplayActs of %v and %v: %v, want %v", acts, commits, got, want)
			}
			wrong[got.Same]++
		}
		lists = longer
	}
	if right[true] < 1000 || right[false] < 1000 || wrong[true] < 1000 || wrong[false] < 1000 {
		t.Errorf("strict and not: %v; the same and not: %v", right, wrong)
	}
}

// toldActs has acts as they come, of which each was told what it would have been, if all came in the order of the list; some were told something else.
func toldActs(next func(int64) int64, base []impl.Row, txns, keys int64) []impl.Act {
	var acts []impl.Act
	rows := base
	odd := next(3) == 0
	for range next(40) {
		a := act(next(txns)+1, someOp(next, next(3) == 0, keys))
		a.Answer = toldBy(storeOf(rows), a.Op)
		if odd && next(10) == 0 {
			a.Answer = append(a.Answer, next(9))
		}
		acts = append(acts, a)
		rows = committedRows(rows, acts[len(acts)-1:], []int64{a.Txn})
	}
	return acts
}

// TestMadeUpActs has longer lists as they come, against a second telling of the document, and with a number that is often a fault.
func TestMadeUpActs(t *testing.T) {
	next := numbersFrom(1414)
	bases := someBases()
	came, codes := map[string]int{}, map[int64]int{}
	for range 3000 {
		base := anyOf(next, bases)
		txns, keys := []int64{1, 2, 3, 9}[next(4)], []int64{1, 3, 9, 100}[next(4)]
		acts := toldActs(next, base, txns, keys)
		var commits []int64
		for range next(2 * txns) {
			commits = append(commits, next(txns)+1)
		}
		came[map[bool]string{true: "strict", false: "not strict"}[strict(t, acts)]]++
		came[map[bool]string{true: "the same", false: "not the same"}[replayed(t, base, acts, commits).Same]]++
		for txn := range txns + 2 {
			writes(t, acts, txn)
		}
		if len(acts) == 0 {
			continue
		}
		odd := &acts[next(int64(len(acts)))]
		*[]*int64{&odd.Txn, &odd.Op.Kind, &odd.Op.Key, &odd.Op.High, &odd.Op.Value}[next(5)] = anyOf(next, []int64{-1, 0, 11, 100, 1000, 10000})
		codes[replayed(t, base, acts, commits).Code]++
		strict(t, acts)
		writes(t, acts, 1)
	}
	checkCame(t, came, "strict", "not strict", "the same", "not the same")
	if codes[impl.OK] < 100 || codes[impl.ErrForm] < 100 || codes[impl.ErrRange] < 100 {
		t.Errorf("the codes that came: %v", codes)
	}
}

// TestReplayedAsAnswerOf holds what is told of rows against what AnswerOf tells of a store of these rows, of which an index is built.
func TestReplayedAsAnswerOf(t *testing.T) {
	for _, base := range someBases()[:130] {
		built := impl.BuildEngine(impl.NewEngine(base).Engine).Engine
		for _, text := range []string{"get 0", "get 7", "get 99", "scan 0 99", "scan 3 50", "scan 9 3", "find 0", "find 7", "find 9999", "put 7 1", "delete 7", "clean 7", "pack", "build", "commit", "abort"} {
			o := opNamed(text)
			told := impl.AnswerOf(built, o)
			right := impl.ReplayActs(base, []impl.Act{act(1, o, told.List...)}, []int64{1})
			wrong := impl.ReplayActs(base, []impl.Act{act(1, o, append(told.List, 7)...)}, []int64{1})
			if told.Code != impl.OK || !right.Same || wrong.Same {
				t.Fatalf("%s of %v: %v is right %v, with one more %v", text, base, told, right, wrong)
			}
		}
	}
}

// TestActsInARowReplayedInTwo cuts acts of those who came one behind the other anywhere: the first ones and then the others do what all do at once.
func TestActsInARowReplayedInTwo(t *testing.T) {
	base := rowsNamed("1:10 2:20 5:20")
	acts := actsNamed("3 put 1 11; 3 get 1 = 11; 3 commit; 1 scan 0 9 = 1 11 2 20 5 20; 1 delete 2; 1 find 20 = 5; 1 commit; 2 put 2 7; 2 put 9 7; 2 find 7 = 2 9; 2 commit; 4 get 2 = 7; 4 delete 5; 4 commit")
	commits := []int64{3, 1, 2, 4}
	whole := replayed(t, base, acts, commits)
	if !whole.Same || !same(whole.Rows, rowsNamed("1:11 2:7 9:7")) {
		t.Fatalf("all at once: %v", whole)
	}
	for at := range len(acts) + 1 {
		first := replayed(t, base, acts[:at], commits)
		second := replayed(t, first.Rows, acts[at:], commits)
		if !first.Same || !second.Same || !same(second.Rows, whole.Rows) {
			t.Errorf("the first %d, then the others: %v, %v, want %v", at, first, second, whole)
		}
	}
}
