package tests

import (
	"math"
	"reflect"
	"testing"

	"loop.example/g00270/impl"
)

// historyGiven is all that is given to be looked at.
type historyGiven struct {
	Base    []impl.Row
	Acts    []impl.Act
	Commits []int64
	Engine  impl.Engine
}

// historyAnswers is all that is told of it.
type historyAnswers struct {
	Replayed []impl.ReplayResult
	Writes   []impl.IntsResult
	Strict   []bool
	Touches  []bool
	Serial   bool
	Waits    bool
}

func historyCalls(g historyGiven) historyAnswers {
	got := historyAnswers{
		Replayed: []impl.ReplayResult{impl.ReplayActs(g.Base, g.Acts, g.Commits), impl.ReplayActs(g.Engine.Base, g.Engine.Acts, g.Engine.Commits), impl.ReplayActs(g.Base, g.Acts, nil)},
		Strict:   []bool{impl.StrictActs(g.Acts), impl.StrictActs(g.Engine.Acts)},
		Serial:   impl.SerialEngine(g.Engine),
		Waits:    impl.WaitsRight(g.Engine),
	}
	for _, txn := range []int64{math.MinInt64, 0, 1, 2, 3, 999, 1000, math.MaxInt64} {
		got.Writes = append(got.Writes, impl.WritesOf(g.Acts, txn), impl.WritesOf(g.Engine.Acts, txn))
	}
	for _, a := range g.Acts[:min(len(g.Acts), 20)] {
		for _, key := range []int64{-1, 0, 5, 99, 100} {
			got.Touches = append(got.Touches, impl.TouchesOf(a.Op, key))
		}
	}
	return got
}

// toLookAt has rows, acts, commits and engines with and without faults; each of one kind comes with some of the others.
func toLookAt(t *testing.T) []historyGiven {
	t.Helper()
	texts := []string{
		"", "1 put 5 1", "3 put 9 1; 1 delete 5; 3 delete 2; 3 put 2 7; 3 put 9 8; 3 scan 0 9 = 2 7 9 8; 3 commit; 1 get 5 = 50", "2 commit; 1 get 5 = 50; 2 get 5",
		"1 scan 0 99 = 1 10 5 50 9 90; 1 find 50 = 5; 2 get 1 = 10; 2 put 1 11; 2 commit; 1 commit", "1 clean 5; 1 pack; 1 build; 1 abort; 999 put 99 9999", "1 get 100; 2 get 5", "0 get 5",
	}
	engines := append(append(someEngines(), enginesAtWork(t)...), serialBusy(), lockedEngine(2, "5 1:x 2?s | 6 2:x 1?s"), doneEngine("5:50", "5:1", 2, "1 put 5 1; 1 commit; 2 get 5 = 1; 2 commit"))
	for _, c := range storeCases()[5:15] {
		engines = append(engines, play(t, begun(fiveRows(), c.who), c.lines).Engine)
	}
	bases := append([][]impl.Row{rowsNamed("1:10 5:50 9:90"), manyRows(100)}, oddBases()...)
	orders := append([][]int64{{2, 1, 3}, {3, 1, 2, 999}}, oddCommits()...)
	var given []historyGiven
	for i := range max(len(engines), len(bases), 60) {
		g := historyGiven{Base: bases[i%len(bases)], Acts: actsNamed(texts[i%len(texts)]), Commits: orders[i%len(orders)], Engine: engines[i%len(engines)]}
		switch i % 7 {
		case 1, 4:
			g.Base = bases[0]
		case 2:
			g.Base, g.Acts, g.Commits = bases[0], actsNamed("1 put 5 1; 1 get 5 = 77; 2 delete 9; 3 scan 0 9; 2 commit = 1"), orders[0]
		case 3:
			g.Acts = append(g.Acts, impl.Act{Txn: 1, Op: impl.Op{Kind: int64(i)}})
		case 5:
			g.Acts = repeatedAct(act(1, putOf(int64(i), 7), 1, 2, 3), 220+i%2)
		case 6:
			g.Base, g.Acts = bases[0], g.Engine.Acts
		}
		given = append(given, g)
	}
	return given
}

func TestWhatIsLookedAtStaysAndAnswersRepeat(t *testing.T) {
	for _, odd := range toLookAt(t) {
		checkStays(t, odd, historyCalls)
	}
}

// TestEnginesToLookAtWithFaultsStay has engines with every fault; what they tell is asked elsewhere.
func TestEnginesToLookAtWithFaultsStay(t *testing.T) {
	for _, wrong := range allBreaks() {
		odd := serialBusy()
		wrong.turn(&odd)
		e := roomyCopy(odd)
		before := wholeCopy(e)
		impl.SerialEngine(e)
		impl.WaitsRight(e)
		impl.StrictActs(e.Acts)
		impl.WritesOf(e.Acts, 1)
		impl.ReplayActs(e.Base, e.Acts, e.Commits)
		if !reflect.DeepEqual(wholeCopy(e), before) {
			t.Fatalf("an engine is changed: %s, %s", wrong.part, wrong.name)
		}
	}
}

func TestWhatIsToldOfActsIsNewMemory(t *testing.T) {
	for _, odd := range toLookAt(t) {
		given := roomyCopy(odd)
		first, second := historyCalls(given), historyCalls(given)
		for i, got := range first.Replayed {
			checkApart(t, "ReplayActs", got, given, second, first.Replayed[:i])
		}
		for i, got := range first.Writes {
			checkApart(t, "WritesOf", got, given, second, first.Writes[:i])
		}
	}
}

func TestWhatIsToldOfActsStaysWhenTheRestTurns(t *testing.T) {
	for _, some := range toLookAt(t) {
		checkKept(t, some, historyCalls)
	}
}

// TestACodeOfActsIsAlone has beside a code nothing; beside what is not the Same there are rows still.
func TestACodeOfActsIsAlone(t *testing.T) {
	codes, rows := map[int64]int{}, map[bool]int{}
	for _, given := range toLookAt(t) {
		got := historyCalls(given)
		for _, one := range got.Replayed {
			codes[one.Code]++
			if one.Code != impl.OK && !reflect.DeepEqual(one, impl.ReplayResult{Code: one.Code}) {
				t.Fatalf("something beside the code: %v", one)
			}
			if len(one.Rows) > 0 {
				rows[one.Same]++
			}
		}
		for _, list := range got.Writes {
			if list.Code != impl.OK && !reflect.DeepEqual(list, impl.IntsResult{Code: list.Code}) {
				t.Fatalf("something beside the code: %v", list)
			}
		}
	}
	for _, code := range []int64{impl.OK, impl.ErrForm, impl.ErrMany, impl.ErrRange} {
		if codes[code] < 5 {
			t.Errorf("the code %d came too seldom: %v", code, codes)
		}
	}
	if rows[true] < 5 || rows[false] < 5 {
		t.Errorf("rows with the Same and without: %v", rows)
	}
}
