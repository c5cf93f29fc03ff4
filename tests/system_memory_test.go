package tests

import (
	"reflect"
	"sync"
	"testing"

	"loop.example/g00270/impl"
)

// systemGiven is an engine and some lists of operations, all that work of the system is given.
type systemGiven struct {
	Engine impl.Engine
	Lists  [][]impl.Op
}

// systemAnswers is all that work of the system tells of them.
type systemAnswers struct {
	Ghosts impl.IntsResult
	Clean  impl.SystemResult
	Pack   impl.SystemResult
	Build  impl.SystemResult
	Runs   []impl.SystemResult
}

func (a systemAnswers) all() []impl.SystemResult {
	return append([]impl.SystemResult{a.Clean, a.Pack, a.Build}, a.Runs...)
}

func systemCalls(g systemGiven) systemAnswers {
	got := systemAnswers{Ghosts: impl.GhostsOf(g.Engine), Clean: impl.CleanEngine(g.Engine), Pack: impl.PackEngine(g.Engine), Build: impl.BuildEngine(g.Engine)}
	for _, ops := range g.Lists {
		got.Runs = append(got.Runs, impl.RunSystem(g.Engine, ops))
	}
	return got
}

func listsOfWork() [][]impl.Op {
	return [][]impl.Op{
		nil, opsNamed("pack"), opsNamed("clean 5; build"), opsNamed("build; pack; clean 5; clean 7; clean 1"), opsNamed("pack; clean 1; clean 2; clean 3"),
		repeatedOp(opNamed("pack"), 111), opsNamed("clean 100"), opsNamed("pack; get 1"), {{}},
	}
}

// enginesToTidy has engines in which work of the system is done, gives up at once and behind some ops, and has codes of all kinds.
func enginesToTidy(t *testing.T) []systemGiven {
	t.Helper()
	engines := append(enginesAtWork(t), lockedEngine(4, "0 1:ix 2:is 3:is | 6 1:x 2?s 3?s"), lockedEngine(4, "0 1:ix 2?s 3?is 4?x"), lockedEngine(2, "0 1:s"))
	for _, acts := range []int64{196, 198, 199, 200, 220} {
		e := lockedEngine(2, "0 1:is | 8 1:s")
		e.Acts = manyActs(acts)
		engines = append(engines, e)
	}
	engines = append(engines, ghostsAlone(), impl.Engine{Txns: liveTxns(20, 0)}, impl.Engine{Wal: impl.Wal{Sure: logBytes(3991)}}, impl.Engine{Leaves: fullLeaves()})
	var given []systemGiven
	for _, e := range engines {
		given = append(given, systemGiven{e, listsOfWork()})
	}
	return given
}

func TestEnginesToTidyStayAndAnswersRepeat(t *testing.T) {
	for _, odd := range enginesToTidy(t) {
		checkStays(t, odd, systemCalls)
	}
}

// TestEnginesToTidyWithFaultsStay has engines with every fault; what they tell is asked elsewhere.
func TestEnginesToTidyWithFaultsStay(t *testing.T) {
	for _, wrong := range allBreaks() {
		odd := busyEngine()
		wrong.turn(&odd)
		given := roomyCopy(systemGiven{odd, listsOfWork()})
		before := wholeCopy(given)
		systemCalls(given)
		if !reflect.DeepEqual(wholeCopy(given), before) {
			t.Fatalf("an engine is changed: %s, %s", wrong.part, wrong.name)
		}
	}
}

func TestAnswersOfTheSystemAreNewMemory(t *testing.T) {
	for _, odd := range enginesToTidy(t) {
		given := roomyCopy(odd)
		first, second := systemCalls(given), systemCalls(given)
		checkApart(t, "GhostsOf", first.Ghosts, given, second.Ghosts)
		for i, got := range first.all() {
			checkApart(t, "work of the system", got, given, second.all()[i])
		}
	}
}

func TestAnswersOfTheSystemStayWhenTheEngineTurns(t *testing.T) {
	for _, some := range enginesToTidy(t) {
		checkKept(t, some, systemCalls)
	}
}

// TestACodeOfTheSystemIsAlone has beside a code nothing, or the engine as it was at first; and beside no code always an engine with one transaction more.
func TestACodeOfTheSystemIsAlone(t *testing.T) {
	came := map[string]int{}
	for _, given := range enginesToTidy(t) {
		for _, got := range systemCalls(given).all() {
			cameOf(came, given.Engine, got)
			switch {
			case got.Code == impl.OK && len(got.Engine.Txns) != len(given.Engine.Txns)+1:
				t.Fatalf("no code, and nobody began: %v", got)
			case got.Code != impl.OK && got.Done:
				t.Fatalf("a code, and it is done: %v", got)
			case got.Code != impl.OK && !same(got.Engine, impl.Engine{}) && !same(got.Engine, given.Engine):
				t.Fatalf("something beside the code: %v, of %v", got, given.Engine)
			}
		}
	}
	checkCame(t, came, "done", "done beside others", "gave up at once", "gave up behind some", "a code", "a code of an op")
}

// TestTheSameIsToldToManyAtOnce has many ask at the same time, so that nothing can be kept from one call to another unseen.
func TestTheSameIsToldToManyAtOnce(t *testing.T) {
	given := enginesToTidy(t)
	var want []systemAnswers
	for _, g := range given {
		want = append(want, systemCalls(g))
	}
	var asking sync.WaitGroup
	wrong := make([]bool, 8)
	for who := range wrong {
		asking.Go(func() {
			for i, g := range given {
				wrong[who] = wrong[who] || !reflect.DeepEqual(systemCalls(g), want[i])
			}
		})
	}
	asking.Wait()
	for who, other := range wrong {
		if other {
			t.Errorf("%d of those who asked at once is told something else", who)
		}
	}
}
