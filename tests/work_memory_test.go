package tests

import (
	"reflect"
	"testing"

	"loop.example/g00270/impl"
)

// workAnswers is all that is told of an engine at work, of some transactions and of some operations.
type workAnswers struct {
	Done    []impl.EngineResult
	Resumed []impl.EngineResult
	States  []impl.IntResult
	Can     []bool
	Answers []impl.IntsResult
}

// workOps has each kind, and some that have faults.
func workOps() []impl.Op {
	ops := []impl.Op{{}, opNamed("get 100")}
	for _, text := range []string{"get 1", "put 3 7", "delete 1", "scan 0 99", "find 3", "commit", "abort", "clean 5", "pack", "build"} {
		ops = append(ops, opNamed(text))
	}
	return ops
}

func workCalls(e impl.Engine) workAnswers {
	var got workAnswers
	for txn := range int64(min(len(e.Txns), 9) + 2) {
		for _, o := range workOps() {
			got.Done = append(got.Done, impl.DoOp(e, txn, o))
		}
		got.Resumed = append(got.Resumed, impl.ResumeTxn(e, txn))
		got.States = append(got.States, impl.StateOf(e, txn))
		got.Can = append(got.Can, impl.CanResume(e, txn))
	}
	for _, o := range workOps() {
		got.Answers = append(got.Answers, impl.AnswerOf(e, o))
	}
	return got
}

// enginesAtWork has engines in which operations are done, wait, and have others or themselves give way.
func enginesAtWork(t *testing.T) []impl.Engine {
	t.Helper()
	circles := lockedEngine(3, "0 1:is 2:s 3:is | 2 1:x 2?s 3?s | 4 3:x")
	circles.Txns[1].Undo = []impl.Before{had(1, 9), hadNone(7)}
	circles.Txns[2].Undo = []impl.Before{had(6, 9)}
	itself := lockedEngine(3, "0 3:is 2:s 1:is | 2 3:x 2?s 1?s | 4 1:x")
	itself.Txns[1].System, itself.Txns[2].Undo = true, []impl.Before{had(1, 9)}
	full := impl.Engine{Leaves: fullLeaves(), Txns: liveTxns(2, 3), Built: true, Index: wantedIndex(fullLeaves()).Pairs}
	engines := []impl.Engine{circles, itself, full, smallEngine(false, true), smallEngine(true, false), busyEngine(), fullEngine(), {}}
	for _, lines := range []string{
		"1 put 0 7; 2 put 1 8; 2 get 0", "1 put 0 7; 2 get 0; 1 commit", "1 put 0 7; 2 get 0; 3 clean 2; 1 abort", "3 build; 3 commit; 1 put 1 3; 2 get 1; 1 put 3 3; 1 delete 1",
	} {
		engines = append(engines, play(t, begun(keyStore(), "uus"), lines).Engine)
	}
	return engines
}

func TestEnginesAtWorkStayAndAnswersRepeat(t *testing.T) {
	for _, odd := range enginesAtWork(t) {
		checkStays(t, odd, workCalls)
	}
}

// TestEnginesWithFaultsStay has engines with every fault; what they tell is asked elsewhere.
func TestEnginesWithFaultsStay(t *testing.T) {
	for _, wrong := range allBreaks() {
		odd := busyEngine()
		wrong.turn(&odd)
		e := roomyCopy(odd)
		before := wholeCopy(e)
		for _, txn := range []int64{0, 1, 8} {
			impl.DoOp(e, txn, opNamed("put 3 7"))
			impl.ResumeTxn(e, txn)
			impl.StateOf(e, txn)
			impl.CanResume(e, txn)
		}
		impl.AnswerOf(e, opNamed("scan 0 99"))
		if !reflect.DeepEqual(wholeCopy(e), before) {
			t.Fatalf("an engine is changed: %s, %s", wrong.part, wrong.name)
		}
	}
}

func TestAnswersOfWorkAreNewMemory(t *testing.T) {
	for _, odd := range enginesAtWork(t) {
		e := roomyCopy(odd)
		first, second := workCalls(e), workCalls(e)
		for i, done := range first.Done {
			checkApart(t, "DoOp", done, e, second.Done[i])
		}
		for i, resumed := range first.Resumed {
			checkApart(t, "ResumeTxn", resumed, e, second.Resumed[i])
		}
		checkApart(t, "AnswerOf", first.Answers, e, second.Answers)
	}
}

func TestAnswersOfWorkStayWhenTheEngineTurns(t *testing.T) {
	for _, some := range enginesAtWork(t) {
		checkKept(t, some, workCalls)
	}
}

// TestACodeOfWorkIsAlone has beside a code nothing, but with ErrVictim who gave way and the engine.
func TestACodeOfWorkIsAlone(t *testing.T) {
	victims := 0
	for _, e := range append(enginesAtWork(t), someEngines()...) {
		calls := workCalls(e)
		for _, got := range append(calls.Done, calls.Resumed...) {
			switch {
			case got.Id != 0 || got.Waits && len(got.Answer) > 0:
				t.Fatalf("something that is not told here: %v", got)
			case got.Code == impl.ErrVictim:
				victims++
				if got.Waits || len(got.Answer) > 0 || len(got.Victims) == 0 || impl.EngineFault(got.Engine) != impl.OK || len(got.Engine.Txns) != len(e.Txns) {
					t.Fatalf("who gave way: %v", got)
				}
			case got.Code != impl.OK && !reflect.DeepEqual(got, impl.EngineResult{Code: got.Code}):
				t.Fatalf("something beside the code: %v", got)
			}
		}
		for _, got := range calls.Answers {
			if got.Code != impl.OK && got.List != nil {
				t.Fatalf("something beside the code: %v", got)
			}
		}
		for _, got := range calls.States {
			if got.Code != impl.OK && got.Value != 0 {
				t.Fatalf("something beside the code: %v", got)
			}
		}
	}
	if victims < 3 {
		t.Errorf("too few gave way themselves: %d", victims)
	}
}
