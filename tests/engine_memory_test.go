package tests

import (
	"reflect"
	"testing"

	"loop.example/g00270/impl"
)

// engineAnswers is all that is told of an engine, and of its Base as that of a new one.
type engineAnswers struct {
	Fault       int64
	New         impl.EngineResult
	User        impl.EngineResult
	System      impl.EngineResult
	Room        impl.IntResult
	Map         impl.RowsResult
	Systems     impl.IntsResult
	NeedsOfWait []impl.NeedsResult
}

func engineCalls(e impl.Engine) engineAnswers {
	got := engineAnswers{
		Fault:   impl.EngineFault(e),
		New:     impl.NewEngine(e.Base),
		User:    impl.BeginTxn(e, false),
		System:  impl.BeginTxn(e, true),
		Room:    impl.RoomOf(e),
		Map:     impl.MapOf(e),
		Systems: impl.SystemsOf(e),
	}
	for _, t := range e.Txns[:min(len(e.Txns), 30)] {
		got.NeedsOfWait = append(got.NeedsOfWait, impl.NeedsOf(t.Wait))
	}
	return got
}

// oddEngines has engines with and without faults.
func oddEngines() []impl.Engine {
	engines := someEngines()
	for _, wrong := range allBreaks() {
		e := busyEngine()
		wrong.turn(&e)
		engines = append(engines, e)
	}
	return engines
}

func TestEnginesStayAndAnswersRepeat(t *testing.T) {
	for _, odd := range oddEngines() {
		checkStays(t, odd, engineCalls)
	}
}

func TestAnswersOfEnginesAreNewMemory(t *testing.T) {
	for _, odd := range oddEngines() {
		e := roomyCopy(odd)
		first, second := engineCalls(e), engineCalls(e)
		checkApart(t, "an engine", []any{first}, e, second)
	}
}

func TestAnswersStayWhenTheEngineTurns(t *testing.T) {
	for _, some := range someEngines() {
		checkKept(t, some, engineCalls)
	}
}

func TestACodeOfAnEngineIsAlone(t *testing.T) {
	for _, odd := range oddEngines() {
		got := engineCalls(odd)
		for _, begun := range []impl.EngineResult{got.New, got.User, got.System} {
			if begun.Code != impl.OK && !reflect.DeepEqual(begun, impl.EngineResult{Code: begun.Code}) {
				t.Fatalf("something beside the code: %v", begun)
			}
			if begun.Waits || begun.Answer != nil || begun.Victims != nil {
				t.Fatalf("something that is not told here: %v", begun)
			}
		}
		if got.New.Id != 0 {
			t.Fatalf("a number of a new store: %v", got.New)
		}
		if got.Fault != impl.OK && (got.Room.Value != 0 || got.Map.Rows != nil || got.Systems.List != nil) {
			t.Fatalf("something beside the code %d: %v", got.Fault, got)
		}
	}
}
