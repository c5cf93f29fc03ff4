package tests

import (
	"reflect"
	"testing"

	"loop.example/g00270/impl"
)

// engineAnswers is all that is told of an engine, and of its Base as that of a new one.
type engineAnswers struct {
	Fault       int64
	New         impl.EngineResult
	User        impl.EngineResult
	System      impl.EngineResult
	Room        impl.IntResult
	Map         impl.RowsResult
	Systems     impl.IntsResult
	NeedsOfWait []impl.NeedsResult
}

func engineCalls(e impl.Engine) engineAnswers {
	got := engineAnswers{
		Fault:   impl.EngineFault(e),
		New:     impl.NewEngine(e.Base),
		User:    impl.BeginTxn(e, false),
		System:  impl.BeginTxn(e, true),
		Room:    impl.RoomOf(e),
		Map:     impl.MapOf(e),
		Systems: impl.SystemsOf(e),
	}
	for _, t := range e.Txns[:min(len(e.Txns), 30)] {
		got.NeedsOfWait = append(got.NeedsOfWait, impl.NeedsOf(t.Wait))
	}
	return got
}

// oddEngines has engines with and without faults.
func oddEngines() []impl.Engine {
	engines := someEngines()
	for _, wrong := range allBreaks() {
		e := busyEngine()
		wrong.turn(&e)
		engines = append(engines, e)
	}
	return engines
}

func TestEnginesStayAndAnswersRepeat(t *testing.T) {
	for _, odd := range oddEngines() {
		e := roomyCopy(odd)
		before := wholeCopy(e)
		first := engineCalls(e)
		for range 3 {
			if !reflect.DeepEqual(engineCalls(e), first) {
				t.Fatalf("another answer at another call, of %v", odd)
			}
		}
		if !reflect.DeepEqual(wholeCopy(e), before) {
			t.Fatalf("an engine is changed: %v", odd)
		}
		for _, other := range []impl.Engine{bareOf(odd), emptyOf(odd)} {
			if !same(engineCalls(other), first) {
				t.Fatalf("another answer where lists are nil or empty, of %v", odd)
			}
		}
	}
}

func TestAnswersOfEnginesAreNewMemory(t *testing.T) {
	for _, odd := range oddEngines() {
		e := roomyCopy(odd)
		first, second := engineCalls(e), engineCalls(e)
		checkApart(t, "an engine", []any{first}, e, second)
	}
}

// TestAnswersStayWhenTheEngineTurns marks all numbers of an engine, and then those of an answer.
func TestAnswersStayWhenTheEngineTurns(t *testing.T) {
	for _, some := range someEngines() {
		e := roomyCopy(some)
		first, second := engineCalls(e), engineCalls(e)
		want := bareOf(first)
		markReach(reflect.ValueOf(e))
		markReach(reflect.ValueOf(second))
		if !same(first, want) {
			t.Fatalf("an answer turned with its engine or with another one: %v", some)
		}
	}
}

// markReach marks all that is within reach of a value's lists.
func markReach(v reflect.Value) {
	switch v.Kind() {
	case reflect.Slice:
		whole := v.Slice(0, v.Cap())
		for i := range whole.Len() {
			markReach(whole.Index(i))
			markAll(whole.Index(i))
		}
	case reflect.Struct:
		for i := range v.NumField() {
			markReach(v.Field(i))
		}
	}
}

func TestACodeOfAnEngineIsAlone(t *testing.T) {
	for _, odd := range oddEngines() {
		got := engineCalls(odd)
		for _, begun := range []impl.EngineResult{got.New, got.User, got.System} {
			if begun.Code != impl.OK && !reflect.DeepEqual(begun, impl.EngineResult{Code: begun.Code}) {
				t.Fatalf("something beside the code: %v", begun)
			}
			if begun.Waits || begun.Answer != nil || begun.Victims != nil {
				t.Fatalf("something that is not told here: %v", begun)
			}
		}
		if got.New.Id != 0 {
			t.Fatalf("a number of a new store: %v", got.New)
		}
		if got.Fault != impl.OK && (got.Room.Value != 0 || got.Map.Rows != nil || got.Systems.List != nil) {
			t.Fatalf("something beside the code %d: %v", got.Fault, got)
		}
	}
}
