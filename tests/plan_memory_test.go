package tests

import (
	"math"
	"reflect"
	"sync"
	"testing"

	"loop.example/g00270/impl"
)

// planGiven is all that plans are given.
type planGiven struct {
	Base  []impl.Row
	Progs []impl.Prog
	Plan  impl.Plan
	Picks [][]int64
}

// planAnswers is all that is told of it.
type planAnswers struct {
	Fault int64
	Bound impl.IntResult
	Ended bool
	News  []impl.PlanResult
	Steps []impl.PlanResult
	Runs  []impl.PlanResult
	Drain impl.PlanResult
}

func (a planAnswers) all() []impl.PlanResult {
	var list []impl.PlanResult
	list = append(append(append(list, a.News...), a.Steps...), a.Runs...)
	return append(list, a.Drain)
}

func planCalls(g planGiven) planAnswers {
	got := planAnswers{
		Fault: impl.PlanFault(g.Plan), Bound: impl.BoundOf(g.Plan), Ended: impl.EndedPlan(g.Plan), Drain: impl.DrainPlan(g.Plan),
		News: []impl.PlanResult{impl.NewPlan(g.Base, g.Progs), impl.NewPlan(g.Plan.Engine.Base, g.Plan.Progs), impl.NewPlan(g.Base, nil)},
	}
	for _, pick := range append(numbersTo(-1, int64(min(len(g.Plan.Progs), 9))), math.MinInt64, math.MaxInt64) {
		got.Steps = append(got.Steps, impl.StepPlan(g.Plan, pick))
	}
	for _, picks := range g.Picks {
		got.Runs = append(got.Runs, impl.RunPlan(g.Plan, picks))
	}
	return got
}

// plansAtWork has plans of every kind: new ones, in the middle, at their end, made-up ones, and some with faults.
func plansAtWork(t *testing.T) []impl.Plan {
	t.Helper()
	plans := []impl.Plan{{}, busyPlan(), evenPlan(0), evenPlan(1), evenPlan(8), {Engine: fullEngine()}, {Engine: busyEngine(), Progs: progsNamed("u get 1")}}
	for _, c := range togetherCases() {
		p := newPlan(t, planRows, c.progs)
		plans = append(plans, impl.RunPlan(p, picksNamed(c.ahead)).Plan)
	}
	for _, c := range append(roomCasesOfPlans(), oddCasesOfPlans()...) {
		plans = append(plans, planNamed(c.e, c.progs, c.from))
	}
	for _, progs := range []string{"u put 0 1; put 1 1 | u put 1 2; put 0 2", "s build; find 4 | u put 1 5; put 2 4", "u | s"} {
		p := newPlan(t, planRows, progs)
		plans = append(plans, p, impl.DrainPlan(p).Plan)
	}
	for _, wrong := range progBreaks() {
		p := evenPlan(3)
		wrong.turn(&p, 1)
		plans = append(plans, p)
	}
	return plans
}

// toPlan has each plan with some rows, programs and picks, with codes of their own and without.
func toPlan(t *testing.T) []planGiven {
	t.Helper()
	bases := append([][]impl.Row{rowsNamed(planRows)}, oddBases()...)
	progs := [][]impl.Prog{nil, progsNamed("u get 1; put 2 3 | s pack | u"), progsNamed("u get 100"), make([]impl.Prog, 9), {{Ops: make([]impl.Op, 13)}}, evenPlan(8).Progs}
	lists := append([][]int64{{0, 0, 0, 0}, {0, 1, 0, 1, 0, 1, 1}, {0, 1, 2, 2, 1, 0, 0, 1, 2}}, oddPicks()...)
	var given []planGiven
	for i, p := range plansAtWork(t) {
		g := planGiven{Base: bases[i%len(bases)], Progs: progs[i%len(progs)], Plan: p, Picks: lists}
		if i%2 == 0 {
			g.Base = bases[0]
		}
		given = append(given, g)
	}
	return given
}

func TestPlansStayAndAnswersRepeat(t *testing.T) {
	for _, odd := range toPlan(t) {
		checkStays(t, odd, planCalls)
	}
}

// TestPlansWithFaultsStay has engines with every fault; what they tell is asked elsewhere.
func TestPlansWithFaultsStay(t *testing.T) {
	for _, wrong := range allBreaks() {
		odd := planGiven{Plan: busyPlan(), Picks: oddPicks()}
		wrong.turn(&odd.Plan.Engine)
		given := roomyCopy(odd)
		before := wholeCopy(given)
		planCalls(given)
		if !reflect.DeepEqual(wholeCopy(given), before) {
			t.Fatalf("a plan is changed: %s, %s", wrong.part, wrong.name)
		}
	}
}

func TestAnswersOfPlansAreNewMemory(t *testing.T) {
	for _, odd := range toPlan(t) {
		given := roomyCopy(odd)
		first, second := planCalls(given), planCalls(given)
		for i, got := range first.all() {
			checkApart(t, "a plan", got, given, second.all()[i])
		}
	}
}

func TestAnswersOfPlansStayWhenTheRestTurns(t *testing.T) {
	for _, some := range toPlan(t) {
		checkKept(t, some, planCalls)
	}
}

// TestACodeOfPlansIsAlone has beside a code nothing, and beside none as many Ids and At as programs.
func TestACodeOfPlansIsAlone(t *testing.T) {
	codes, moved := map[int64]int{}, map[bool]int{}
	for _, given := range toPlan(t) {
		calls := planCalls(given)
		for _, got := range calls.all() {
			codes[got.Code]++
			if got.Code != impl.OK && !reflect.DeepEqual(got, impl.PlanResult{Code: got.Code}) {
				t.Fatalf("something beside the code: %v", got)
			}
			if got.Code == impl.OK {
				moved[got.Moved]++
				if count := len(got.Plan.Progs); len(got.Plan.Ids) != count || len(got.Plan.At) != count {
					t.Fatalf("%d programs, and other Ids or At: %v", count, got)
				}
			}
		}
		for _, got := range append(calls.News, append(calls.Steps, calls.Runs...)...) {
			if got.Rounds != 0 {
				t.Fatalf("rounds that are not told here: %v", got)
			}
		}
		for _, got := range calls.News {
			if got.Moved {
				t.Fatalf("a new plan that Moved: %v", got)
			}
		}
		if calls.Bound.Code != calls.Fault || calls.Fault != impl.OK && (calls.Bound.Value != 0 || calls.Ended) {
			t.Fatalf("something beside the code %d: %v, %v", calls.Fault, calls.Bound, calls.Ended)
		}
	}
	for _, code := range []int64{impl.OK, impl.ErrForm, impl.ErrMany, impl.ErrRange} {
		if codes[code] < 20 {
			t.Errorf("the code %d came too seldom: %v", code, codes)
		}
	}
	if moved[true] < 20 || moved[false] < 20 {
		t.Errorf("what Moved and what did not: %v", moved)
	}
}

// TestPlansAskedByManyAtOnce has many ask at the same time, so that nothing can be kept from one call to another unseen.
func TestPlansAskedByManyAtOnce(t *testing.T) {
	given := toPlan(t)
	var want []planAnswers
	for _, g := range given {
		want = append(want, planCalls(g))
	}
	var asking sync.WaitGroup
	wrong := make([]bool, 6)
	for who := range wrong {
		asking.Go(func() {
			for i, g := range given {
				wrong[who] = wrong[who] || !reflect.DeepEqual(planCalls(g), want[i])
			}
		})
	}
	asking.Wait()
	for who, other := range wrong {
		if other {
			t.Errorf("%d of those who asked at once is told something else", who)
		}
	}
}
