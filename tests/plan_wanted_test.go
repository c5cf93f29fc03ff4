package tests

import (
	"slices"
	"strconv"
	"strings"
	"testing"

	"loop.example/g00270/impl"
)

// progsNamed reads programs with "|" between: "u" for one of a user, "s" for one of the system, then its operations, as "u put 0 1; get 1 | s pack"; an empty text has none.
func progsNamed(text string) []impl.Prog {
	var progs []impl.Prog
	for _, part := range strings.Split(text, "|") {
		whose, ops, _ := strings.Cut(strings.TrimSpace(part), " ")
		if whose != "" {
			progs = append(progs, impl.Prog{System: whose == "s", Ops: opsNamed(ops)})
		}
	}
	return progs
}

// newPlan is one without a code.
func newPlan(t *testing.T, rows, progs string) impl.Plan {
	t.Helper()
	got := impl.NewPlan(rowsNamed(rows), progsNamed(progs))
	if got.Code != impl.OK {
		t.Fatalf("NewPlan of %s: the code %d", progs, got.Code)
	}
	return got.Plan
}

// planNamed puts a plan together: "2/1 0/0" tells of each program its Id and its At.
func planNamed(e impl.Engine, progs, standing string) impl.Plan {
	p := impl.Plan{Engine: e, Progs: progsNamed(progs)}
	for _, word := range strings.Fields(standing) {
		id, at, _ := strings.Cut(word, "/")
		p.Ids, p.At = append(p.Ids, numberOf(id)), append(p.At, numberOf(at))
	}
	return p
}

// standing tells of each program its Id, its At, and what its transaction does: "1/2 done, 0/0 new".
func standing(p impl.Plan) string {
	states := strings.Fields(statesIn(p.Engine))
	var parts []string
	for i, id := range p.Ids {
		state := "new"
		if id != 0 {
			state = states[id-1]
		}
		parts = append(parts, strconv.FormatInt(id, 10)+"/"+strconv.FormatInt(p.At[i], 10)+" "+state)
	}
	return strings.Join(parts, ", ")
}

func picksNamed(text string) []int64 {
	var picks []int64
	for _, word := range strings.Fields(text) {
		picks = append(picks, numberOf(word))
	}
	return picks
}

// wantedProgCode, wantedPlanFault, wantedNewPlan, wantedStep, wantedRun, wantedBound, wantedDrain and wantedEnded tell by the document alone what is answered.
func wantedProgCode(g impl.Prog) int64 {
	if len(g.Ops) > 12 {
		return impl.ErrMany
	}
	for _, o := range g.Ops {
		if code := wantedOpFault(o); code != impl.OK {
			return code
		}
	}
	return impl.OK
}

func wantedPlanFault(p impl.Plan) int64 {
	count := len(p.Progs)
	for _, code := range []int64{
		wantedEngineFault(p.Engine),
		codeIf(count > 8, impl.ErrMany),
		codeIf(len(p.Ids) != count || len(p.At) != count, impl.ErrForm),
	} {
		if code != impl.OK {
			return code
		}
	}
	for i, g := range p.Progs {
		if code := wantedProgCode(g); code != impl.OK {
			return code
		}
		id, at, ops := p.Ids[i], p.At[i], int64(len(g.Ops))
		if isOut(at, 0, ops) || isOut(id, 0, int64(len(p.Engine.Txns))) {
			return impl.ErrRange
		}
		if id != 0 && slices.Contains(p.Ids[:i], id) {
			return impl.ErrTaken
		}
		if id == 0 && at != 0 {
			return impl.ErrForm
		}
		if id == 0 {
			continue
		}
		if own := p.Engine.Txns[id-1]; own.System != g.System || own.State == impl.TxnWaits && at == ops {
			return impl.ErrForm
		}
	}
	return impl.OK
}

func wantedNewPlan(base []impl.Row, progs []impl.Prog) impl.PlanResult {
	store := wantedNew(base)
	if store.Code != impl.OK {
		return impl.PlanResult{Code: store.Code}
	}
	if len(progs) > 8 {
		return impl.PlanResult{Code: impl.ErrMany}
	}
	for _, g := range progs {
		if code := wantedProgCode(g); code != impl.OK {
			return impl.PlanResult{Code: code}
		}
	}
	nothing := make([]int64, len(progs))
	return impl.PlanResult{Plan: impl.Plan{Engine: store.Engine, Progs: progs, Ids: nothing, At: nothing}}
}

func wantedStep(p impl.Plan, pick int64) impl.PlanResult {
	if code := wantedPlanFault(p); code != impl.OK {
		return impl.PlanResult{Code: code}
	}
	if isOut(pick, 0, int64(len(p.Progs))-1) {
		return impl.PlanResult{Code: impl.ErrRange}
	}
	return wantedStepped(p, pick)
}

// wantedStepped asks no fault. Moved is told by what there was and what there is.
func wantedStepped(p impl.Plan, pick int64) impl.PlanResult {
	then := bareOf(p)
	id := p.Ids[pick]
	switch {
	case id == 0:
		if begun := wantedBegin(p.Engine, p.Progs[pick].System); begun.Code == impl.OK {
			then.Engine, then.Ids[pick] = begun.Engine, begun.Id
		}
	case wantedCanResume(p.Engine, id):
		wantedCame(&then, pick, wantedResume(p.Engine, id))
	case p.Engine.Txns[id-1].State == impl.TxnLive:
		next := append(slices.Clone(p.Progs[pick].Ops), opNamed("commit"))[p.At[pick]]
		wantedCame(&then, pick, wantedDo(p.Engine, id, next))
	}
	return impl.PlanResult{Moved: !same(then, p), Plan: then}
}

// wantedCame has the plan as it is behind an operation.
func wantedCame(then *impl.Plan, pick int64, did impl.EngineResult) {
	left := then.At[pick] < int64(len(then.Progs[pick].Ops))
	lives := then.Engine.Txns[then.Ids[pick]-1].State == impl.TxnLive
	switch {
	case did.Code == impl.ErrVictim, did.Code == impl.OK && did.Waits:
		then.Engine = did.Engine
	case did.Code == impl.OK:
		then.Engine = did.Engine
		if left {
			then.At[pick]++
		}
	case left && lives:
		then.At[pick]++
	}
}

func wantedRun(p impl.Plan, picks []int64) impl.PlanResult {
	if code := wantedPlanFault(p); code != impl.OK {
		return impl.PlanResult{Code: code}
	}
	if len(picks) > 200 {
		return impl.PlanResult{Code: impl.ErrMany}
	}
	if slices.ContainsFunc(picks, func(pick int64) bool { return isOut(pick, 0, int64(len(p.Progs))-1) }) {
		return impl.PlanResult{Code: impl.ErrRange}
	}
	then := bareOf(p)
	for _, pick := range picks {
		then = wantedStepped(then, pick).Plan
	}
	return impl.PlanResult{Moved: !same(then, p), Plan: then}
}

func wantedBound(p impl.Plan) impl.IntResult {
	want := impl.IntResult{Code: wantedPlanFault(p)}
	if want.Code == impl.OK {
		for _, g := range p.Progs {
			want.Value += int64(2 + 3*len(g.Ops))
		}
	}
	return want
}

func wantedDrain(p impl.Plan) impl.PlanResult {
	bound := wantedBound(p)
	if bound.Code != impl.OK {
		return impl.PlanResult{Code: bound.Code}
	}
	want := impl.PlanResult{Plan: bareOf(p)}
	for range bound.Value*int64(len(p.Progs)) + 1 {
		then := want.Plan
		for pick := range p.Progs {
			then = wantedStepped(then, int64(pick)).Plan
		}
		if same(then, want.Plan) {
			break
		}
		want.Plan, want.Moved = then, true
		want.Rounds++
	}
	return want
}

func wantedEnded(p impl.Plan) bool {
	if wantedPlanFault(p) != impl.OK {
		return false
	}
	return !slices.ContainsFunc(p.Ids, func(id int64) bool {
		return id == 0 || p.Engine.Txns[id-1].State < impl.TxnDone
	})
}

// checkPlan holds an answer against the one that is wanted; what is told beside no code has no fault.
func checkPlan(t *testing.T, name string, p impl.Plan, got, want impl.PlanResult) {
	t.Helper()
	if !same(got, want) {
		t.Fatalf("%s: %v, want %v; of %v", name, got, want, p)
	}
	if got.Code != impl.OK {
		return
	}
	if code := impl.PlanFault(got.Plan); code != impl.OK {
		t.Fatalf("%s: the plan has the fault %d then: %v", name, code, got)
	}
	if !same(got.Plan.Progs, p.Progs) || !same(got.Plan.Engine.Base, p.Engine.Base) {
		t.Fatalf("%s: the programs or the base are others: %v, of %v", name, got, p)
	}
	if !wantedHasCycle(wantedEdges(p.Engine.Locks).Edges) && impl.HasCycle(impl.EdgesOf(got.Plan.Engine.Locks).Edges) {
		t.Fatalf("%s: there is a circle, where there was none: %v", name, got)
	}
}

// stepped, ranPlan, drained, bounded and ended hold what they are told against the document.
func stepped(t *testing.T, p impl.Plan, pick int64) impl.PlanResult {
	t.Helper()
	got := impl.StepPlan(p, pick)
	checkPlan(t, "StepPlan", p, got, wantedStep(p, pick))
	return got
}

func ranPlan(t *testing.T, p impl.Plan, picks []int64) impl.PlanResult {
	t.Helper()
	got := impl.RunPlan(p, picks)
	checkPlan(t, "RunPlan", p, got, wantedRun(p, picks))
	return got
}

// drained asks as well that there were no more rounds than moves that there can be, and that nothing moves any more.
func drained(t *testing.T, p impl.Plan) impl.PlanResult {
	t.Helper()
	got := impl.DrainPlan(p)
	checkPlan(t, "DrainPlan", p, got, wantedDrain(p))
	if got.Code != impl.OK {
		return got
	}
	if bound := bounded(t, p); got.Rounds > bound || got.Moved != (got.Rounds > 0) {
		t.Fatalf("DrainPlan: %d rounds, and BoundOf is %d; of %v", got.Rounds, bound, p)
	}
	for pick := range p.Progs {
		if more := impl.StepPlan(got.Plan, int64(pick)); more.Moved || !same(more.Plan, got.Plan) {
			t.Fatalf("DrainPlan: the program %d moves behind it: %v, of %v", pick, more, p)
		}
	}
	return got
}

func bounded(t *testing.T, p impl.Plan) int64 {
	t.Helper()
	got := impl.BoundOf(p)
	if want := wantedBound(p); got != want {
		t.Fatalf("BoundOf: %v, want %v; of %v", got, want, p)
	}
	return got.Value
}

func ended(t *testing.T, p impl.Plan) bool {
	t.Helper()
	got := impl.EndedPlan(p)
	if got != wantedEnded(p) {
		t.Fatalf("EndedPlan: %v; of %v", got, p)
	}
	return got
}
