package tests

import (
	"slices"
	"strings"
	"testing"

	"loop.example/g00270/impl"
)

// someProgs has users more often than the system, few keys, and scans now and then, so that many are in one another's way, at the whole and at keys.
func someProgs(next func(int64) int64, count, longest, keys int64) []impl.Prog {
	var progs []impl.Prog
	for range count {
		g := impl.Prog{System: next(4) == 0}
		for range next(longest + 1) {
			o := someOp(next, g.System, keys)
			if next(6) == 0 {
				o = scanOf(0, 99)
			}
			g.Ops = append(g.Ops, o)
		}
		progs = append(progs, g)
	}
	return progs
}

// somePlan is a new one, with an index built in it now and then.
func somePlan(t *testing.T, next func(int64) int64, longest int64) impl.Plan {
	t.Helper()
	keys := []int64{2, 3, 4, 6, 20}[next(5)]
	got := impl.NewPlan(manyRows(next(8)), someProgs(next, next(8)+1, longest, keys))
	if got.Code != impl.OK {
		t.Fatalf("NewPlan: %v", got)
	}
	if next(3) == 0 {
		got.Plan.Engine = impl.BuildEngine(got.Plan.Engine).Engine
	}
	return got.Plan
}

func somePicks(next func(int64) int64, p impl.Plan, count int64) []int64 {
	var picks []int64
	for range count {
		picks = append(picks, next(int64(len(p.Progs))))
	}
	return picks
}

// cameOfStep counts what a step came to; got was held against the document already.
func cameOfStep(came map[string]int, p impl.Plan, pick int64, got impl.PlanResult) {
	before, after := p.Engine, got.Plan.Engine
	id := p.Ids[pick]
	if id == 0 {
		came["begun"]++
		return
	}
	was, is := before.Txns[id-1].State, after.Txns[id-1].State
	name := map[int64]string{impl.TxnLive: "lives", impl.TxnWaits: "waits", impl.TxnDone: "done", impl.TxnGone: "gone"}
	came[name[was]+", "+name[is]+map[bool]string{true: ", moved"}[got.Moved]]++
	if got.Moved && same(before, after) {
		came["passed over"]++
	}
	if p.At[pick] == int64(len(p.Progs[pick].Ops)) && is == impl.TxnDone && was == impl.TxnLive {
		came["a commit at the end"]++
	}
	gone := strings.Count(statesIn(after), "gone") - strings.Count(statesIn(before), "gone")
	if gone > 0 && is != impl.TxnGone {
		came["another one gave way"]++
	}
}

// checkOneMoved asks that a step left all others where they stood, but for those who gave way.
func checkOneMoved(t *testing.T, p impl.Plan, pick int64, got impl.PlanResult) {
	t.Helper()
	for place, id := range p.Ids {
		if int64(place) == pick {
			continue
		}
		if got.Plan.Ids[place] != id || got.Plan.At[place] != p.At[place] {
			t.Fatalf("%d was picked, and %d stands otherwise: %v, of %v", pick, place, got, p)
		}
		if id == 0 {
			continue
		}
		was, is := p.Engine.Txns[id-1], got.Plan.Engine.Txns[id-1]
		if !same(was, is) && is.State != impl.TxnGone {
			t.Fatalf("%d was picked, and the transaction %d was %v, and is %v", pick, id, was, is)
		}
	}
	if at := got.Plan.At[pick] - p.At[pick]; at < 0 || at > 1 {
		t.Fatalf("At went from %d to %d", p.At[pick], got.Plan.At[pick])
	}
}

// TestPlansPicked is promise 16: whatever is picked a plan has no fault; and what promise 15 says of a store holds in it.
func TestPlansPicked(t *testing.T) {
	came := map[string]int{}
	for seed := range uint32(200) {
		next := numbersFrom(seed + 1600)
		p := somePlan(t, next, 6)
		for left := 60; left > 0 && !ended(t, p); left-- {
			pick := next(int64(len(p.Progs)))
			got := stepped(t, p, pick)
			checkOneMoved(t, p, pick, got)
			cameOfStep(came, p, pick, got)
			if got.Moved {
				checkLooksSerial(t, got.Plan.Engine)
			}
			p = got.Plan
		}
	}
	checkCame(t, came, "begun", "lives, lives, moved", "lives, waits, moved", "lives, done, moved", "lives, gone, moved", "waits, waits", "waits, waits, moved",
		"waits, lives, moved", "done, done", "gone, gone", "passed over", "a commit at the end", "another one gave way")
	for _, never := range []string{"lives, lives", "done, done, moved", "gone, gone, moved", "waits, done, moved"} {
		if came[never] > 0 {
			t.Errorf("%s: %d times", never, came[never])
		}
	}
}

// TestPicksInTwoParts is promise 16: cut at each place, picks come to the same.
func TestPicksInTwoParts(t *testing.T) {
	for seed := range uint32(25) {
		next := numbersFrom(seed + 1700)
		p := somePlan(t, next, 5)
		picks := somePicks(next, p, 10+next(30))
		whole := ranPlan(t, p, picks)
		for cut := range len(picks) + 1 {
			first := impl.RunPlan(p, picks[:cut])
			second := impl.RunPlan(first.Plan, picks[cut:])
			if first.Code != impl.OK || second.Code != impl.OK || !same(second.Plan, whole.Plan) || (first.Moved || second.Moved) != whole.Moved {
				t.Fatalf("picks %v cut at %d: %v, want %v", picks, cut, second, whole)
			}
		}
		one := p
		for _, pick := range picks {
			one = impl.StepPlan(one, pick).Plan
		}
		if !same(one, whole.Plan) {
			t.Fatalf("picks %v one by one: %v, want %v", picks, one, whole)
		}
	}
}

// TestAsManyPicksAsThereMayBe has 200 at once, with those that nothing comes of among them.
func TestAsManyPicksAsThereMayBe(t *testing.T) {
	for seed := range uint32(6) {
		next := numbersFrom(seed + 1750)
		p := somePlan(t, next, 12)
		picks := somePicks(next, p, 200)
		whole := ranPlan(t, p, picks)
		for _, cut := range []int{0, 1, 100, 199, 200} {
			if got := impl.RunPlan(impl.RunPlan(p, picks[:cut]).Plan, picks[cut:]); !same(got.Plan, whole.Plan) {
				t.Fatalf("200 picks cut at %d: %v, want %v", cut, got, whole)
			}
		}
	}
}

// TestRunPlanTellsWhetherSomethingMoved has the only pick that does stand at each place.
func TestRunPlanTellsWhetherSomethingMoved(t *testing.T) {
	p := ranPlan(t, newPlan(t, planRows, "u | u get 0 | u put 0 1"), []int64{0, 0}).Plan
	for at := range 6 {
		picks := make([]int64, 6)
		picks[at] = 1
		got := ranPlan(t, p, picks)
		if !got.Moved || standing(got.Plan) != "1/0 done, 2/0 live, 0/0 new" {
			t.Errorf("RunPlan of %v: %v, %s", picks, got.Moved, standing(got.Plan))
		}
	}
	if got := ranPlan(t, p, make([]int64, 200)); got.Moved || !same(got.Plan, p) {
		t.Errorf("RunPlan of one that is done: %v", got)
	}
	if got := ranPlan(t, p, nil); got.Moved || !same(got.Plan, p) {
		t.Errorf("RunPlan of no picks: %v", got)
	}
}

// checkEveryOrder goes on by each pick that moves something, until none does: so every order of picks is asked that leads anywhere.
func checkEveryOrder(t *testing.T, p impl.Plan, came map[string]int) {
	t.Helper()
	moves := 0
	for pick := range int64(len(p.Progs)) {
		got := stepped(t, p, pick)
		if !got.Moved {
			continue
		}
		moves++
		checkEveryOrder(t, got.Plan, came)
	}
	came["plans"]++
	if moves > 0 {
		return
	}
	if !ended(t, p) {
		t.Fatalf("nothing moves, and not all are at their end: %s", standing(p))
	}
	came[statesIn(p.Engine)]++
	checkLooksSerial(t, p.Engine)
	checkEndOfAll(t, p.Engine)
}

func TestEveryOrderOfPicks(t *testing.T) {
	came := map[string]int{}
	for _, progs := range []string{
		"u put 0 1; put 1 1 | u put 1 2; put 0 2", "u get 0; put 0 1 | u get 0; put 0 2", "u scan 0 9; put 0 1 | u put 1 1; get 0", "s clean 0; get 1 | u delete 1; get 0",
		"u scan 0 9; put 0 7 | u scan 0 9; put 1 7", "s build; find 4 | u put 1 5; find 5", "u put 0 1; abort | u get 0; commit", "u put 0 1 | u put 0 2 | u get 0", "u put 0 1; get 1 | s clean 1; get 0",
		"u scan 0 9 | u put 0 7 | s clean 0", "u pack; put 0 1 | s put 0 1; clean 0", "u | s | u put 0 1; delete 0", "u get 0; get 1; put 1 1 | u put 0 1; put 1 2",
	} {
		checkEveryOrder(t, newPlan(t, planRows, progs), came)
	}
	checkCame(t, came, "plans", "done done", "done gone", "gone done", "done done done")
}

// TestEveryTwoPrograms has each two programs of up to two operations: all picked in turns, and one first and then the other one.
func TestEveryTwoPrograms(t *testing.T) {
	var progs []string
	ops := []string{"put 0 1", "get 0", "put 1 2", "scan 0 1", "delete 1", "abort", "find 3"}
	for _, first := range append(ops, "") {
		for _, second := range append(ops, "") {
			progs = append(progs, "u "+first+";"+second)
		}
	}
	progs = append(progs, "s clean 0; get 1", "s build; get 0", "s clean 1; scan 0 9", "s pack; clean 0")
	states := map[string]int{}
	for _, one := range progs {
		for _, other := range progs {
			p := newPlan(t, planRows, one+"|"+other)
			in := impl.DrainPlan(p)
			if !impl.EndedPlan(in.Plan) || !impl.SerialEngine(in.Plan.Engine) || in.Rounds > impl.BoundOf(p).Value {
				t.Fatalf("%s | %s: %d rounds, %s", one, other, in.Rounds, standing(in.Plan))
			}
			states[statesIn(in.Plan.Engine)]++
			behind := impl.RunPlan(p, picksNamed("0 0 0 0 1 1 1 1"))
			if !impl.EndedPlan(behind.Plan) || behind.Plan.Ids[0] != 1 || behind.Plan.Ids[1] != 2 || !impl.SerialEngine(behind.Plan.Engine) {
				t.Fatalf("%s, then %s: %s", one, other, standing(behind.Plan))
			}
			if more := impl.DrainPlan(behind.Plan); more.Rounds != 0 || !same(more.Plan, behind.Plan) {
				t.Fatalf("%s, then %s, then in turns: %s", one, other, standing(more.Plan))
			}
		}
	}
	checkCame(t, states, "done done", "done gone", "gone done", "gone gone")
}

// checkDrained is promise 16 of a plan that came of a new one, in which there is room for all: each comes to its end.
func checkDrained(t *testing.T, p impl.Plan, came map[string]int) {
	t.Helper()
	got := drained(t, p)
	if !ended(t, got.Plan) {
		t.Fatalf("not all came to their end: %s", standing(got.Plan))
	}
	if most := impl.BoundOf(p).Value*int64(len(p.Progs)) + 1; got.Rounds > most {
		t.Fatalf("%d rounds, and no more than %d are told", got.Rounds, most)
	}
	checkLooksSerial(t, got.Plan.Engine)
	checkEndOfAll(t, got.Plan.Engine)
	for place, g := range p.Progs {
		state := got.Plan.Engine.Txns[got.Plan.Ids[place]-1].State
		ends := slices.ContainsFunc(g.Ops, isEnding)
		if state == impl.TxnDone && !ends && got.Plan.At[place] != int64(len(g.Ops)) {
			t.Fatalf("%d committed ahead of its end: %s", place, standing(got.Plan))
		}
		came[map[int64]string{impl.TxnDone: "done", impl.TxnGone: "gone"}[state]]++
	}
	came["drained"]++
	if got.Rounds > int64(2+len(slices.MaxFunc(p.Progs, func(a, b impl.Prog) int { return len(a.Ops) - len(b.Ops) }).Ops)) {
		came["more rounds than without waiting"]++
	}
}

// TestPlansComeToTheirEnd has new plans, long ones and short ones, and plans in which some were picked already.
func TestPlansComeToTheirEnd(t *testing.T) {
	came := map[string]int{}
	for seed := range uint32(36) {
		next := numbersFrom(seed + 1800)
		p := somePlan(t, next, []int64{1, 3, 6, 12}[next(4)])
		if next(2) == 0 {
			p = impl.RunPlan(p, somePicks(next, p, next(50))).Plan
			came["from the middle"]++
		}
		checkDrained(t, p, came)
	}
	checkCame(t, came, "drained", "from the middle", "done", "gone", "more rounds than without waiting")
}

// TestTheMostComeToTheirEnd has as many programs of as many operations as there may be.
func TestTheMostComeToTheirEnd(t *testing.T) {
	came := map[string]int{}
	for seed := range uint32(3) {
		next := numbersFrom(seed + 1900)
		var progs []impl.Prog
		for range impl.MaxProgs {
			g := impl.Prog{}
			for range 12 {
				g.Ops = append(g.Ops, someWriting(next, []int64{3, 40, 90}[seed]))
			}
			progs = append(progs, g)
		}
		checkDrained(t, impl.NewPlan(manyRows(20), progs).Plan, came)
	}
	if came["drained"] != 3 || came["done"] == 0 || came["gone"] == 0 {
		t.Errorf("what came: %v", came)
	}
}

// TestRingsComeToTheirEnd has rings of every number of programs: just one gives way, of the system if there is one, and all others commit.
func TestRingsComeToTheirEnd(t *testing.T) {
	for count := 2; count <= impl.MaxProgs; count++ {
		for _, system := range []int{-1, 0, count / 2, count - 1} {
			var progs []impl.Prog
			for place := range int64(count) {
				g := impl.Prog{Ops: []impl.Op{putOf(place, 1), getOf((place + 1) % int64(count))}}
				if int(place) == system {
					g = impl.Prog{System: true, Ops: []impl.Op{{Kind: impl.OpClean, Key: place}, g.Ops[1]}}
				}
				progs = append(progs, g)
			}
			p := impl.NewPlan(manyRows(8), progs).Plan
			got := drained(t, p)
			gone := system
			if system < 0 {
				gone = count - 1
			}
			for place := range count {
				state, at := got.Plan.Engine.Txns[place].State, got.Plan.At[place]
				if place == gone && (state != impl.TxnGone || at != 1) || place != gone && (state != impl.TxnDone || at != 2) {
					t.Fatalf("a ring of %d, %d of the system: %s", count, system, standing(got.Plan))
				}
			}
			if !ended(t, got.Plan) || len(got.Plan.Engine.Commits) != count-1 {
				t.Fatalf("a ring of %d, %d of the system: %v committed", count, system, got.Plan.Engine.Commits)
			}
		}
	}
}

// TestEachOpTakesNoMoreMovesThanAreTold counts, in plans of which all but one are in its way, how often one moves: 2 and 3 for each of its Ops are enough.
func TestEachOpTakesNoMoreMovesThanAreTold(t *testing.T) {
	most := 0
	for seed := range uint32(60) {
		next := numbersFrom(seed + 2000)
		p := somePlan(t, next, 4)
		moves := make([]int, len(p.Progs))
		for range 40 {
			for range len(p.Progs) {
				pick := next(int64(len(p.Progs)))
				got := impl.StepPlan(p, pick)
				if got.Moved {
					moves[pick]++
				}
				p = got.Plan
			}
		}
		for place, count := range moves {
			bound := 2 + 3*len(p.Progs[place].Ops)
			if count > bound {
				t.Fatalf("%d moves, and no more than %d are told: %s", count, bound, standing(p))
			}
			most = max(most, count-2-len(p.Progs[place].Ops))
		}
	}
	if most < 2 {
		t.Errorf("nobody had to wait twice: %d", most)
	}
	p := ranPlan(t, newPlan(t, planRows, "u scan 0 9 | u put 0 7 | u get 0"), picksNamed("0 0 2 2")).Plan
	moved := 0
	for _, pick := range picksNamed("1 1 1 0 1 1 2 1 1 1 1") {
		got := stepped(t, p, pick)
		if pick == 1 && got.Moved {
			moved++
		}
		p = got.Plan
	}
	if moved != 5 || !impl.EndedPlan(p) {
		t.Errorf("one that waits twice moved %d times, want 5: %s", moved, standing(p))
	}
}

// madeUpPlan has an engine that no call would lead to, and programs of some of its transactions, at places that no picks would lead to.
func madeUpPlan(next func(int64) int64, leaves [][]impl.Leaf) impl.Plan {
	p := impl.Plan{Engine: madeUp(next, leaves)}
	if next(10) == 0 {
		p.Engine.Acts = manyActs(199 + next(3))
	}
	for range next(5) + 1 {
		g := impl.Prog{System: next(3) == 0}
		id, at := next(int64(len(p.Engine.Txns)))+1, int64(0)
		if slices.Contains(p.Ids, id) || next(6) == 0 {
			id = 0
		}
		if id != 0 {
			g.System = p.Engine.Txns[id-1].System
			waitMadeUp(next, &p.Engine.Txns[id-1])
		}
		for range next(4) {
			g.Ops = append(g.Ops, []impl.Op{someOp(next, g.System, 4), opNamed("abort")}[next(8)/7])
		}
		if id != 0 {
			at = next(int64(len(g.Ops)) + 1)
		}
		if id != 0 && p.Engine.Txns[id-1].State == impl.TxnWaits && at == int64(len(g.Ops)) {
			g.Ops = append(g.Ops, someOp(next, g.System, 4))
		}
		p.Progs, p.Ids, p.At = append(p.Progs, g), append(p.Ids, id), append(p.At, at)
	}
	return p
}

// waitMadeUp has one that lives wait for something now and then, but for no lock.
func waitMadeUp(next func(int64) int64, own *impl.Txn) {
	if own.State == impl.TxnLive && next(4) == 0 {
		own.State, own.Wait = impl.TxnWaits, someOp(next, own.System, 4)
	}
	if own.State == impl.TxnWaits && next(6) == 0 {
		own.Wait = opNamed([]string{"commit", "abort"}[next(2)])
	}
}

// TestMadeUpPlans holds all that is told of plans without a fault against the document, circles and little room among them.
func TestMadeUpPlans(t *testing.T) {
	next := numbersFrom(15)
	came := map[string]int{}
	leaves := append(someLeaves(), keyStore().Leaves, keyStore().Leaves, smallEngine(false, false).Leaves, fullLeaves(), fullLeaves())
	for range 1200 {
		p := madeUpPlan(next, leaves)
		if code := impl.PlanFault(p); code != impl.OK {
			t.Fatalf("made up with the fault %d: %v", code, p)
		}
		for pick := range int64(len(p.Progs)) {
			cameOfStep(came, p, pick, stepped(t, p, pick))
		}
		ranPlan(t, p, somePicks(next, p, 4))
		if next(3) != 0 {
			continue
		}
		got := drained(t, p)
		came[map[bool]string{true: "ended", false: "not ended"}[ended(t, got.Plan)]]++
		came[map[bool]string{true: "something moved", false: "nothing moved"}[got.Rounds > 0]]++
	}
	checkCame(t, came, "begun", "lives, lives, moved", "lives, lives", "lives, waits, moved", "lives, gone, moved", "lives, done, moved", "waits, waits", "waits, waits, moved", "waits, lives, moved",
		"waits, gone, moved", "waits, done, moved", "passed over", "another one gave way", "ended", "not ended", "something moved", "nothing moved")
}

// TestPlansWithFaultsAtRandom turns numbers of plans as it comes, and holds the code against the document.
func TestPlansWithFaultsAtRandom(t *testing.T) {
	next := numbersFrom(1517)
	codes := map[int64]int{}
	leaves := append(someLeaves(), keyStore().Leaves)
	for range 4000 {
		p := bareOf(madeUpPlan(next, leaves))
		for range next(3) {
			at := next(int64(len(p.Progs)))
			g := &p.Progs[at]
			switch next(9) {
			case 0:
				p.Ids[at] = next(24) - 2
			case 1:
				p.At[at] = next(6) - 1
			case 2:
				g.System = !g.System
			case 3:
				g.Ops = append(g.Ops, oddOps()[next(int64(len(oddOps())))])
			case 4:
				g.Ops = append(g.Ops, repeatedOp(getOf(next(101)), int(next(14)))...)
			case 5:
				p.Ids[at] = p.Ids[next(int64(len(p.Ids)))]
			case 6:
				p.Ids[at] = 0
			case 7:
				p.Progs = append(p.Progs, impl.Prog{})
				p.Ids, p.At = append(p.Ids, 0), append(p.At, 0)
			case 8:
				p.Engine.Acts = manyActs(219 + next(3))
			}
		}
		want := wantedPlanFault(p)
		codes[want]++
		if got := impl.PlanFault(p); got != want {
			t.Fatalf("PlanFault of %v: %d, want %d", p, got, want)
		}
		bounded(t, p)
		ended(t, p)
		stepped(t, p, next(int64(len(p.Progs))+1))
		made, progs := impl.NewPlan(p.Engine.Base, p.Progs), wantedNewPlan(p.Engine.Base, p.Progs)
		if !same(made, progs) {
			t.Fatalf("NewPlan of %v: %v, want %v", p.Progs, made, progs)
		}
	}
	for _, code := range []int64{impl.OK, impl.ErrForm, impl.ErrMany, impl.ErrRange, impl.ErrTaken} {
		if codes[code] < 20 {
			t.Errorf("the code %d came too seldom: %v", code, codes)
		}
	}
}
