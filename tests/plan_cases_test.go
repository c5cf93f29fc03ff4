package tests

import (
	"slices"
	"strings"
	"testing"

	"loop.example/g00270/impl"
)

// planRows is what plans begin with where nothing else is said.
const planRows = "0:3 1:4 2:5"

func TestNewPlanCases(t *testing.T) {
	for _, c := range []struct {
		name, rows, progs string
		ids               []int64
	}{
		{"no programs", "", "", nil},
		{"rows alone", "1:10 5:50", "", nil},
		{"one program", "1:10", "u get 1", []int64{0}},
		{"one without Ops", "1:10", "u", []int64{0}},
		{"users and the system", "1:10 5:50", "u put 1 1; commit | s pack; clean 5 | u | s", []int64{0, 0, 0, 0}},
		{"as many as there may be", "1:10", strings.Repeat("u get 1 | ", 7) + "s pack", make([]int64, 8)},
		{"one of as many Ops as there may be", "", "u " + strings.Repeat("put 1 1; ", 12), []int64{0}},
	} {
		base, progs := rowsNamed(c.rows), progsNamed(c.progs)
		want := impl.PlanResult{Plan: impl.Plan{Engine: impl.NewEngine(base).Engine, Progs: progs, Ids: c.ids, At: c.ids}}
		got := impl.NewPlan(base, progs)
		if !same(got, want) || !same(got, wantedNewPlan(base, progs)) {
			t.Errorf("NewPlan, %s: %v, want %v", c.name, got, want)
		}
		if code := impl.PlanFault(got.Plan); code != impl.OK || len(got.Plan.Engine.Txns) > 0 || ended(t, got.Plan) != (len(progs) == 0) {
			t.Errorf("NewPlan, %s: the fault %d, or something has begun: %v", c.name, code, got)
		}
	}
}

// stepCase is a new plan in which some are picked, and then one more.
type stepCase struct {
	name, progs, ahead string
	pick               int64
	moved              bool
	then               string
}

// aloneCases are of one program.
func aloneCases() []stepCase {
	two := "u get 0; get 1"
	return []stepCase{
		{"it begins", "u get 0", "", 0, true, "1/0 live"},
		{"one of the system begins", "s pack", "", 0, true, "1/0 live"},
		{"one without Ops begins", "u", "", 0, true, "1/0 live"},
		{"one without Ops commits", "u", "0", 0, true, "1/0 done"},
		{"one without Ops is done", "u", "0 0", 0, false, "1/0 done"},
		{"its first op", two, "0", 0, true, "1/1 live"},
		{"its last op", two, "0 0", 0, true, "1/2 live"},
		{"a commit at the end", two, "0 0 0", 0, true, "1/2 done"},
		{"it is done", two, "0 0 0 0", 0, false, "1/2 done"},
		{"it is done, once more", two, "0 0 0 0 0 0", 0, false, "1/2 done"},
		{"a commit of the system at the end", "s build; find 3", "0 0 0", 0, true, "1/2 done"},
		{"a commit among its Ops", "u put 0 1; commit; put 1 1", "0 0", 0, true, "1/2 done"},
		{"nothing behind a commit", "u put 0 1; commit; put 1 1", "0 0 0", 0, false, "1/2 done"},
		{"a commit, its last op", "u commit", "0", 0, true, "1/1 done"},
		{"no second commit", "u commit", "0 0", 0, false, "1/1 done"},
		{"an abort among its Ops", "u put 0 1; abort; put 1 1", "0 0", 0, true, "1/2 gone"},
		{"nothing behind an abort", "u put 0 1; abort; put 1 1", "0 0 0", 0, false, "1/2 gone"},
		{"an abort, its last op", "u abort", "0", 0, true, "1/1 gone"},
		{"no commit behind an abort", "u abort", "0 0", 0, false, "1/1 gone"},
		{"of a user what is of the system", "u pack; get 0", "0", 0, true, "1/1 live"},
		{"of the system what is of users", "s put 0 1; get 0", "0", 0, true, "1/1 live"},
		{"a find without an index", "u find 3; get 0", "0", 0, true, "1/1 live"},
		{"behind one that is passed over", "u find 3; get 0", "0 0", 0, true, "1/2 live"},
		{"the last one is passed over", "u get 0; clean 1", "0 0", 0, true, "1/2 live"},
		{"a commit behind one that is passed over", "u get 0; clean 1", "0 0 0", 0, true, "1/2 done"},
		{"all are passed over", "s put 0 1; delete 0; find 1", "0 0 0", 0, true, "1/3 live"},
		{"a commit where all are passed over", "s put 0 1; delete 0; find 1", "0 0 0 0", 0, true, "1/3 done"},
	}
}

// togetherCases are of several programs, who wait for one another and give way.
func togetherCases() []stepCase {
	wait := "u put 0 1 | u get 0"
	again := "u scan 0 9 | u put 0 7 | u get 0"
	ring := "u put 0 1; get 1 | u put 1 1; get 0"
	system := "s clean 0; get 1 | u put 1 1; get 0"
	third := "u scan 0 9 | u get 0; put 1 1 | u get 1; put 0 7"
	return []stepCase{
		{"the last one begins first", "u get 0 | u get 1 | s pack", "", 2, true, "0/0 new, 0/0 new, 1/0 live"},
		{"the first one begins last", "u get 0 | u get 1 | s pack", "2 1", 0, true, "3/0 live, 2/0 live, 1/0 live"},
		{"the other one begins when one is done", "u | u", "1 1", 0, true, "2/0 live, 1/0 done"},
		{"it waits", wait, "0 0 1", 1, true, "1/1 live, 2/0 waits"},
		{"it waits still", wait, "0 0 1 1", 1, false, "1/1 live, 2/0 waits"},
		{"it waits, and the other one goes on", wait, "0 0 1 1", 0, true, "1/1 done, 2/0 waits"},
		{"it waits no more", wait, "0 0 1 1 0", 1, true, "1/1 done, 2/1 live"},
		{"it waited at its last op, and commits", wait, "0 0 1 1 0 1", 1, true, "1/1 done, 2/1 done"},
		{"it waits at the whole", again, "0 0 2 2 1", 1, true, "1/1 live, 3/0 waits, 2/1 live"},
		{"it is let in at the whole, and waits at the key", again, "0 0 2 2 1 1 0", 1, true, "1/1 done, 3/0 waits, 2/1 live"},
		{"it waits at the key", again, "0 0 2 2 1 1 0 1", 1, false, "1/1 done, 3/0 waits, 2/1 live"},
		{"it is let in at the key", again, "0 0 2 2 1 1 0 1 2", 1, true, "1/1 done, 3/1 live, 2/1 done"},
		{"it gives way itself", ring, "0 1 0 1 0", 1, true, "1/1 waits, 2/1 gone"},
		{"it gave way, and nothing comes of it any more", ring, "0 1 0 1 0 1", 1, false, "1/1 waits, 2/1 gone"},
		{"the other one goes on then", ring, "0 1 0 1 0 1", 0, true, "1/2 live, 2/1 gone"},
		{"the other one gives way", ring, "0 1 0 1 1", 0, true, "1/2 live, 2/1 gone"},
		{"the other one gives way, who began first", ring, "1 0 1 0 0", 1, true, "2/1 gone, 1/2 live"},
		{"of the system, it gives way itself", system, "0 1 0 1 1", 0, true, "1/1 gone, 2/1 waits"},
		{"of the system, the other one gives way", system, "0 1 0 1 0", 1, true, "1/1 gone, 2/2 live"},
		{"another one gives way, and it waits still", "u put 0 1; put 1 1 | u get 1; get 0 | u get 1", "0 1 2 0 1 2 1", 0, true, "1/1 waits, 2/1 gone, 3/1 live"},
		{"two others give way", "u put 0 1; put 1 1 | u get 1; get 0 | u get 1; get 0", "0 1 2 0 1 2 1 2", 0, true, "1/2 live, 2/1 gone, 3/1 gone"},
		{"it is resumed, and gives way", third, "0 1 2 0 1 2 2 0 1", 2, true, "1/1 done, 2/1 waits, 3/1 gone"},
		{"it is resumed, and the other one gives way", "u scan 0 9 | u get 1; put 0 7 | u get 0; put 1 1", "0 1 2 0 2 1 1 0 2", 1, true, "1/1 done, 2/2 live, 3/1 gone"},
		{"one is passed over while the other one waits", "u put 0 1; pack | u get 0", "0 1 0 1", 0, true, "1/2 live, 2/0 waits"},
	}
}

func TestStepPlanCases(t *testing.T) {
	for _, c := range append(aloneCases(), togetherCases()...) {
		p := newPlan(t, planRows, c.progs)
		for _, pick := range picksNamed(c.ahead) {
			p = stepped(t, p, pick).Plan
		}
		got := stepped(t, p, c.pick)
		if got.Code != impl.OK || got.Rounds != 0 || got.Moved != c.moved || standing(got.Plan) != c.then {
			t.Errorf("StepPlan, %s: %v, %s; want %v, %s", c.name, got.Moved, standing(got.Plan), c.moved, c.then)
		}
		if !c.moved && !same(got.Plan, p) {
			t.Errorf("StepPlan, %s: nothing Moved, and there is %v, not %v", c.name, got.Plan, p)
		}
		whole := ranPlan(t, newPlan(t, planRows, c.progs), append(picksNamed(c.ahead), c.pick))
		if !same(whole.Plan, got.Plan) || !whole.Moved {
			t.Errorf("RunPlan, %s: %v, want %v", c.name, whole, got.Plan)
		}
	}
}

// TestStepPlanTellsAll tells by hand the whole plan behind each of some steps.
func TestStepPlanTellsAll(t *testing.T) {
	p := newPlan(t, "0:3 1:4", "s pack | u put 0 7; put 9 9; clean 1; delete 1")
	want := bareOf(p)
	check := func(name string, pick int64) {
		t.Helper()
		got := stepped(t, p, pick)
		if !same(got, impl.PlanResult{Moved: true, Plan: want}) {
			t.Fatalf("%s: %v, want %v", name, got, want)
		}
		p = got.Plan
	}
	e := &want.Engine
	e.Txns, e.Wal.Loose, want.Ids[1] = []impl.Txn{{Id: 1, State: impl.TxnLive}}, recData(plain(impl.LogBegin, 1)), 1
	check("it begins", 1)
	e.Txns[0].Undo, e.Leaves, e.Acts, want.At[1] = []impl.Before{had(0, 3)}, []impl.Leaf{leaf(row(0, 7), row(1, 4))}, []impl.Act{act(1, putOf(0, 7))}, 1
	e.Wal.Loose, e.Locks = append(e.Wal.Loose, recData(change(impl.LogSet, 1, 0, some{true, 3}, some{true, 7}))...), locksOf("0 1:ix | 1 1:x")
	check("its first op", 1)
	e.Txns[0].Undo, e.Leaves, e.Acts, want.At[1] = append(e.Txns[0].Undo, hadNone(9)), []impl.Leaf{leaf(row(0, 7), row(1, 4), row(9, 9))}, append(e.Acts, act(1, putOf(9, 9))), 2
	e.Wal.Loose, e.Locks = append(e.Wal.Loose, recData(change(impl.LogSet, 1, 9, some{}, some{true, 9}))...), locksOf("0 1:ix | 1 1:x | 10 1:x")
	check("its second op", 1)
	want.At[1] = 3
	check("one that is passed over", 1)
	e.Txns, e.Wal.Loose, want.Ids[0] = append(e.Txns, impl.Txn{Id: 2, System: true, State: impl.TxnLive}), append(e.Wal.Loose, recData(plain(impl.LogBegin, 2))...), 2
	check("the other one begins", 0)
	e.Txns[0].Undo, e.Leaves, e.Acts, want.At[1] = append(e.Txns[0].Undo, had(1, 4)), []impl.Leaf{leaf(row(0, 7), ghost(1), row(9, 9))}, append(e.Acts, act(1, opNamed("delete 1"))), 4
	e.Wal.Loose, e.Locks = append(e.Wal.Loose, recData(change(impl.LogSet, 1, 1, some{true, 4}, some{}))...), locksOf("0 1:ix | 1 1:x | 2 1:x | 10 1:x")
	check("its last op", 1)
	e.Txns[0], e.Acts, e.Commits, e.Locks = impl.Txn{Id: 1, State: impl.TxnDone}, append(e.Acts, act(1, opNamed("commit"))), []int64{1}, nil
	e.Wal = impl.Wal{Sure: append(e.Wal.Loose, recData(plain(impl.LogCommit, 1))...)}
	check("a commit at the end", 1)
	e.Acts, want.At[0], e.Locks = append(e.Acts, act(2, opNamed("pack"))), 1, locksOf("0 2:is")
	check("the other one packs", 0)
}

// madeCase is a plan that no picks would lead to, and what a pick of its first program comes to.
type madeCase struct {
	name        string
	e           impl.Engine
	progs, from string
	moved       bool
	then        string
}

// actsIn has an engine of one transaction that lives, with so many acts; so many changes are to be taken back, and there is so much room left in the log, if room is not below 0.
func actsIn(acts, undo int64, room int) impl.Engine {
	e := smallEngine(false, true)
	e.Acts, e.Txns = manyActs(acts), liveTxns(1, undo)
	if room >= 0 {
		e.Wal.Sure = nil
		e.Wal.Loose = logBytes(int(wantedRoom(e)) - room)
	}
	return e
}

// waitingFor has the first transaction wait for an operation, but for no lock.
func waitingFor(e impl.Engine, op string) impl.Engine {
	e.Txns[0].State, e.Txns[0].Wait = impl.TxnWaits, opNamed(op)
	return e
}

// roomCasesOfPlans have no room for acts, in the log, or for what is to be taken back, or just enough of it.
func roomCasesOfPlans() []madeCase {
	put, get, twenty := "u put 7 1; get 1", "u get 1; get 7", impl.Engine{Txns: liveTxns(20, 0)}
	return []madeCase{
		{"room for its act", actsIn(199, 0, -1), get, "1/0", true, "1/1 live"},
		{"no room for its act", actsIn(200, 0, -1), get, "1/0", true, "1/1 live"},
		{"no room for the act of its last op", actsIn(200, 0, -1), get, "1/1", true, "1/2 live"},
		{"no room for the act of a commit at the end", actsIn(200, 0, -1), get, "1/2", false, "1/2 live"},
		{"as many acts as there may be, a commit at the end", actsIn(220, 0, -1), get, "1/2", false, "1/2 live"},
		{"room for the act of a commit at the end", actsIn(199, 0, -1), get, "1/2", true, "1/2 done"},
		{"no room for the act of a commit among its Ops", actsIn(200, 0, -1), "u commit; get 1", "1/0", true, "1/1 live"},
		{"as much Undo as there may be, a put", actsIn(1, 40, -1), put, "1/0", true, "1/1 live"},
		{"as much Undo as there may be, a get", actsIn(1, 40, -1), put, "1/1", true, "1/2 live"},
		{"as much Undo as there may be, a commit at the end", actsIn(1, 40, -1), put, "1/2", true, "1/2 done"},
		{"no room in the log for a put", actsIn(1, 0, 21), put, "1/0", true, "1/1 live"},
		{"room in the log for a put", actsIn(1, 0, 22), put, "1/0", true, "1/1 live"},
		{"no room in the log, a get", actsIn(1, 0, 0), put, "1/1", true, "1/2 live"},
		{"no room in the log, a commit at the end", actsIn(1, 0, 0), put, "1/2", true, "1/2 done"},
		{"waits, no room for its act", waitingFor(actsIn(200, 0, -1), "get 1"), get, "1/0", false, "1/0 waits"},
		{"waits, room for its act", waitingFor(actsIn(199, 0, -1), "get 1"), get, "1/0", true, "1/1 live"},
		{"waits at its last op, no room for its act", waitingFor(actsIn(200, 0, -1), "get 7"), get, "1/1", false, "1/1 waits"},
		{"waits for a put, as much Undo as there may be", waitingFor(actsIn(1, 40, -1), "put 7 1"), put, "1/0", false, "1/0 waits"},
		{"waits for a get, as much Undo as there may be", waitingFor(actsIn(1, 40, -1), "get 1"), put, "1/1", true, "1/2 live"},
		{"waits for a put, no room in the log", waitingFor(actsIn(1, 0, 21), "put 7 1"), put, "1/0", false, "1/0 waits"},
		{"waits for a put, room in the log", waitingFor(actsIn(1, 0, 22), "put 7 1"), put, "1/0", true, "1/1 live"},
		{"as many transactions as there may be", twenty, get, "0/0", false, "0/0 new"},
		{"as many transactions, of the system", twenty, "s pack", "0/0", false, "0/0 new"},
		{"one transaction less", impl.Engine{Txns: liveTxns(19, 0)}, get, "0/0", true, "20/0 live"},
		{"no room in the log to begin", actsIn(1, 0, 9), get, "0/0", false, "0/0 new"},
		{"room in the log to begin", actsIn(1, 0, 10), get, "0/0", true, "2/0 live"},
		{"no room for acts, and it begins", actsIn(220, 0, -1), get, "0/0", true, "2/0 live"},
	}
}

// oddCasesOfPlans have a transaction wait for something else than the next one of Ops, or for a lock that is another one's.
func oddCasesOfPlans() []madeCase {
	full := impl.Engine{Leaves: fullLeaves(), Txns: liveTxns(1, 1)}
	queued := lockedEngine(2, "0 2:ix 1?s | 6 2:x")
	other := lockedEngine(2, "0 1:is 2:ix | 8 2:x 1?s")
	systems := lockedEngine(2, "0 1:is 2:ix")
	systems.Txns[0].System = true
	return []madeCase{
		{"waits for another op than its next", waitingFor(actsIn(1, 0, -1), "get 20"), "u put 7 1; get 1", "1/0", true, "1/1 live"},
		{"waits for another op than its last", waitingFor(actsIn(1, 0, -1), "get 20"), "u put 7 1; get 1", "1/1", true, "1/2 live"},
		{"waits for a commit", waitingFor(actsIn(1, 0, -1), "commit"), "u put 7 1; get 1", "1/0", true, "1/1 done"},
		{"waits for an abort", waitingFor(actsIn(1, 2, -1), "abort"), "u put 7 1; get 1", "1/1", true, "1/2 gone"},
		{"waits for what is of the system", waitingFor(actsIn(1, 0, -1), "clean 5"), "u get 1", "1/0", true, "1/1 live"},
		{"waits in a queue", queued, "u scan 0 99", "1/0", false, "1/0 waits"},
		{"waits in a queue, at a key", other, "u scan 0 99; get 7", "1/1", false, "1/1 waits"},
		{"has no leaf left for its row", full, "u put 43 1; get 1", "1/0", true, "1/0 gone"},
		{"has no leaf left for the row that it waited for", waitingFor(bareOf(full), "put 43 1"), "u put 43 1; get 1", "1/0", true, "1/0 gone"},
		{"is in the way of one that is in no plan", lockedEngine(2, "0 1:ix 2?s"), "u", "1/0", true, "1/0 done"},
		{"waits for one that is in no plan", systems, "s build; pack", "1/0", true, "1/0 waits"},
		{"what is done already At its end, and it lives", actsIn(1, 0, -1), "u get 1; get 7; get 20", "1/3", true, "1/3 done"},
	}
}

func TestStepPlanMade(t *testing.T) {
	for _, c := range append(roomCasesOfPlans(), oddCasesOfPlans()...) {
		p := planNamed(c.e, c.progs, c.from)
		checkPlanCode(t, c.name, p, impl.OK)
		got := stepped(t, p, 0)
		if got.Code != impl.OK || got.Moved != c.moved || standing(got.Plan) != c.then {
			t.Errorf("StepPlan, %s: %v, %s; want %v, %s", c.name, got.Moved, standing(got.Plan), c.moved, c.then)
		}
		if !c.moved && !same(got.Plan, p) {
			t.Errorf("StepPlan, %s: nothing Moved, and there is %v, not %v", c.name, got.Plan, p)
		}
	}
}

// TestWhatIsPassedOverChangesNothingElse has every code of an operation, but ErrVictim: At is one more, all else is as it was.
func TestWhatIsPassedOverChangesNothingElse(t *testing.T) {
	crowded, narrow := actsIn(200, 0, -1), actsIn(1, 3, 21)
	unbuilt, system := smallEngine(false, false), smallEngine(true, false)
	for _, c := range []struct {
		name, ops string
		e         impl.Engine
		code      int64
	}{
		{"what is of the system", "pack; build; clean 5; clean 99", unbuilt, impl.ErrForm},
		{"what is of users", "put 1 1; delete 1; put 99 9999", system, impl.ErrForm},
		{"a find without an index", "find 3; find 0; find 9999", unbuilt, impl.ErrNone},
		{"a find without an index, of the system", "find 3", system, impl.ErrNone},
		{"no room for acts", "get 1; put 1 1; delete 7; scan 0 99; find 3; commit; abort", crowded, impl.ErrMany},
		{"no room in the log", "put 1 1; delete 1; put 50 1", narrow, impl.ErrMany},
	} {
		p := impl.Plan{Engine: c.e, Progs: []impl.Prog{{System: c.e.Txns[0].System, Ops: opsNamed(c.ops)}}, Ids: []int64{1}, At: []int64{0}}
		for at, o := range p.Progs[0].Ops {
			if did := do(t, p.Engine, 1, o); did.Code != c.code {
				t.Fatalf("%s: %v has the code %d, want %d", c.name, o, did.Code, c.code)
			}
			want := bareOf(p)
			want.At[0] = int64(at + 1)
			got := stepped(t, p, 0)
			if !same(got, impl.PlanResult{Moved: true, Plan: want}) {
				t.Fatalf("StepPlan, %s, of %v: %v, want %v", c.name, o, got, want)
			}
			p = got.Plan
		}
	}
}

func TestBoundOfCases(t *testing.T) {
	for _, c := range []struct {
		name, progs string
		want        int64
	}{
		{"no programs", "", 0},
		{"one without Ops", "u", 2},
		{"three without Ops", "u | s | u", 6},
		{"one of one", "u get 1", 5},
		{"one of the system", "s pack", 5},
		{"one of two", "u get 1; get 2", 8},
		{"several", "u get 1; get 2 | s | u commit | s pack; build; clean 1", 26},
		{"the longest", "u " + strings.Repeat("get 1; ", 12), 38},
		{"the most", strings.Repeat("u "+strings.Repeat("get 1; ", 12)+"|", 8), 304},
	} {
		p := newPlan(t, planRows, c.progs)
		if got := impl.BoundOf(p); got != (impl.IntResult{Value: c.want}) {
			t.Errorf("BoundOf, %s: %v, want %d", c.name, got, c.want)
		}
		if then := drained(t, p).Plan; bounded(t, then) != c.want {
			t.Errorf("BoundOf, %s, when all is done: %v, want %d", c.name, impl.BoundOf(then), c.want)
		}
	}
	if got := bounded(t, busyPlan()); got != 2*8+3*21 {
		t.Errorf("BoundOf one in the middle: %d", got)
	}
}

// drainCase is a new plan in which some are picked, and then all in turns.
type drainCase struct {
	name, progs, ahead string
	rounds             int64
	then               string
	commits            []int64
	rows               string
}

func drainCases() []drainCase {
	ring := "u put 0 1; put 1 1 | u put 1 2; put 0 2"
	three := "u put 0 1; get 1 | u put 1 1; get 2 | u put 2 1; get 0"
	wait := "u put 0 7 | u get 0"
	return []drainCase{
		{"no programs", "", "", 0, "", nil, planRows},
		{"one without Ops", "u", "", 2, "1/0 done", []int64{1}, planRows},
		{"three without Ops", "u | s | u", "", 2, "1/0 done, 2/0 done, 3/0 done", []int64{1, 2, 3}, planRows},
		{"one of two", "u put 0 7; delete 1", "", 4, "1/2 done", []int64{1}, "0:7 2:5"},
		{"one of two that began", "u put 0 7; delete 1", "0", 3, "1/2 done", []int64{1}, "0:7 2:5"},
		{"one of two, at its end", "u put 0 7; delete 1", "0 0 0", 1, "1/2 done", []int64{1}, "0:7 2:5"},
		{"one of two that is done", "u put 0 7; delete 1", "0 0 0 0", 0, "1/2 done", []int64{1}, "0:7 2:5"},
		{"one commits in the middle", "u put 0 7; commit; put 1 1", "", 3, "1/2 done", []int64{1}, "0:7 1:4 2:5"},
		{"one aborts in the middle", "u put 0 7; abort; put 1 1", "", 3, "1/2 gone", nil, planRows},
		{"what is passed over", "u pack; build; put 0 7", "", 5, "1/3 done", []int64{1}, "0:7 1:4 2:5"},
		{"long and short", "u get 0 | u get 0; get 1; get 2", "", 5, "1/1 done, 2/3 done", []int64{1, 2}, planRows},
		{"one waits for the one ahead", wait, "", 4, "1/1 done, 2/1 done", []int64{1, 2}, "0:7 1:4 2:5"},
		{"one waits for the one behind", "u get 0 | u put 0 7", "1 1 0", 3, "2/1 done, 1/1 done", []int64{1, 2}, "0:7 1:4 2:5"},
		{"one waits already", wait, "0 1 0 1", 2, "1/1 done, 2/1 done", []int64{1, 2}, "0:7 1:4 2:5"},
		{"one waits no more", wait, "0 1 0 1 0", 2, "1/1 done, 2/1 done", []int64{1, 2}, "0:7 1:4 2:5"},
		{"a ring of two", ring, "", 5, "1/2 done, 2/1 gone", []int64{1}, "0:1 1:1 2:5"},
		{"a ring of two, the other one began first", ring, "1", 4, "2/1 gone, 1/2 done", []int64{1}, "0:2 1:2 2:5"},
		{"a ring of two, all but closed", ring, "0 1 0 1 1", 2, "1/2 done, 2/1 gone", []int64{1}, "0:1 1:1 2:5"},
		{"a ring of two, one gave way already", ring, "0 1 0 1 0 1", 2, "1/2 done, 2/1 gone", []int64{1}, "0:1 1:1 2:5"},
		{"a ring of three", three, "", 7, "1/2 done, 2/2 done, 3/1 gone", []int64{2, 1}, "0:1 1:1 2:5"},
		{"a ring with the system", "s clean 0; get 1 | u put 1 1; get 0", "", 4, "1/1 gone, 2/2 done", []int64{2}, "0:3 1:1 2:5"},
		{"who reads and then puts", "u get 0; put 0 1 | u get 0; put 0 2", "", 5, "1/2 done, 2/1 gone", []int64{1}, "0:1 1:4 2:5"},
		{"all at one key", "u put 0 1 | u put 0 2 | u put 0 3", "", 5, "1/1 done, 2/1 done, 3/1 done", []int64{1, 2, 3}, "0:3 1:4 2:5"},
		{"an index is built while others wait", "s build; find 4 | u put 1 5; put 2 4", "", 6, "1/2 done, 2/2 done", []int64{1, 2}, "0:3 1:5 2:4"},
	}
}

func TestDrainPlanCases(t *testing.T) {
	for _, c := range drainCases() {
		p := ranPlan(t, newPlan(t, planRows, c.progs), picksNamed(c.ahead)).Plan
		got := drained(t, p)
		if got.Code != impl.OK || got.Rounds != c.rounds || got.Moved != (c.rounds > 0) || standing(got.Plan) != c.then {
			t.Errorf("DrainPlan, %s: %d rounds, %s; want %d, %s", c.name, got.Rounds, standing(got.Plan), c.rounds, c.then)
		}
		e := got.Plan.Engine
		if !ended(t, got.Plan) || !slices.Equal(e.Commits, c.commits) || !same(impl.MapOf(e).Rows, rowsNamed(c.rows)) || !impl.SerialEngine(e) {
			t.Errorf("DrainPlan, %s: %v committed, and there are %v; want %v, %s", c.name, e.Commits, impl.MapOf(e).Rows, c.commits, c.rows)
		}
		if more := drained(t, got.Plan); more.Rounds != 0 || more.Moved || !same(more.Plan, got.Plan) {
			t.Errorf("DrainPlan, %s, once more: %v", c.name, more)
		}
	}
}

// TestDrainPlanWithoutRoom has plans that cannot come to their end, and some that can all the same.
func TestDrainPlanWithoutRoom(t *testing.T) {
	others := lockedEngine(3, "0 1:ix 2?s 3?s")
	for _, c := range []struct {
		name, progs, from string
		e                 impl.Engine
		rounds            int64
		then              string
		ended             bool
	}{
		{"no room for acts", "u get 1; get 7", "0/0", actsIn(200, 0, -1), 3, "2/2 live", false},
		{"no room for acts, one without Ops", "u", "0/0", actsIn(220, 0, -1), 1, "2/0 live", false},
		{"no room for the act of the end", "u get 1; get 7", "0/0", actsIn(198, 0, -1), 3, "2/2 live", false},
		{"room for one op less, and none for the end", "u get 1; get 7", "0/0", actsIn(199, 0, -1), 3, "2/2 live", false},
		{"just enough room for acts", "u get 1; get 7", "0/0", actsIn(197, 0, -1), 4, "2/2 done", true},
		{"just enough room for acts of one", "u get 1 | u get 7", "0/0 0/0", actsIn(197, 0, -1), 3, "2/1 done, 3/1 live", false},
		{"no room for the act that is waited for", "u get 1", "1/0", waitingFor(actsIn(200, 0, -1), "get 1"), 0, "1/0 waits", false},
		{"no room in the log to begin", "u get 1", "0/0", actsIn(1, 0, 9), 0, "0/0 new", false},
		{"room in the log for one to begin", "u get 1 | u get 1", "0/0 0/0", actsIn(1, 0, 19), 3, "2/1 done, 0/0 new", false},
		{"no room in the log for a put", "u put 1 1; get 7", "0/0", actsIn(1, 0, 31), 4, "2/2 done", true},
		{"no room in the log for the put that is waited for", "u put 1 1; get 7", "1/0", waitingFor(actsIn(1, 0, 21), "put 1 1"), 0, "1/0 waits", false},
		{"too much Undo for the put that is waited for", "u put 1 1; get 7", "1/0", waitingFor(actsIn(1, 40, -1), "put 1 1"), 0, "1/0 waits", false},
		{"too much Undo for a put", "u put 1 1; get 7", "1/0", actsIn(1, 40, -1), 3, "1/2 done", true},
		{"as many transactions as there may be", "u | u", "20/0 0/0", impl.Engine{Txns: liveTxns(20, 0)}, 1, "20/0 done, 0/0 new", false},
		{"one who lives is in no plan, and the others wait for it", "u scan 0 99 | u scan 0 99", "2/0 3/0", others, 0, "2/0 waits, 3/0 waits", false},
		{"no leaf left for a row", "u put 43 1; get 1", "1/0", impl.Engine{Leaves: fullLeaves(), Txns: liveTxns(1, 0)}, 1, "1/0 gone", true},
	} {
		p := planNamed(c.e, c.progs, c.from)
		checkPlanCode(t, c.name, p, impl.OK)
		got := drained(t, p)
		if got.Rounds != c.rounds || standing(got.Plan) != c.then || ended(t, got.Plan) != c.ended {
			t.Errorf("DrainPlan, %s: %d rounds, %s; want %d, %s", c.name, got.Rounds, standing(got.Plan), c.rounds, c.then)
		}
	}
}

func TestEndedPlanCases(t *testing.T) {
	e := busyEngine()
	for _, c := range []struct {
		name, progs, from string
		want              bool
	}{
		{"no programs", "", "", true},
		{"it has not begun", "u get 1", "0/0", false},
		{"one without Ops has not begun", "u", "0/0", false},
		{"it lives", "u get 1", "1/0", false},
		{"it lives, at its end", "u get 1", "1/1", false},
		{"it waits", "u get 1", "2/0", false},
		{"it waits, but for no lock", "u get 1", "8/0", false},
		{"it is done", "u get 1", "3/1", true},
		{"it is done ahead of its end", "u get 1; get 2", "3/0", true},
		{"it is gone", "u get 1", "4/1", true},
		{"it is gone ahead of its end", "u get 1; get 2", "4/1", true},
		{"one of the system is done", "s pack", "6/1", true},
		{"one of the system is gone", "s pack", "9/0", true},
		{"one of the system lives", "s pack", "5/0", false},
		{"one of the system waits", "s pack", "7/0", false},
		{"all are done or gone", "u get 1 | s pack | u | s", "3/1 6/0 4/0 9/0", true},
		{"the first one has not begun", "u get 1 | s pack | u", "0/0 6/0 4/0", false},
		{"the last one has not begun", "u get 1 | s pack | u", "3/1 6/0 0/0", false},
		{"the first one lives", "u get 1 | s pack | u", "1/1 6/0 4/0", false},
		{"the last one waits", "u get 1 | s pack | u get 1", "3/1 6/0 2/0", false},
		{"one that is done, at the end of another one", "u get 1 | u get 2", "3/1 3/1", false},
		{"one is done, but is of the system", "u get 1", "6/1", false},
	} {
		if got := ended(t, planNamed(e, c.progs, c.from)); got != c.want {
			t.Errorf("EndedPlan, %s: %v, want %v", c.name, got, c.want)
		}
	}
	for _, wrong := range allBreaks() {
		p := planNamed(busyEngine(), "u get 1 | s pack", "3/1 6/0")
		wrong.turn(&p.Engine)
		if ended(t, p) {
			t.Errorf("EndedPlan with a fault: %s, %s", wrong.part, wrong.name)
		}
	}
}
