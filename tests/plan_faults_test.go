package tests

import (
	"math"
	"slices"
	"strconv"
	"strings"
	"testing"

	"loop.example/g00270/impl"
)

// oddPicks has lists of picks with every code of their own, and with none.
func oddPicks() [][]int64 {
	return [][]int64{nil, {}, {0}, {1, 0}, {-1}, {8}, {0, math.MaxInt64}, make([]int64, 200), make([]int64, 201), slices.Repeat([]int64{-1}, 300)}
}

// checkPlanCode asks all that take a plan; with a fault they tell its code alone, whatever is picked.
func checkPlanCode(t *testing.T, name string, p impl.Plan, want int64) {
	t.Helper()
	if got := impl.PlanFault(p); got != want {
		t.Fatalf("PlanFault, %s: %d, want %d", name, got, want)
	}
	if told := wantedPlanFault(p); told != want {
		t.Fatalf("what is leant on elsewhere tells %d, %s, want %d", told, name, want)
	}
	if want == impl.OK {
		if bound, drain := impl.BoundOf(p), impl.DrainPlan(p); bound.Code != impl.OK || drain.Code != impl.OK || impl.RunPlan(p, nil).Code != impl.OK {
			t.Fatalf("%s: a code without a fault: %v, %v", name, bound, drain)
		}
		return
	}
	alone := impl.PlanResult{Code: want}
	for _, pick := range []int64{math.MinInt64, -1, 0, 1, 7, 8, math.MaxInt64} {
		if got := impl.StepPlan(p, pick); !same(got, alone) {
			t.Fatalf("StepPlan of %d, %s: %v, want the code %d", pick, name, got, want)
		}
	}
	for _, picks := range oddPicks() {
		if got := impl.RunPlan(p, picks); !same(got, alone) {
			t.Fatalf("RunPlan of %d picks, %s: %v, want the code %d", len(picks), name, got, want)
		}
	}
	if got := impl.DrainPlan(p); !same(got, alone) {
		t.Fatalf("DrainPlan, %s: %v, want the code %d", name, got, want)
	}
	if got := impl.BoundOf(p); got != (impl.IntResult{Code: want}) {
		t.Fatalf("BoundOf, %s: %v, want the code %d", name, got, want)
	}
	if impl.EndedPlan(p) {
		t.Fatalf("EndedPlan, %s, with the code %d", name, want)
	}
}

// busyPlan has programs of every state of a transaction, and some that have not begun, of users and of the system.
func busyPlan() impl.Plan {
	return planNamed(busyEngine(), "u get 1; put 7 4 | s pack; get 20 | u scan 0 9 | u scan 0 99; get 1 | u | s pack; clean 7 | u get 1; get 2; get 3; get 4; get 5; get 6; get 7; get 8; get 9; get 10; get 11; get 12 | s", "1/1 5/2 0/0 2/0 3/0 7/1 0/0 9/0")
}

// evenPlan has as many programs, each of two operations with one of them At its end; the one at a place has the Id one above it, and lives.
func evenPlan(count int) impl.Plan {
	progs := slices.Repeat([]string{"u get 1; put 2 3"}, count)
	p := planNamed(impl.Engine{Txns: liveTxns(10, 1)}, strings.Join(progs, "|"), "")
	for place := range count {
		p.Ids, p.At = append(p.Ids, int64(place+1)), append(p.At, 1)
	}
	return p
}

func TestPlansWithoutAFault(t *testing.T) {
	checkPlanCode(t, "of nothing", impl.Plan{}, impl.OK)
	checkPlanCode(t, "of nothing, no list nil", emptyOf(impl.Plan{}), impl.OK)
	checkPlanCode(t, "of programs of every state", busyPlan(), impl.OK)
	for count := range 9 {
		checkPlanCode(t, "of programs that are alike", evenPlan(count), impl.OK)
	}
	for _, e := range someEngines() {
		checkPlanCode(t, "of some engine", impl.Plan{Engine: e}, impl.OK)
		checkPlanCode(t, "of some engine, with programs", planNamed(e, "u get 1 | s pack | u", "0/0 0/0 0/0"), impl.OK)
	}
}

// TestPlanFaultOfEngines has each fault of an engine: it comes ahead of all others.
func TestPlanFaultOfEngines(t *testing.T) {
	for _, wrong := range allBreaks() {
		for _, p := range []impl.Plan{busyPlan(), {Engine: busyEngine()}, {Engine: busyEngine(), Progs: make([]impl.Prog, 9)}, {Engine: busyEngine(), Ids: []int64{-1}}, planNamed(busyEngine(), "u get 100", "-1/-1")} {
			wrong.turn(&p.Engine)
			checkPlanCode(t, wrong.part+", "+wrong.name, p, wrong.want)
		}
	}
}

func TestPlanFaultOfManyPrograms(t *testing.T) {
	for count := range 12 {
		want := codeIf(count > impl.MaxProgs, impl.ErrMany)
		p := impl.Plan{Progs: make([]impl.Prog, count), Ids: make([]int64, count), At: make([]int64, count)}
		checkPlanCode(t, "of many programs", p, want)
		if count > impl.MaxProgs {
			checkPlanCode(t, "of many programs, with no Ids", impl.Plan{Progs: p.Progs, At: p.At}, want)
			p.Progs[0].Ops = make([]impl.Op, 13)
			checkPlanCode(t, "of many programs, one with a code of its own", p, want)
			p.Ids[1] = -1
			checkPlanCode(t, "of many programs, two with codes of their own", p, want)
		}
	}
	checkPlanCode(t, "of very many programs", impl.Plan{Progs: make([]impl.Prog, 100000)}, impl.ErrMany)
}

// TestPlanFaultOfCounts has Ids and At of every number up to some more than the programs.
func TestPlanFaultOfCounts(t *testing.T) {
	for progs := range 9 {
		for ids := range 11 {
			for ats := range 11 {
				p := impl.Plan{Progs: make([]impl.Prog, progs), Ids: make([]int64, ids), At: make([]int64, ats)}
				want := codeIf(ids != progs || ats != progs, impl.ErrForm)
				if got := impl.PlanFault(p); got != want || wantedPlanFault(p) != want {
					t.Fatalf("PlanFault of %d programs with %d Ids and %d At: %d, want %d", progs, ids, ats, got, want)
				}
			}
		}
	}
	short, long := evenPlan(3), evenPlan(3)
	short.Ids, long.At = short.Ids[:2], append(long.At, 0)
	for _, p := range []impl.Plan{short, long} {
		checkPlanCode(t, "of other counts", p, impl.ErrForm)
		p.Progs[0].Ops = make([]impl.Op, 13)
		checkPlanCode(t, "of other counts, ahead of ErrMany of a program", p, impl.ErrForm)
		p.Progs[0].Ops = opsNamed("get 100")
		checkPlanCode(t, "of other counts, ahead of ErrRange of an op", p, impl.ErrForm)
		p.Progs[0].Ops, p.At[0] = nil, -1
		checkPlanCode(t, "of other counts, ahead of ErrRange of At", p, impl.ErrForm)
	}
	checkPlanCode(t, "of no programs, with very many Ids", impl.Plan{Ids: make([]int64, 100000), At: make([]int64, 100000)}, impl.ErrForm)
}

// progBreak is one thing that is wrong with the program at a place of a plan whose programs are alike.
type progBreak struct {
	name string
	want int64
	turn func(p *impl.Plan, place int)
}

// opBreaks are of the operations; each fault of one stands ahead, behind and alone.
func opBreaks() []progBreak {
	breaks := []progBreak{
		{"13 Ops", impl.ErrMany, func(p *impl.Plan, place int) { p.Progs[place].Ops = repeatedOp(getOf(1), 13) }},
		{"14 Ops", impl.ErrMany, func(p *impl.Plan, place int) { p.Progs[place].Ops = repeatedOp(getOf(1), 14) }},
		{"very many Ops", impl.ErrMany, func(p *impl.Plan, place int) { p.Progs[place].Ops = make([]impl.Op, 100000) }},
	}
	for _, o := range oddOps() {
		if code := wantedOpFault(o); code != impl.OK {
			breaks = append(breaks,
				progBreak{"the first op has a fault", code, func(p *impl.Plan, place int) { p.Progs[place].Ops[0] = o }},
				progBreak{"the second op has a fault", code, func(p *impl.Plan, place int) { p.Progs[place].Ops[1] = o }},
				progBreak{"the twelfth op has a fault", code, func(p *impl.Plan, place int) {
					p.Progs[place].Ops = append(repeatedOp(getOf(1), 11), o)
				}},
			)
		}
	}
	return breaks
}

// rangeBreaks are of the numbers At and Id.
func rangeBreaks() []progBreak {
	var breaks []progBreak
	for _, number := range []int64{math.MinInt64, math.MinInt64 + 1, -1 << 32, -256, -1, 3, 4, 256, 256 + 1, 1<<32 + 1, 1<<62 + 1, math.MaxInt64} {
		breaks = append(breaks, progBreak{"At is " + strconv.FormatInt(number, 10), impl.ErrRange, func(p *impl.Plan, place int) { p.At[place] = number }})
	}
	for _, number := range []int64{math.MinInt64, math.MinInt64 + 1, -1 << 32, -256, -1, 11, 12, 20, 256 + 1, 1000, 1<<32 + 1, 1<<62 + 1, math.MaxInt64} {
		breaks = append(breaks, progBreak{"Id is " + strconv.FormatInt(number, 10), impl.ErrRange, func(p *impl.Plan, place int) { p.Ids[place] = number }})
	}
	return breaks
}

// formBreaks are the clauses of ErrForm.
func formBreaks() []progBreak {
	return []progBreak{
		{"Id is 0 and At not", impl.ErrForm, func(p *impl.Plan, place int) { p.Ids[place] = 0 }},
		{"Id is 0 and At at the end", impl.ErrForm, func(p *impl.Plan, place int) { p.Ids[place], p.At[place] = 0, 2 }},
		{"the program is of the System", impl.ErrForm, func(p *impl.Plan, place int) { p.Progs[place].System = true }},
		{"the transaction is of the System", impl.ErrForm, func(p *impl.Plan, place int) { p.Engine.Txns[place].System = true }},
		{"it waits, and all are At their end", impl.ErrForm, func(p *impl.Plan, place int) {
			waitIn(p, place)
			p.At[place] = 2
		}},
		{"it waits, and there are no Ops", impl.ErrForm, func(p *impl.Plan, place int) {
			waitIn(p, place)
			p.Progs[place].Ops, p.At[place] = nil, 0
		}},
	}
}

// waitIn has the transaction of a program of evenPlan wait, but for no lock.
func waitIn(p *impl.Plan, place int) {
	own := &p.Engine.Txns[place]
	own.State, own.Wait = impl.TxnWaits, getOf(1)
}

func progBreaks() []progBreak {
	return slices.Concat(opBreaks(), rangeBreaks(), formBreaks())
}

func TestPlanFaultOfOneProgram(t *testing.T) {
	for _, wrong := range progBreaks() {
		for place := range 8 {
			p := evenPlan(8)
			wrong.turn(&p, place)
			checkPlanCode(t, wrong.name, p, wrong.want)
		}
		p := evenPlan(1)
		wrong.turn(&p, 0)
		checkPlanCode(t, wrong.name+", alone", p, wrong.want)
	}
	for place := 1; place < 8; place++ {
		for ahead := range place {
			p := evenPlan(8)
			p.Ids[place] = p.Ids[ahead]
			checkPlanCode(t, "the Id of one ahead", p, impl.ErrTaken)
		}
	}
}

// TestPlanFaultAtItsNumbers has what is just right beside what is one more.
func TestPlanFaultAtItsNumbers(t *testing.T) {
	for count := range 15 {
		p := evenPlan(2)
		p.Progs[1].Ops = repeatedOp(getOf(99), count)
		p.At[1] = 0
		checkPlanCode(t, "of some Ops", p, codeIf(count > 12, impl.ErrMany))
		for at := int64(-2); at <= int64(count)+2; at++ {
			p.At[1] = at
			want := codeIf(isOut(at, 0, int64(count)), impl.ErrRange)
			if count > 12 {
				want = impl.ErrMany
			}
			checkPlanCode(t, "of some Ops and At", p, want)
		}
	}
	for txns := range int64(21) {
		for id := int64(-2); id <= txns+2; id++ {
			p := impl.Plan{Engine: impl.Engine{Txns: liveTxns(txns, 0)}, Progs: progsNamed("u get 1"), Ids: []int64{id}, At: []int64{0}}
			checkPlanCode(t, "of some transactions and an Id", p, codeIf(isOut(id, 0, txns), impl.ErrRange))
		}
	}
	several := impl.Plan{Engine: impl.Engine{Txns: liveTxns(1, 0)}, Progs: progsNamed("u get 1 | u | s pack | u get 2"), Ids: []int64{0, 0, 0, 1}, At: []int64{0, 0, 0, 1}}
	checkPlanCode(t, "of several Ids that are 0", several, impl.OK)
	several.Ids[0] = 1
	checkPlanCode(t, "of an Id twice, 0 between", several, impl.ErrTaken)
}

// TestPlanFaultOfStates has a transaction of every state, of users and of the system, with At of every number.
func TestPlanFaultOfStates(t *testing.T) {
	codes := map[int64]int{}
	for id := int64(0); id <= 9; id++ {
		for _, progs := range []string{"u", "s", "u get 1", "s get 1", "u get 1; get 2", "s get 1; get 2"} {
			for at := int64(0); at <= int64(len(progsNamed(progs)[0].Ops)); at++ {
				p := planNamed(busyEngine(), progs, "")
				p.Ids, p.At = []int64{id}, []int64{at}
				atEnd := at == int64(len(p.Progs[0].Ops))
				waits := id == 2 || id == 7 || id == 8
				system := id == 5 || id == 6 || id == 7 || id == 9
				want := codeIf(id != 0 && (system != (progs[0] == 's') || waits && atEnd) || id == 0 && at != 0, impl.ErrForm)
				codes[want]++
				checkPlanCode(t, "of every state", p, want)
			}
		}
	}
	if codes[impl.OK] < 20 || codes[impl.ErrForm] < 20 {
		t.Errorf("the codes that came: %v", codes)
	}
}

// TestPlanFaultOfOneProgramTwice has two things wrong with one program, or more: the clause ahead is told.
func TestPlanFaultOfOneProgramTwice(t *testing.T) {
	many, form, bounds := repeatedOp(getOf(1), 13), []impl.Op{getOf(1), {}}, opsNamed("get 1; get 100")
	for _, c := range []struct {
		name string
		ops  []impl.Op
		id   int64
		at   int64
		sys  bool
		want int64
	}{
		{"13 Ops, one of no kind", append(form, many[:11]...), 2, 1, false, impl.ErrMany},
		{"13 Ops, one out of bounds", append(bounds, many[:11]...), 2, 1, false, impl.ErrMany},
		{"13 Ops, At below", many, 2, -1, false, impl.ErrMany},
		{"13 Ops, At behind", many, 2, 14, false, impl.ErrMany},
		{"13 Ops, Id below", many, -1, 1, false, impl.ErrMany},
		{"13 Ops, Id behind", many, 11, 1, false, impl.ErrMany},
		{"13 Ops, Id of one ahead", many, 1, 1, false, impl.ErrMany},
		{"13 Ops, Id is 0 and At not", many, 0, 1, false, impl.ErrMany},
		{"13 Ops, of the system", many, 2, 1, true, impl.ErrMany},
		{"13 Ops, waits at the end", many, 3, 13, false, impl.ErrMany},
		{"an op of no kind, At below", form, 2, -1, false, impl.ErrForm},
		{"an op of no kind, Id behind", form, 11, 1, false, impl.ErrForm},
		{"an op of no kind, Id of one ahead", form, 1, 1, false, impl.ErrForm},
		{"an op out of bounds, Id of one ahead", bounds, 1, 1, false, impl.ErrRange},
		{"an op out of bounds, Id is 0 and At not", bounds, 0, 1, false, impl.ErrRange},
		{"an op out of bounds, of the system", bounds, 2, 1, true, impl.ErrRange},
		{"an op out of bounds, waits at the end", bounds, 3, 2, false, impl.ErrRange},
		{"an op of no kind ahead of one out of bounds", []impl.Op{{}, getOf(100)}, 2, 1, false, impl.ErrForm},
		{"an op out of bounds ahead of one of no kind", []impl.Op{getOf(100), {}}, 2, 1, false, impl.ErrRange},
		{"At below, Id of one ahead", opsNamed("get 1"), 1, -1, false, impl.ErrRange},
		{"At behind, Id of one ahead", opsNamed("get 1"), 1, 2, false, impl.ErrRange},
		{"At below, Id is 0", opsNamed("get 1"), 0, -1, false, impl.ErrRange},
		{"At behind, Id is 0", opsNamed("get 1"), 0, 2, false, impl.ErrRange},
		{"At behind, of the system", opsNamed("get 1"), 2, 2, true, impl.ErrRange},
		{"At behind, waits", opsNamed("get 1"), 3, 2, false, impl.ErrRange},
		{"Id behind, of the system", opsNamed("get 1"), 11, 1, true, impl.ErrRange},
		{"Id and At below", opsNamed("get 1"), -1, -1, false, impl.ErrRange},
		{"Id of one ahead, of the system", opsNamed("get 1"), 1, 1, true, impl.ErrTaken},
		{"Id of one ahead that waits, at the end", opsNamed("get 1"), 4, 1, false, impl.ErrTaken},
		{"Id of one ahead that waits, at the end, of the system", opsNamed("get 1"), 4, 1, true, impl.ErrTaken},
		{"Id is 0 and At not, of the system", opsNamed("get 1"), 0, 1, true, impl.ErrForm},
		{"waits at the end, of the system", opsNamed("get 1"), 3, 1, true, impl.ErrForm},
		{"Id is 0, of the system", opsNamed("get 1"), 0, 0, true, impl.OK},
		{"waits ahead of the end", opsNamed("get 1"), 3, 0, false, impl.OK},
	} {
		p := evenPlan(3)
		p.Ids[1] = 4
		for _, txn := range []int{2, 3} {
			waitIn(&p, txn)
		}
		p.Progs[2], p.Ids[2], p.At[2] = impl.Prog{System: c.sys, Ops: c.ops}, c.id, c.at
		checkPlanCode(t, c.name, p, c.want)
	}
}

// TestPlanFaultGoesProgramByProgram has each thing wrong at one place, and another one behind it: the first one is told.
func TestPlanFaultGoesProgramByProgram(t *testing.T) {
	taken := progBreak{"the Id of one ahead", impl.ErrTaken, func(p *impl.Plan, place int) { p.Ids[place] = p.Ids[0] }}
	breaks := append(progBreaks(), taken)
	for _, first := range breaks {
		for _, second := range breaks {
			for _, at := range [][2]int{{1, 2}, {2, 7}} {
				p := evenPlan(8)
				first.turn(&p, at[0])
				second.turn(&p, at[1])
				if got := impl.PlanFault(p); got != first.want || wantedPlanFault(p) != first.want {
					t.Fatalf("PlanFault, %s, then %s: %d, want %d", first.name, second.name, got, first.want)
				}
			}
		}
	}
}

// TestNewPlanCodes has rows with every code, and programs with every code of theirs: those of the rows come first.
func TestNewPlanCodes(t *testing.T) {
	lists := map[string]int64{"": impl.OK, "u get 1 | s pack | u": impl.OK, "u get 100": impl.ErrRange, "u get 1 | s pack; put 1 10000": impl.ErrRange}
	for _, base := range oddBases() {
		for text, code := range lists {
			got, progs := impl.NewPlan(base, progsNamed(text)), progsNamed(text)
			want := wantedNewPlan(base, progs)
			if store := impl.NewEngine(base).Code; store != impl.OK {
				code = store
			}
			if got.Code != code || !same(got, want) || code != impl.OK && !same(got, impl.PlanResult{Code: code}) {
				t.Fatalf("NewPlan of %d rows and %q: %v, want the code %d", len(base), text, got, code)
			}
		}
		for _, progs := range [][]impl.Prog{make([]impl.Prog, 9), {{Ops: make([]impl.Op, 13)}}, {{Ops: make([]impl.Op, 1)}}} {
			if got := impl.NewPlan(base, progs); !same(got, wantedNewPlan(base, progs)) || got.Code == impl.OK {
				t.Fatalf("NewPlan of %d rows and wrong programs: %v", len(base), got)
			}
		}
	}
}

func TestNewPlanCodesOfPrograms(t *testing.T) {
	right := progsNamed("u get 1; put 2 3")[0]
	many := impl.Prog{Ops: repeatedOp(getOf(1), 13)}
	full := impl.Prog{System: true, Ops: repeatedOp(getOf(1), 12)}
	form, bounds := impl.Prog{Ops: []impl.Op{getOf(1), {Kind: impl.OpGet, High: 1}}}, impl.Prog{Ops: opsNamed("get 1; put 1 10000")}
	for _, c := range []struct {
		name  string
		progs []impl.Prog
		want  int64
	}{
		{"none", nil, impl.OK},
		{"7", slices.Repeat([]impl.Prog{right}, 7), impl.OK},
		{"8", slices.Repeat([]impl.Prog{right}, 8), impl.OK},
		{"8 of 12 Ops", slices.Repeat([]impl.Prog{full}, 8), impl.OK},
		{"9", slices.Repeat([]impl.Prog{right}, 9), impl.ErrMany},
		{"9 without Ops", make([]impl.Prog, 9), impl.ErrMany},
		{"very many", make([]impl.Prog, 100000), impl.ErrMany},
		{"9, one of them of a wrong form", append(slices.Repeat([]impl.Prog{right}, 8), form), impl.ErrMany},
		{"9, the first one out of bounds", append([]impl.Prog{bounds}, slices.Repeat([]impl.Prog{right}, 8)...), impl.ErrMany},
		{"8, the last one of 13 Ops", append(slices.Repeat([]impl.Prog{right}, 7), many), impl.ErrMany},
		{"8, the last one of a wrong form", append(slices.Repeat([]impl.Prog{right}, 7), form), impl.ErrForm},
		{"8, the last one out of bounds", append(slices.Repeat([]impl.Prog{right}, 7), bounds), impl.ErrRange},
		{"one of 13 Ops, one out of bounds", []impl.Prog{many, bounds}, impl.ErrMany},
		{"one out of bounds, one of 13 Ops", []impl.Prog{bounds, many}, impl.ErrRange},
		{"one of a wrong form, one of 13 Ops", []impl.Prog{right, form, many}, impl.ErrForm},
		{"one of a wrong form, one out of bounds", []impl.Prog{form, bounds}, impl.ErrForm},
		{"one out of bounds, one of a wrong form", []impl.Prog{bounds, form}, impl.ErrRange},
		{"one of 13 Ops, none of a kind", []impl.Prog{{Ops: make([]impl.Op, 13)}}, impl.ErrMany},
		{"one of 12 Ops, none of a kind", []impl.Prog{{Ops: make([]impl.Op, 12)}}, impl.ErrForm},
	} {
		got := impl.NewPlan(rowsNamed("1:10 5:50"), c.progs)
		if got.Code != c.want || !same(got, wantedNewPlan(rowsNamed("1:10 5:50"), c.progs)) || c.want != impl.OK && !same(got, impl.PlanResult{Code: c.want}) {
			t.Errorf("NewPlan, %s: %v, want the code %d", c.name, got, c.want)
		}
	}
	for _, o := range oddOps() {
		progs := []impl.Prog{right, {System: true, Ops: []impl.Op{getOf(1), o}}, right}
		if got := impl.NewPlan(nil, progs); got.Code != wantedOpFault(o) || !same(got, wantedNewPlan(nil, progs)) {
			t.Errorf("NewPlan with %v: %v, want the code %d", o, got, wantedOpFault(o))
		}
	}
}

func TestStepPlanPicks(t *testing.T) {
	for count := range 9 {
		p := evenPlan(count)
		for _, pick := range slices.Concat([]int64{math.MinInt64, math.MinInt64 + 1, -1 << 32, -256, 256, 1 << 32, 1<<32 + 1, 1<<62 + 1, math.MaxInt64}, numbersTo(-3, int64(count)+3)) {
			got := stepped(t, p, pick)
			if isOut(pick, 0, int64(count)-1) && !same(got, impl.PlanResult{Code: impl.ErrRange}) {
				t.Fatalf("StepPlan of %d, of %d programs: %v, want ErrRange", pick, count, got)
			}
			if !isOut(pick, 0, int64(count)-1) && (got.Code != impl.OK || !got.Moved || got.Plan.At[pick] != 2) {
				t.Fatalf("StepPlan of %d, of %d programs: %v, want no code", pick, count, got)
			}
		}
	}
}

func TestRunPlanPicks(t *testing.T) {
	p := evenPlan(3)
	picks := func(count int, rest ...int64) []int64 { return append(make([]int64, count), rest...) }
	for _, c := range []struct {
		name  string
		picks []int64
		want  int64
	}{
		{"none", nil, impl.OK},
		{"none, not nil", []int64{}, impl.OK},
		{"the first place", []int64{0}, impl.OK},
		{"the last place", []int64{2}, impl.OK},
		{"behind the last place", []int64{3}, impl.ErrRange},
		{"below", []int64{-1}, impl.ErrRange},
		{"199", picks(199), impl.OK},
		{"200", picks(200), impl.OK},
		{"200, the last one the last place", picks(199, 2), impl.OK},
		{"201", picks(201), impl.ErrMany},
		{"very many", picks(100000), impl.ErrMany},
		{"201, the first one no place", append([]int64{-1}, picks(200)...), impl.ErrMany},
		{"201, the last one no place", picks(200, 3), impl.ErrMany},
		{"201, none of them a place", slices.Repeat([]int64{9}, 201), impl.ErrMany},
		{"200, the last one no place", picks(199, 3), impl.ErrRange},
		{"200, none of them a place", slices.Repeat([]int64{9}, 200), impl.ErrRange},
	} {
		got := ranPlan(t, p, c.picks)
		if got.Code != c.want || c.want != impl.OK && !same(got, impl.PlanResult{Code: c.want}) {
			t.Errorf("RunPlan, %s: %v, want the code %d", c.name, got, c.want)
		}
	}
	for at := range 200 {
		for _, pick := range []int64{math.MinInt64, -1, 3, 1 << 32, math.MaxInt64} {
			wrong := picks(200)
			wrong[at] = pick
			if got := impl.RunPlan(p, wrong); !same(got, impl.PlanResult{Code: impl.ErrRange}) {
				t.Fatalf("RunPlan with %d at %d: %v, want ErrRange", pick, at, got)
			}
			if got := impl.RunPlan(p, wrong[:at+1]); !same(got, impl.PlanResult{Code: impl.ErrRange}) {
				t.Fatalf("RunPlan with %d at the end of %d: %v, want ErrRange", pick, at+1, got)
			}
		}
	}
	if got := impl.RunPlan(impl.Plan{}, []int64{0}); !same(got, impl.PlanResult{Code: impl.ErrRange}) {
		t.Errorf("RunPlan of a pick, and no programs: %v", got)
	}
	if got := impl.RunPlan(impl.Plan{}, nil); !same(got, impl.PlanResult{}) {
		t.Errorf("RunPlan of no picks, and no programs: %v", got)
	}
}
