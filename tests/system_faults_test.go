package tests

import (
	"slices"
	"testing"

	"loop.example/g00270/impl"
)

// checkSystemCode asks all that work of the system asks first: they tell the code alone.
func checkSystemCode(t *testing.T, name string, e impl.Engine, lists [][]impl.Op, want int64) {
	t.Helper()
	if got := impl.GhostsOf(e); !same(got, impl.IntsResult{Code: want}) {
		t.Fatalf("GhostsOf, %s: %v, want the code %d", name, got, want)
	}
	for _, got := range []impl.SystemResult{impl.CleanEngine(e), impl.PackEngine(e), impl.BuildEngine(e)} {
		if !same(got, impl.SystemResult{Code: want}) {
			t.Fatalf("work of the system, %s: %v, want the code %d", name, got, want)
		}
	}
	for _, ops := range lists {
		if got := impl.RunSystem(e, ops); !same(got, impl.SystemResult{Code: want}) {
			t.Fatalf("RunSystem, %s, of %d ops: %v, want the code %d", name, len(ops), got, want)
		}
	}
}

// oddLists has lists of ops with every code of their own, and with none.
func oddLists() [][]impl.Op {
	return [][]impl.Op{
		nil, {}, opsNamed("pack"), opsNamed("clean 5; build"), repeatedOp(opNamed("pack"), 111),
		{{}}, opsNamed("clean 100"), opsNamed("get 1"), repeatedOp(impl.Op{Kind: 11, Key: 100}, 1000),
	}
}

func TestSystemAsksTheEngineFirst(t *testing.T) {
	for _, wrong := range allBreaks() {
		e := busyEngine()
		wrong.turn(&e)
		checkSystemCode(t, wrong.part+", "+wrong.name, e, oddLists(), wrong.want)
	}
}

// TestSystemAsksTheFaultsInTheirOrder has each two things wrong that are of two parts: the one whose clause stands ahead is told.
func TestSystemAsksTheFaultsInTheirOrder(t *testing.T) {
	breaks := allBreaks()
	lists := [][]impl.Op{opsNamed("clean 100")}
	for i, first := range breaks {
		for _, second := range breaks[i+1:] {
			if first.part != second.part {
				e := busyEngine()
				first.turn(&e)
				second.turn(&e)
				checkSystemCode(t, first.part+", "+first.name+", and "+second.part+", "+second.name, e, lists, first.want)
			}
		}
	}
}

func TestRunSystemCodesOfOps(t *testing.T) {
	for _, c := range []struct {
		name string
		ops  []impl.Op
		want int64
	}{
		{"none", nil, impl.OK},
		{"109", repeatedOp(opNamed("clean 99"), 109), impl.OK},
		{"110", repeatedOp(opNamed("clean 99"), 110), impl.OK},
		{"111", repeatedOp(opNamed("clean 99"), 111), impl.ErrMany},
		{"112", repeatedOp(opNamed("pack"), 112), impl.ErrMany},
		{"very many", repeatedOp(opNamed("build"), 100000), impl.ErrMany},
		{"111 of no kind", make([]impl.Op, 111), impl.ErrMany},
		{"110 of no kind", make([]impl.Op, 110), impl.ErrForm},
		{"111, the first one out of bounds", append(opsNamed("clean 100"), repeatedOp(opNamed("pack"), 110)...), impl.ErrMany},
		{"110, the first one out of bounds", append(opsNamed("clean 100"), repeatedOp(opNamed("pack"), 109)...), impl.ErrRange},
		{"110, the last one out of bounds", append(repeatedOp(opNamed("pack"), 109), opNamed("clean -1")), impl.ErrRange},
		{"110, the last one of users", append(repeatedOp(opNamed("pack"), 109), opNamed("get 1")), impl.ErrForm},
		{"of no kind", []impl.Op{{}}, impl.ErrForm},
		{"get", opsNamed("get 1"), impl.ErrForm},
		{"put", opsNamed("put 1 1"), impl.ErrForm},
		{"delete", opsNamed("delete 1"), impl.ErrForm},
		{"scan", opsNamed("scan 0 9"), impl.ErrForm},
		{"find", opsNamed("find 3"), impl.ErrForm},
		{"commit", opsNamed("commit"), impl.ErrForm},
		{"abort", opsNamed("abort"), impl.ErrForm},
		{"commit behind others", opsNamed("clean 5; pack; commit"), impl.ErrForm},
		{"get out of bounds: its fault is asked ahead", opsNamed("get 100"), impl.ErrRange},
		{"put out of bounds", opsNamed("put 1 10000"), impl.ErrRange},
		{"delete out of bounds", opsNamed("delete -1"), impl.ErrRange},
		{"scan out of bounds", opsNamed("scan 0 100"), impl.ErrRange},
		{"find out of bounds", opsNamed("find 10000"), impl.ErrRange},
		{"clean out of bounds", opsNamed("clean 100"), impl.ErrRange},
		{"pack with a field", []impl.Op{{Kind: impl.OpPack, Key: 1}}, impl.ErrForm},
		{"build with a field", []impl.Op{{Kind: impl.OpBuild, Value: -1}}, impl.ErrForm},
		{"clean with a field that it has not", []impl.Op{{Kind: impl.OpClean, Key: 5, High: 1}}, impl.ErrForm},
		{"one of users, then one out of bounds", opsNamed("get 1; clean 100"), impl.ErrForm},
		{"one out of bounds, then one of users", opsNamed("clean 100; get 1"), impl.ErrRange},
		{"one of users, then one of users out of bounds", opsNamed("commit; put 100 1"), impl.ErrForm},
		{"one that is right, one of users, one out of bounds", opsNamed("pack; scan 0 9; clean 100"), impl.ErrForm},
		{"one that is right, one out of bounds, one of users", opsNamed("pack; clean 100; scan 0 9"), impl.ErrRange},
	} {
		if code := wantedOpsCode(c.ops); code != c.want {
			t.Fatalf("what is leant on elsewhere tells %d, %s, want %d", code, c.name, c.want)
		}
		for _, e := range []impl.Engine{{}, smallEngine(false, true), busyEngine()} {
			if got := run(t, e, c.ops); got.Code != c.want || got.Code != impl.OK && !same(got, impl.SystemResult{Code: c.want}) {
				t.Errorf("RunSystem, %s: %v, want the code %d", c.name, got, c.want)
			}
		}
	}
}

// TestRunSystemOfEveryTwoOps has each two operations behind one another, where nobody is in the way and where all is one's own.
func TestRunSystemOfEveryTwoOps(t *testing.T) {
	codes := map[int64]int{}
	free, locked := smallEngine(false, false), lockedEngine(2, "0 1:x 2?s")
	for _, first := range oddOps() {
		for _, second := range oddOps() {
			ops := []impl.Op{first, second}
			got := run(t, free, ops)
			codes[got.Code]++
			if other := run(t, locked, ops); other.Code != got.Code || other.Done {
				t.Fatalf("RunSystem of %v: the code %d, and %d where all is one's own", ops, got.Code, other.Code)
			}
		}
	}
	if codes[impl.OK] != 9 || codes[impl.ErrForm] < 50 || codes[impl.ErrRange] < 50 || len(codes) != 3 {
		t.Errorf("the codes that came: %v", codes)
	}
}

func TestRunSystemOutOfBounds(t *testing.T) {
	check := func(o impl.Op, want int64) {
		t.Helper()
		for _, ops := range [][]impl.Op{{o}, {o, {}}, {opNamed("pack"), o, opNamed("clean 100"), opNamed("get 1")}} {
			if got := impl.RunSystem(busyEngine(), ops); !same(got, impl.SystemResult{Code: want}) {
				t.Fatalf("RunSystem of %v: %v, want the code %d", ops, got, want)
			}
		}
	}
	for _, kind := range wrongKinds() {
		check(impl.Op{Kind: kind}, impl.ErrForm)
		check(impl.Op{Kind: kind, Key: 100}, impl.ErrForm)
	}
	for kind, fields := range fieldsByKind() {
		for _, field := range opFieldsOf() {
			has := slices.Contains([]byte(fields), field.name[0])
			for _, number := range slices.Concat(wrongKeys(), wrongValues()) {
				o := impl.Op{Kind: kind}
				*field.of(&o) = number
				switch {
				case has && (number < 0 || number > field.bound):
					check(o, impl.ErrRange)
				case !has:
					check(o, impl.ErrForm)
				}
			}
		}
	}
}

// TestRunSystemCodesOfBeginning has as many transactions as there may be, and a log without room for a beginning and an end.
func TestRunSystemCodesOfBeginning(t *testing.T) {
	ops := []string{"", "pack", "build", "clean 5", "clean 5; pack; build"}
	for _, c := range roomCases() {
		e := c.engineOf(3)
		for _, text := range ops {
			got := run(t, e, opsNamed(text))
			if got.Code != c.code || got.Done != (c.code == impl.OK) {
				t.Errorf("RunSystem of %q, %s: %v, want the code %d", text, c.name, got, c.code)
			}
			if room := impl.RoomOf(got.Engine); got.Done && room != (impl.IntResult{Value: c.room - 10}) {
				t.Errorf("RunSystem of %q, %s: the room is %v then", text, c.name, room)
			}
		}
		for _, bad := range [][]impl.Op{{{}}, opsNamed("clean 100"), opsNamed("get 1"), repeatedOp(opNamed("pack"), 111)} {
			if got := impl.RunSystem(e, bad); !same(got, impl.SystemResult{Code: wantedOpsCode(bad)}) {
				t.Errorf("RunSystem of %d wrong ops, %s: %v", len(bad), c.name, got)
			}
		}
		for _, got := range tidied(t, e) {
			if got.Code != c.code || got.Code != impl.OK && !same(got, impl.SystemResult{Code: c.code}) {
				t.Errorf("work of the system, %s: %v, want the code %d", c.name, got, c.code)
			}
		}
	}
}

// TestRoomForGivingUp has a log with just as much room as one needs that begins and gives up, and a byte less.
func TestRoomForGivingUp(t *testing.T) {
	for room, want := range map[int64]int64{9: impl.ErrMany, 10: impl.OK, 11: impl.OK} {
		e := lockedEngine(2, "0 1:x 2?s")
		e.Wal = impl.Wal{Sure: logBytes(2000), Loose: logBytes(int(1990 - room))}
		checkEngineFault(t, "just as much room", e, impl.OK)
		for _, text := range []string{"pack", "build", "clean 5"} {
			got := run(t, e, opsNamed(text))
			if got.Code != want || got.Done || want == impl.OK && impl.RoomOf(got.Engine).Value != room-10 {
				t.Errorf("%s with the room %d: %v, want the code %d", text, room, got, want)
			}
		}
	}
}

// actsCase is work of the system in an engine that has so many acts already.
type actsCase struct {
	name  string
	acts  int64
	ops   []impl.Op
	code  int64
	found bool // the answer has the engine as it was at first
}

func actsCases() []actsCase {
	packs := func(count int) []impl.Op { return repeatedOp(opNamed("pack"), count) }
	return []actsCase{
		{"no ops, room for the end", 199, nil, impl.OK, false},
		{"no ops, no room for the end", 200, nil, impl.ErrMany, false},
		{"no ops, as many acts as there may be", 220, nil, impl.ErrMany, false},
		{"one, room for both", 198, packs(1), impl.OK, false},
		{"one, no room for the end", 199, packs(1), impl.ErrMany, false},
		{"one, no room for it", 200, packs(1), impl.ErrMany, true},
		{"one, as many acts as there may be", 220, packs(1), impl.ErrMany, true},
		{"50, room for all", 149, packs(50), impl.OK, false},
		{"50, no room for the end", 150, packs(50), impl.ErrMany, false},
		{"50, no room for the last one", 151, packs(50), impl.ErrMany, true},
		{"50, no room for the first one", 200, packs(50), impl.ErrMany, true},
		{"110, room for all", 89, packs(110), impl.OK, false},
		{"110, no room for the end", 90, packs(110), impl.ErrMany, false},
		{"110, no room for the last one", 91, packs(110), impl.ErrMany, true},
		{"of each kind, room for all", 196, opsNamed("clean 5; pack; build"), impl.OK, false},
		{"of each kind, no room for the end", 197, opsNamed("clean 5; pack; build"), impl.ErrMany, false},
		{"of each kind, no room for the last one", 198, opsNamed("clean 5; pack; build"), impl.ErrMany, true},
		{"of each kind, no room for two", 199, opsNamed("clean 5; pack; build"), impl.ErrMany, true},
	}
}

// TestRunSystemWithoutRoomForActs: with a code of one of the ops the engine is as at first, with that of the end there is none.
func TestRunSystemWithoutRoomForActs(t *testing.T) {
	for _, c := range actsCases() {
		for _, built := range []bool{false, true} {
			e := smallEngine(false, built)
			e.Acts = manyActs(c.acts)
			checkEngineFault(t, c.name, e, impl.OK)
			want := impl.SystemResult{Code: c.code}
			if c.found {
				want.Engine = bareOf(e)
			}
			got := run(t, e, c.ops)
			if c.code == impl.OK {
				want = impl.SystemResult{Done: true, Engine: got.Engine}
			}
			if !same(got, want) || c.code == impl.OK && int64(len(got.Engine.Acts)) != c.acts+int64(len(c.ops))+1 {
				t.Errorf("RunSystem, %s: %v, want the code %d", c.name, got, c.code)
			}
		}
	}
}

// TestGivingUpWithoutRoomForActs has one in the way: an operation that there is no room for is not tried, and who gives up has an act more all the same.
func TestGivingUpWithoutRoomForActs(t *testing.T) {
	for _, c := range []struct {
		name string
		acts int64
		ops  string
		done string
		code int64
	}{
		{"room for the first one", 199, "clean 5", "", impl.OK},
		{"no room for the first one", 200, "clean 5", "", impl.ErrMany},
		{"as many acts as there may be", 220, "clean 5", "", impl.ErrMany},
		{"room for the second one", 198, "pack; clean 5; pack", "pack", impl.OK},
		{"no room for the second one", 199, "pack; clean 5; pack", "pack", impl.ErrMany},
	} {
		e := lockedEngine(2, "0 1:is | 6 1:s")
		e.Acts = manyActs(c.acts)
		want := impl.SystemResult{Engine: gaveUp(e, c.done)}
		if c.done != "" {
			want.Engine.Leaves = tidiedLeaves()["packed"]
		}
		if c.code != impl.OK {
			want = impl.SystemResult{Code: c.code, Engine: bareOf(e)}
		}
		if got := run(t, e, opsNamed(c.ops)); !same(got, want) {
			t.Errorf("RunSystem, %s: %v, want %v", c.name, got, want)
		}
	}
}

// TestCleanWithoutRoomForActs has more ghosts than acts can be told of.
func TestCleanWithoutRoomForActs(t *testing.T) {
	for acts, code := range map[int64]int64{0: impl.OK, 98: impl.OK, 99: impl.OK, 100: impl.ErrMany, 101: impl.ErrMany, 200: impl.ErrMany, 220: impl.ErrMany} {
		e := ghostsAlone()
		e.Txns, e.Acts = liveTxns(1, 0), manyActs(acts)
		want := impl.SystemResult{Code: code}
		if acts > 100 {
			want.Engine = bareOf(e)
		}
		got := clean(t, e)
		if got.Code != code || code != impl.OK && !same(got, want) || got.Done != (code == impl.OK) {
			t.Errorf("CleanEngine with %d acts: %v, want the code %d", acts, got, code)
		}
	}
	for _, acts := range []int64{198, 199, 200} {
		e := smallEngine(false, true)
		e.Acts = manyActs(acts)
		for _, got := range []impl.SystemResult{pack(t, e), build(t, e)} {
			if got.Done != (acts == 198) || (got.Code == impl.ErrMany) != (acts > 198) || acts == 200 && !same(got.Engine, e) || acts == 199 && !same(got.Engine, impl.Engine{}) {
				t.Errorf("work of the system with %d acts: %v", acts, got)
			}
		}
	}
}
