package tests

import (
	"slices"
	"strconv"
	"strings"
	"testing"

	"loop.example/g00270/impl"
)

// keyStore is a new store of the keys 0 to 9, each with 10 times itself.
func keyStore() impl.Engine {
	var base []impl.Row
	for key := range int64(10) {
		base = append(base, row(key, key*10))
	}
	return impl.NewEngine(base).Engine
}

// begun has transactions begin: "u" for one of a user, "s" for one of the system.
func begun(e impl.Engine, who string) impl.Engine {
	for _, letter := range who {
		e = impl.BeginTxn(e, letter == 's').Engine
	}
	return e
}

func TestDoOpCircles(t *testing.T) {
	for _, c := range []struct {
		name, who, lines, last, came, states, locks string
	}{
		{"of two, the greatest asks last", "uu", "1 put 0 7; 2 put 1 8; 1 get 1", "2 get 0", "victim over 2", "waits gone", "0 1:ix | 1 1:x | 2 1:s"},
		{"of two, the least asks last", "uu", "1 put 0 7; 2 put 1 8; 2 get 0", "1 get 1", "ok 10 over 2", "live gone", "0 1:ix | 1 1:x | 2 1:s"},
		{"of two, the least is of the system and asks last", "su", "1 clean 0; 2 put 1 8; 2 get 0", "1 get 1", "victim over 1", "gone waits", "0 2:ix | 1 2:s | 2 2:x"},
		{"of two, the least is of the system", "su", "1 clean 0; 2 put 1 8; 1 get 1", "2 get 0", "ok 0 over 1", "gone live", "0 2:ix | 1 2:s | 2 2:x"},
		{"of two, both are of the system", "ss", "1 clean 0; 2 clean 1; 2 get 0", "1 get 1", "ok 10 over 2", "live gone", "0 1:ix | 1 1:x | 2 1:s"},
		{"of two of the system, the greatest asks last", "ss", "1 clean 0; 2 clean 1; 1 get 1", "2 get 0", "victim over 2", "waits gone", "0 1:ix | 1 1:x | 2 1:s"},
		{"of two, beside one of the system that is in no circle", "uus", "3 get 5; 1 put 0 7; 2 put 1 8; 1 get 1", "2 get 0", "victim over 2", "waits gone live", "0 3:is 1:ix | 1 1:x | 2 1:s | 6 3:s"},
		{"of two, who both read one key and put it", "uu", "1 get 3; 2 get 3; 1 put 3 1", "2 put 3 2", "victim over 2", "waits gone", "0 1:ix | 4 1:x"},
		{"of two, who both read one key and put it, the least last", "uu", "1 get 3; 2 get 3; 2 put 3 1", "1 put 3 2", "ok over 2", "live gone", "0 1:ix | 4 1:x"},
		{"through the whole, who both scan and put", "uu", "1 scan 0 1; 2 scan 5 6; 1 put 0 7", "2 put 9 9", "victim over 2", "waits gone", "0 1:six"},
		{"through the whole, the least last", "uu", "1 scan 0 1; 2 scan 5 6; 2 put 9 9", "1 put 0 7", "ok over 2", "live gone", "0 1:six | 1 1:x"},
		{"through the whole, one scans and one puts", "uu", "1 put 0 7; 2 put 1 8; 1 scan 0 9", "2 scan 0 9", "victim over 2", "waits gone", "0 1:six | 1 1:x"},
		{"through the whole and a key", "uu", "1 get 0; 2 scan 0 9; 1 get 5; 2 put 0 5", "1 put 9 9", "ok over 2", "live gone", "0 1:ix | 1 1:s | 6 1:s | 10 1:x"},
		{"through the whole, one builds", "us", "1 put 0 7; 2 clean 1; 2 build", "1 get 1", "ok 10 over 2", "live gone", "0 1:ix | 1 1:x | 2 1:s"},
		{"of three", "uuu", "1 put 0 1; 2 put 1 1; 3 put 2 1; 1 get 1; 2 get 2", "3 get 0", "victim over 3", "waits waits gone", "0 1:ix 2:ix | 1 1:x | 2 2:x 1?s | 3 2:s"},
		{"of three, the one between is of the system", "usu", "1 put 0 1; 2 clean 1; 3 put 2 1; 1 get 1; 2 get 2", "3 get 0", "waits over 2", "waits gone waits", "0 1:ix 3:ix | 1 1:x 3?s | 2 1:s | 3 3:x"},
		{"of three, the greatest one waits", "uuu", "1 put 0 1; 2 put 1 1; 3 put 2 1; 3 get 0; 2 get 2", "1 get 1", "waits over 3", "waits waits gone", "0 1:ix 2:ix | 1 1:x | 2 2:x 1?s | 3 2:s"},
		{"of three, who gives way lets the one in who asks", "uuu", "1 put 0 1; 3 put 1 1; 2 put 2 1; 3 get 2; 2 get 0", "1 get 1", "ok 10 over 3", "live waits gone", "0 1:ix 2:ix | 1 1:x 2?s | 2 1:s | 3 2:x"},
		{"through one who waits ahead", "uuu", "1 get 0; 2 put 1 1; 2 put 0 5; 3 get 5; 3 get 0", "1 get 1", "ok 10 over 2", "live gone waits", "0 1:is 3:is | 1 1:s 3:s | 2 1:s | 6 3:s"},
		{"of two, one of them the head of a queue", "uuu", "1 put 0 1; 2 put 1 1; 3 get 1; 2 get 0", "1 get 1", "ok 10 over 2", "live gone waits", "0 1:ix 3:is | 1 1:x | 2 3:s 1:s"},
	} {
		ahead := begun(keyStore(), c.who)
		if c.lines != "" {
			ahead = play(t, ahead, c.lines).Engine
		}
		got := play(t, ahead, c.last)
		if cameTo(got) != c.came || statesIn(got.Engine) != c.states || !sameLocks(got.Engine.Locks, locksOf(c.locks)) {
			t.Errorf("a circle %s: %s, %s, %v; want %s, %s, %s", c.name, cameTo(got), statesIn(got.Engine), got.Engine.Locks, c.came, c.states, c.locks)
		}
	}
}

// TestCirclesBehindOneAnother has one who asks be in several circles at once.
func TestCirclesBehindOneAnother(t *testing.T) {
	for _, c := range []struct {
		name, who, lines, last, came, states string
	}{
		{"two circles, all others give way", "uuu", "1 put 0 1; 2 get 1; 3 get 1; 2 get 0; 3 get 0", "1 put 1 1", "ok over 2 3", "live gone gone"},
		{"three circles", "uuuu", "1 put 0 1; 2 get 1; 3 get 1; 4 get 1; 4 get 0; 3 get 0; 2 get 0", "1 put 1 1", "ok over 2 3 4", "live gone gone gone"},
		{"two circles, the one who asks gives way at the second", "suu", "3 put 0 1; 1 get 1; 2 get 1; 1 get 0; 2 get 0", "3 put 1 1", "victim over 1 3", "gone waits gone"},
		{"two circles, the one who asks gives way at the first", "uuu", "3 put 0 1; 1 get 1; 2 get 1; 1 get 0; 2 get 0", "3 put 1 1", "victim over 3", "waits waits gone"},
		{"one circle, and one who is in none is waited for still", "uuu", "1 put 0 1; 2 get 1; 3 get 1; 2 get 0", "1 put 1 1", "waits over 2", "waits gone live"},
		{"two circles, of the system both", "ssu", "3 put 0 1; 1 get 1; 2 get 1; 1 get 0; 2 get 0", "3 put 1 1", "ok over 1 2", "gone gone live"},
		{"two circles, and one more who is waited for", "usus", "1 put 0 1; 2 get 1; 3 get 1; 4 get 1; 2 get 0; 4 get 0", "1 put 1 1", "waits over 2 4", "waits gone live gone"},
		{"through the whole, and one who scans is waited for still", "uuu", "1 scan 0 9; 2 scan 0 9; 3 scan 0 9; 2 put 2 2; 3 get 3", "1 put 0 1", "waits over 2", "waits gone live"},
		{"a circle at the first lock, and one to be waited for at the second", "uuu", "1 get 3; 2 scan 0 9; 3 get 0; 1 get 4; 2 put 3 1; 3 get 5", "1 put 0 1", "waits over 2", "waits gone live"},
	} {
		ahead := play(t, begun(keyStore(), c.who), c.lines).Engine
		got := play(t, ahead, c.last)
		if cameTo(got) != c.came || statesIn(got.Engine) != c.states {
			t.Errorf("%s: %s, %s; want %s, %s", c.name, cameTo(got), statesIn(got.Engine), c.came, c.states)
		}
	}
}

// TestBothLocksBringACircle has one who asks let in at the whole and at the key by those who give way.
func TestBothLocksBringACircle(t *testing.T) {
	e := lockedEngine(3, "0 1:is 2:s 3:is | 2 1:x 2?s 3?s | 9 3:x")
	got := do(t, e, 1, opNamed("put 8 1"))
	want := locksOf("0 1:ix | 2 1:x | 9 1:x")
	if cameTo(got) != "ok over 2 3" || statesIn(got.Engine) != "live gone gone" || !sameLocks(got.Engine.Locks, want) {
		t.Errorf("circles at both locks: %s, %s, %v", cameTo(got), statesIn(got.Engine), got.Engine.Locks)
	}
	e = lockedEngine(3, "0 3:is 2:s 1:is | 2 3:x 2?s 1?s | 9 1:x")
	e.Txns[1].System = true
	got = do(t, e, 3, opNamed("put 8 1"))
	want = locksOf("0 1:is | 2 1:s | 9 1:x")
	if cameTo(got) != "victim over 2 3" || statesIn(got.Engine) != "waits gone gone" || !sameLocks(got.Engine.Locks, want) {
		t.Errorf("let in at the first lock, given way at the second: %s, %s, %v", cameTo(got), statesIn(got.Engine), got.Engine.Locks)
	}
}

// TestVictimIsTakenBack tells by hand all that is left of one that gave way, with and without an index.
func TestVictimIsTakenBack(t *testing.T) {
	for _, built := range []bool{false, true} {
		e := begun(impl.NewEngine([]impl.Row{row(0, 3), row(1, 4), row(2, 3)}).Engine, "suu")
		if built {
			e = play(t, e, "1 build").Engine
		}
		e = play(t, e, "1 commit; 2 get 0; 3 put 1 9; 3 put 5 3; 3 delete 2; 3 put 1 3; 2 get 1").Engine
		want := bareOf(e)
		want.Leaves = []impl.Leaf{leaf(row(0, 3), row(1, 4), row(2, 3), ghost(5))}
		want.Wal.Loose = append(want.Wal.Loose, recsData(
			change(impl.LogBack, 3, 1, some{true, 3}, some{true, 9}), change(impl.LogBack, 3, 2, some{}, some{true, 3}),
			change(impl.LogBack, 3, 5, some{true, 3}, some{}), change(impl.LogBack, 3, 1, some{true, 9}, some{true, 4}), plain(impl.LogEnd, 3),
		)...)
		if built {
			want.Index = pairsNamed("3:0 3:2 4:1")
		}
		want.Txns[2] = impl.Txn{Id: 3, State: impl.TxnGone}
		want.Locks = locksOf("0 2:is | 1 2:s | 2 2:s")
		want.Acts = append(want.Acts, act(3, opNamed("abort")))
		checkOtherVictim(t, e, want)
		got := do(t, e, 3, opNamed("put 0 1"))
		if !same(got, impl.EngineResult{Code: impl.ErrVictim, Victims: []int64{3}, Engine: want}) {
			t.Errorf("one that gave way itself: %v, want %v", got, want)
		}
		if cameTo(play(t, got.Engine, "resume 2")) != "ok 4" {
			t.Errorf("the other one is told %v", play(t, got.Engine, "resume 2"))
		}
	}
}

// checkOtherVictim has 2, which waits for a value of 3, resumed instead, so that 3 waits already when the circle is closed.
func checkOtherVictim(t *testing.T, e, want impl.Engine) {
	t.Helper()
	e, want = bareOf(e), bareOf(want)
	for _, turned := range []*impl.Engine{&e, &want} {
		turned.Txns[1] = impl.Txn{Id: 2, State: impl.TxnLive}
	}
	e.Locks = locksOf("0 2:is 3:ix | 1 2:s 3?x | 2 3:x | 3 3:x | 6 3:x")
	e.Txns[2].State, e.Txns[2].Wait = impl.TxnWaits, opNamed("put 0 1")
	want.Acts = append(want.Acts, act(2, opNamed("get 1"), 4))
	if got := do(t, e, 2, opNamed("get 1")); !same(got, impl.EngineResult{Answer: []int64{4}, Victims: []int64{3}, Engine: want}) {
		t.Errorf("another one that gave way: %v, want %v", got, want)
	}
}

// TestActsBehindAVictim tells the order of acts: who gave way stands ahead of what is done then.
func TestActsBehindAVictim(t *testing.T) {
	got := play(t, begun(keyStore(), "uuu"), "1 put 0 1; 2 get 1; 3 get 1; 2 get 0; 3 get 0; 1 put 1 1")
	want := []impl.Act{
		act(1, opNamed("put 0 1")), act(2, opNamed("get 1"), 10), act(3, opNamed("get 1"), 10),
		act(2, opNamed("abort")), act(3, opNamed("abort")), act(1, opNamed("put 1 1")),
	}
	if !same(got.Engine.Acts, want) {
		t.Errorf("acts: %v, want %v", got.Engine.Acts, want)
	}
	waits := play(t, begun(keyStore(), "uuu"), "1 put 0 1; 2 get 1; 3 get 1; 2 get 0; 1 put 1 1")
	if !waits.Waits || !same(waits.Engine.Acts, []impl.Act{want[0], want[1], want[2], want[3]}) || waits.Engine.Txns[0].Wait != opNamed("put 1 1") {
		t.Errorf("one who waits behind a victim: %v", waits)
	}
}

func TestResumeTxnCases(t *testing.T) {
	for _, c := range []struct {
		name, who, lines, last, came, states string
	}{
		{"is let in, and is told what there is then", "uu", "1 put 0 7; 2 get 0; 1 commit", "resume 2", "ok 7", "done live"},
		{"is told what was there, if the other one aborts", "uu", "1 put 0 7; 2 get 0; 1 abort", "resume 2", "ok 0", "gone live"},
		{"waits still", "uu", "1 put 0 7; 2 get 0", "resume 2", "code 8", ""},
		{"does not wait", "uu", "1 put 0 7", "resume 2", "code 10", ""},
		{"is let in at the whole, and waits at the key", "uuu", "1 scan 0 9; 3 get 0; 2 put 0 7; 1 commit", "resume 2", "waits", "done waits live"},
		{"waits at the key, and is let in then", "uuu", "1 scan 0 9; 3 get 0; 2 put 0 7; 1 commit; resume 2; 3 commit", "resume 2", "ok", "done live done"},
		{"is let in at the whole, and closes a circle", "uuu", "1 scan 0 9; 3 get 0; 2 get 1; 2 put 0 7; 1 commit; 3 put 1 1", "resume 2", "ok over 3", "done live gone"},
		{"is let in at the whole, and gives way", "uuu", "1 scan 0 9; 2 get 0; 3 get 1; 3 put 0 7; 1 commit; 2 put 1 1", "resume 3", "victim over 3", "done waits gone"},
		{"a delete", "uu", "1 get 0; 2 delete 0; 1 commit", "resume 2", "ok", "done live"},
		{"a scan", "uu", "1 put 0 7; 2 scan 0 1; 1 commit", "resume 2", "ok 0 7 1 10", "done live"},
		{"a build", "us", "1 put 0 7; 2 build; 1 abort", "resume 2", "ok", "gone live"},
		{"a clean", "us", "1 delete 0; 2 clean 0; 1 commit", "resume 2", "ok", "done live"},
		{"once more, when it is done", "uu", "1 put 0 7; 2 get 0; 1 commit; resume 2", "resume 2", "code 10", ""},
		{"two who waited, one behind the other", "uuu", "1 put 0 7; 2 get 0; 3 get 0; 1 commit; resume 2", "resume 3", "ok 7", "done live live"},
	} {
		ahead := play(t, begun(keyStore(), c.who), c.lines).Engine
		got := play(t, ahead, c.last)
		if cameTo(got) != c.came || c.states != "" && statesIn(got.Engine) != c.states {
			t.Errorf("ResumeTxn, %s: %s, %s; want %s, %s", c.name, cameTo(got), statesIn(got.Engine), c.came, c.states)
		}
	}
}

// TestResumeTriesFromTheFirstLock has a transaction that waits for no lock and holds none, or some of those that it needs.
func TestResumeTriesFromTheFirstLock(t *testing.T) {
	for _, c := range []struct {
		name, locks, op, came, then string
	}{
		{"no locks", "", "put 1 9", "ok", "0 1:ix | 2 1:x"},
		{"the first one", "0 1:ix", "put 1 9", "ok", "0 1:ix | 2 1:x"},
		{"the second one alone", "2 1:x", "put 1 9", "ok", "0 1:ix | 2 1:x"},
		{"both", "0 1:ix | 2 1:x", "put 1 9", "ok", "0 1:ix | 2 1:x"},
		{"too little at the first", "0 1:is", "put 1 9", "ok", "0 1:ix | 2 1:x"},
		{"the second one alone, and has to wait for the first", "0 2:s | 2 1:x", "put 1 9", "waits", "0 2:s 1?ix | 2 1:x"},
		{"a get that holds another key", "8 1:s", "get 1", "ok 3", "0 1:is | 2 1:s | 8 1:s"},
		{"a commit", "0 1:ix | 2 1:x 2?x", "commit", "ok", "2 2:x"},
		{"an abort", "0 1:ix | 2 1:x 2?x", "abort", "ok", "2 2:x"},
		{"a find", "", "find 3", "ok 1 7", "0 1:s"},
	} {
		e := lockedEngine(2, c.locks)
		e.Txns[0].State, e.Txns[0].Wait = impl.TxnWaits, opNamed(c.op)
		got := resume(t, e, 1)
		if cameTo(got) != c.came || !sameLocks(got.Engine.Locks, locksOf(c.then)) {
			t.Errorf("ResumeTxn with %s: %s, %v; want %s, %s", c.name, cameTo(got), got.Engine.Locks, c.came, c.then)
		}
	}
	unbuilt := smallEngine(false, false)
	unbuilt.Txns[0].State, unbuilt.Txns[0].Wait = impl.TxnWaits, opNamed("find 3")
	want := smallEngine(false, false)
	want.Locks, want.Acts = locksOf("0 1:s"), []impl.Act{act(1, opNamed("find 3"))}
	if got := resume(t, unbuilt, 1); !same(got, impl.EngineResult{Engine: want}) {
		t.Errorf("ResumeTxn of a find without an index: %v, want %v", got, want)
	}
}

// ringLines has as many transactions as there are letters each hold a key, and ask for that of the next one, the one at last behind all others.
func ringLines(who string, last int) string {
	var held, asks []string
	for i, letter := range who {
		does := map[rune]string{'s': "clean", 'u': "delete"}[letter]
		txn, next := strconv.Itoa(i+1), (i+1)%len(who)
		held = append(held, txn+" "+does+" "+strconv.Itoa(i))
		asks = append(asks, txn+" get "+strconv.Itoa(next))
	}
	asks = append(asks[last+1:], asks[:last+1]...)
	return strings.Join(append(held, asks...), ";")
}

// greatestOfRing tells who has to give way: the last one of the system, or the last one.
func greatestOfRing(who string) int64 {
	if at := strings.LastIndex(who, "s"); at >= 0 {
		return int64(at + 1)
	}
	return int64(len(who))
}

// TestOfARingJustOneGivesWay is of promise 12: rings of every number up to 6, each of the system or not, closed by each of them, and some more.
func TestOfARingJustOneGivesWay(t *testing.T) {
	var rings []string
	for count := 2; count <= 6; count++ {
		for bits := range 1 << count {
			who := []byte(strings.Repeat("u", count))
			for i := range who {
				if bits>>i&1 != 0 {
					who[i] = 's'
				}
			}
			rings = append(rings, string(who))
		}
	}
	rings = append(rings, strings.Repeat("u", 20), strings.Repeat("us", 10), strings.Repeat("s", 20), "uuuuuuusuuuuuuuuuuuu")
	for _, who := range rings {
		e := begun(wantedNew(manyRows(20)).Engine, who)
		for last := range len(who) {
			checkRing(t, e, who, last)
		}
	}
}

func checkRing(t *testing.T, e impl.Engine, who string, last int) {
	t.Helper()
	lines := strings.Split(ringLines(who, last), ";")
	var got impl.EngineResult
	for _, line := range lines {
		txn, op, _ := strings.Cut(line, " ")
		got = impl.DoOp(e, numberOf(txn), opNamed(op))
		e = got.Engine
	}
	victim := greatestOfRing(who)
	if !slices.Equal(got.Victims, []int64{victim}) || (got.Code == impl.ErrVictim) != (victim == int64(last+1)) {
		t.Fatalf("the ring %s, closed by %d: %s, want %d to give way", who, last+1, cameTo(got), victim)
	}
	var goOn, gone int
	for txn := int64(1); txn <= int64(len(who)); txn++ {
		state := impl.StateOf(e, txn).Value
		if state == impl.TxnLive || impl.CanResume(e, txn) {
			goOn++
		}
		if state == impl.TxnGone {
			gone++
		}
	}
	if goOn != 1 || gone != 1 || impl.HasCycle(impl.EdgesOf(e.Locks).Edges) || impl.EngineFault(e) != impl.OK {
		t.Fatalf("the ring %s, closed by %d: %d can go on, %d are gone: %v", who, last+1, goOn, gone, e.Locks)
	}
}
