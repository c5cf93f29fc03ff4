package tests

import (
	"runtime"
	"slices"
	"testing"

	"loop.example/g00270/impl"
)

// someWork has operations of the system, keys of ghosts among them more often than others.
func someWork(next func(int64) int64, e impl.Engine) []impl.Op {
	ghosts := wantedGhosts(e).List
	var ops []impl.Op
	for range next(7) {
		switch next(6) {
		case 0:
			ops = append(ops, opNamed("pack"))
		case 1:
			ops = append(ops, opNamed("build"))
		case 2, 3:
			ops = append(ops, impl.Op{Kind: impl.OpClean, Key: next(8)})
		default:
			if len(ghosts) > 0 {
				ops = append(ops, impl.Op{Kind: impl.OpClean, Key: ghosts[next(int64(len(ghosts)))]})
			}
		}
	}
	return ops
}

// cameOf counts what work of the system came to.
func cameOf(came map[string]int, e impl.Engine, got impl.SystemResult) {
	switch {
	case got.Code != impl.OK && len(got.Engine.Txns) > 0:
		came["a code of an op"]++
	case got.Code != impl.OK:
		came["a code"]++
	case got.Done:
		came["done"]++
	case len(got.Engine.Acts) > len(e.Acts)+1:
		came["gave up behind some"]++
	default:
		came["gave up at once"]++
	}
	if got.Done && len(e.Locks) > 0 {
		came["done beside others"]++
	}
}

func checkCame(t *testing.T, came map[string]int, names ...string) {
	t.Helper()
	for _, name := range names {
		if came[name] < 10 {
			t.Errorf("too seldom %s: %v", name, came)
		}
	}
}

// TestTidiedWalks is of promise 13: in new stores in which many do something by turns, work of the system is done now and then, and they go on in what it leaves.
func TestTidiedWalks(t *testing.T) {
	came := map[string]int{}
	for seed := range uint32(60) {
		next := numbersFrom(seed + 400)
		keys := []int64{2, 3, 4, 6, 20}[next(5)]
		w := &walk{t: t, next: next, e: impl.NewEngine(manyRows(next(12))).Engine, came: map[string]int{}}
		for range 60 {
			w.step(keys)
			if next(3) != 0 {
				continue
			}
			results := append(tidied(t, w.e), run(t, w.e, someWork(next, w.e)))
			for _, got := range results {
				cameOf(came, w.e, got)
			}
			if got := results[next(5)]; got.Code == impl.OK && next(2) == 0 {
				w.e = got.Engine
				w.lookAtAll()
			}
		}
		if checkAllTidied(t, w) {
			came["all tidied up"]++
		}
	}
	checkCame(t, came, "all tidied up", "done", "done beside others", "gave up at once", "gave up behind some")
}

// endAll has all come to their end, one way or the other.
func endAll(t *testing.T, w *walk) {
	t.Helper()
	for range 3 * len(w.e.Txns) {
		for _, own := range w.e.Txns {
			got := impl.EngineResult{Engine: w.e}
			if impl.CanResume(w.e, own.Id) {
				got = resume(t, w.e, own.Id)
			} else if impl.StateOf(w.e, own.Id).Value == impl.TxnLive {
				got = do(t, w.e, own.Id, opNamed([]string{"commit", "abort"}[w.next(2)]))
			}
			if got.Code != impl.OK && got.Code != impl.ErrVictim {
				t.Fatalf("%d cannot come to its end: %v", own.Id, got)
			}
			w.e = got.Engine
		}
	}
	if len(w.e.Locks) > 0 || len(w.e.Txns) == 0 {
		t.Fatalf("not all came to their end: %v", w.e)
	}
}

// checkAllTidied has nobody in the way any more: no ghost is left, leaves are full, and the index tells all.
func checkAllTidied(t *testing.T, w *walk) bool {
	t.Helper()
	endAll(t, w)
	if len(w.e.Txns) > impl.MaxTxns-3 {
		return false
	}
	e := w.e
	for _, work := range []func(*testing.T, impl.Engine) impl.SystemResult{clean, pack, build} {
		got := work(t, e)
		if !got.Done || got.Code != impl.OK {
			t.Fatalf("nobody is in the way, and it is not done: %v", got)
		}
		e = got.Engine
	}
	if !same(rowsIn(e.Leaves), impl.MapOf(w.e).Rows) || len(e.Leaves) != (len(rowsIn(e.Leaves))+3)/4 || !same(e.Index, wantedIndex(w.e.Leaves).Pairs) {
		t.Fatalf("all is tidied up: %v, want the rows of %v", e, w.e)
	}
	return true
}

// TestMadeUpEnginesTidied has engines that no call would lead to, with circles already here and there, held against a second telling of the document.
func TestMadeUpEnginesTidied(t *testing.T) {
	next := numbersFrom(1212)
	came := map[string]int{}
	leaves := append(someLeaves(), keyStore().Leaves, smallEngine(false, false).Leaves, fullLeaves(), []impl.Leaf{leaf(ghost(0), ghost(1)), leaf(ghost(2), row(3, 3))})
	for range 900 {
		e := madeUp(next, leaves)
		for _, got := range append(tidied(t, e), run(t, e, someWork(next, e)), run(t, e, someWork(next, e))) {
			cameOf(came, e, got)
		}
	}
	checkCame(t, came, "done", "done beside others", "gave up at once", "gave up behind some", "a code", "a code of an op")
}

// TestWhereNobodyIsInTheWay is the second half of promise 13, of leaves of every kind.
func TestWhereNobodyIsInTheWay(t *testing.T) {
	for _, leaves := range append(append(someLeaves(), sizedLeaves()...), fullLeaves(), ghostsAlone().Leaves) {
		for _, built := range []bool{false, true} {
			e := impl.Engine{Leaves: leaves, Built: built}
			if built {
				e.Index = wantedIndex(leaves).Pairs
			}
			for _, got := range tidied(t, e) {
				if !got.Done || got.Code != impl.OK {
					t.Fatalf("nobody is in the way, and it is not done: %v", got)
				}
			}
			both := pack(t, clean(t, e).Engine)
			if !both.Done || len(both.Engine.Leaves) != (len(impl.MapOf(e).Rows)+3)/4 || !slices.Equal(rowsIn(both.Engine.Leaves), impl.MapOf(e).Rows) {
				t.Fatalf("cleaned and packed: %v, of %v", both.Engine.Leaves, leaves)
			}
			if len(both.Engine.Leaves) > 0 && len(impl.MapOf(e).Rows)%impl.LeafRows == 0 && impl.FillOf(both.Engine.Leaves).Value != 100 {
				t.Fatalf("leaves are not full: %v", both.Engine.Leaves)
			}
		}
	}
}

// TestOneInTheWayOfEach has each key locked in each mode by one who may have the whole in each mode as well.
func TestOneInTheWayOfEach(t *testing.T) {
	done := map[bool]int{}
	for whole := int64(impl.ModeNone); whole <= impl.ModeX; whole++ {
		for mode := int64(impl.ModeNone); mode <= impl.ModeX; mode++ {
			for key := range int64(10) {
				e := keyStore()
				e.Leaves, e.Txns = []impl.Leaf{leaf(ghost(0), row(1, 1), ghost(4)), leaf(row(6, 6), ghost(7), ghost(9))}, liveTxns(1, 0)
				for _, held := range []impl.Need{{Res: 0, Mode: whole}, {Res: key + 1, Mode: mode}} {
					if held.Mode != impl.ModeNone {
						e.Locks = append(e.Locks, impl.Lock{Res: held.Res, Holds: []impl.Hold{{Txn: 1, Mode: held.Mode}}})
					}
				}
				for _, got := range append(tidied(t, e), run(t, e, opsNamed("pack; clean 1; build")), run(t, e, opsNamed("build; pack; clean 9; clean 0"))) {
					done[got.Done]++
				}
			}
		}
	}
	if done[true] < 100 || done[false] < 100 {
		t.Errorf("what is done, and what is not: %v", done)
	}
}

// TestNobodyWaitsForOneThatBegan tells why work of the system never is in a circle: who just began stands behind all who wait, and where somebody waits it is let in nowhere. So it always gives up itself, and nobody else has to.
func TestNobodyWaitsForOneThatBegan(t *testing.T) {
	next := numbersFrom(31)
	waits := 0
	for range 1500 {
		e := madeUp(next, [][]impl.Leaf{keyStore().Leaves})
		now := impl.BeginTxn(e, true)
		if now.Code != impl.OK {
			continue
		}
		own := now.Id
		for _, o := range append(someWork(next, e), opNamed("clean 1"), opNamed("build")) {
			now = impl.DoOp(now.Engine, own, o)
			if now.Code != impl.OK || now.Waits {
				break
			}
		}
		if now.Code == impl.ErrVictim || len(now.Victims) > 0 {
			t.Fatalf("one gave way: %v, of %v", now, e)
		}
		for _, edge := range impl.EdgesOf(now.Engine.Locks).Edges {
			if edge.To == own {
				t.Fatalf("%d waits for the one that began: %v", edge.From, now.Engine.Locks)
			}
		}
		waits += map[bool]int{true: 1}[now.Waits]
	}
	if waits < 100 {
		t.Errorf("too few had to wait: %d", waits)
	}
}

// TestWorkOfTheSystemLeavesNobodyRunning asks that nothing that was started runs on, whether the work is done, gives up or has a code.
func TestWorkOfTheSystemLeavesNobodyRunning(t *testing.T) {
	before := runtime.NumGoroutine()
	full := smallEngine(false, true)
	full.Acts = manyActs(199)
	for _, e := range []impl.Engine{smallEngine(false, true), lockedEngine(2, "0 1:ix | 8 1:x"), full, {Txns: liveTxns(20, 0)}} {
		for range 50 {
			impl.RunSystem(e, opsNamed("pack; clean 5; build; pack; clean 7"))
			impl.RunSystem(e, opsNamed("pack; get 1"))
			impl.CleanEngine(e)
		}
	}
	if after := runtime.NumGoroutine(); after > before {
		t.Errorf("%d ran before, and %d run now", before, after)
	}
}
