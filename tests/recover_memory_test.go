package tests

import (
	"math"
	"reflect"
	"testing"

	"loop.example/g00270/impl"
)

// recoverGiven is all that recovering is given.
type recoverGiven struct {
	Base   []impl.Row
	Recs   []impl.Rec
	Data   []byte
	Engine impl.Engine
}

// recoverAnswers is all that is told of it.
type recoverAnswers struct {
	Redone    impl.RecoverResult
	Recovered impl.RecoverResult
	Losers    impl.IntsResult
	Committed impl.IntsResult
	Crashed   []impl.EngineResult
}

func recoverCalls(g recoverGiven) recoverAnswers {
	got := recoverAnswers{
		Redone:    impl.RedoRows(g.Base, g.Recs),
		Recovered: impl.RecoverRows(g.Base, g.Data),
		Losers:    impl.LosersOf(g.Recs),
		Committed: impl.CommittedOf(g.Recs),
	}
	loose := int64(len(g.Engine.Wal.Loose))
	for _, kept := range []int64{math.MinInt64, -1, 0, 1, loose / 2, loose - 1, loose, loose + 1, math.MaxInt64} {
		got.Crashed = append(got.Crashed, impl.CrashEngine(g.Engine, kept))
	}
	return got
}

// toRecover has rows, records, bytes and engines with and without faults; each list of one kind comes with some of the others.
func toRecover(t *testing.T) []recoverGiven {
	t.Helper()
	texts := []string{
		"", "begin 1", "begin 3; begin 1; begin 2; set 2 5 50 7; set 1 6 - 8; set 3 5 7 -; commit 2", "commit 3; commit 1; commit 3; end 7; begin 7; set 9 1 10 -",
		"begin 1; set 1 1 10 11; set 1 2 - 21; set 1 5 50 -; back 1 5 - 50", "begin 9; begin 8; set 9 5 50 1; set 8 5 1 2; set 9 5 2 -; back 8 5 - 3; back 8 5 3 4; end 8",
	}
	engines := append(someEngines(), enginesAtWork(t)...)
	bases := append(oddBases(), manyRows(100))
	var given []recoverGiven
	for i := range max(len(engines), len(bases), 40) {
		recs := recsNamed(texts[i%len(texts)])
		g := recoverGiven{Base: bases[i%len(bases)], Recs: recs, Data: recsData(recs...), Engine: engines[i%len(engines)]}
		switch i % 7 {
		case 1:
			g.Base = rowsNamed("1:10 5:50 9:90")
		case 3:
			g.Recs, g.Data = append(recs, impl.Rec{Kind: int64(i)}), append(g.Data, 1, 2, 3)
		case 5:
			g.Recs, g.Data = repeatedRec(plain(impl.LogBegin, int64(i+1)), 801), make([]byte, 4001)
		case 6:
			g.Base, g.Recs, g.Data = manyRows(int64(i)), fallingRecs(impl.LogBegin, 900, 850), logBytes(4000)
		}
		given = append(given, g)
	}
	return given
}

func TestWhatIsToRecoverStaysAndAnswersRepeat(t *testing.T) {
	for _, odd := range toRecover(t) {
		checkStays(t, odd, recoverCalls)
	}
}

// TestEnginesToCrashWithFaultsStay has engines with every fault; what they tell is asked elsewhere.
func TestEnginesToCrashWithFaultsStay(t *testing.T) {
	for _, wrong := range allBreaks() {
		odd := busyEngine()
		wrong.turn(&odd)
		e := roomyCopy(odd)
		before := wholeCopy(e)
		for _, kept := range []int64{-1, 0, 16} {
			impl.CrashEngine(e, kept)
		}
		if !reflect.DeepEqual(wholeCopy(e), before) {
			t.Fatalf("an engine is changed: %s, %s", wrong.part, wrong.name)
		}
	}
}

func TestWhatIsRecoveredIsNewMemory(t *testing.T) {
	for _, odd := range toRecover(t) {
		given := roomyCopy(odd)
		first, second := recoverCalls(given), recoverCalls(given)
		checkApart(t, "RedoRows", first.Redone, given, second)
		checkApart(t, "RecoverRows", first.Recovered, given, second)
		checkApart(t, "LosersOf", first.Losers, given, second)
		checkApart(t, "CommittedOf", first.Committed, given, second)
		for _, got := range first.Crashed {
			checkApart(t, "CrashEngine", got, given, second)
		}
	}
}

func TestWhatIsRecoveredStaysWhenTheRestTurns(t *testing.T) {
	for _, some := range toRecover(t) {
		checkKept(t, some, recoverCalls)
	}
}

// TestACodeOfRecoveringIsAlone has beside a code nothing, and beside none of CrashEngine nothing that is not told there.
func TestACodeOfRecoveringIsAlone(t *testing.T) {
	codes := map[int64]int{}
	for _, given := range toRecover(t) {
		got := recoverCalls(given)
		for _, rows := range []impl.RecoverResult{got.Redone, got.Recovered} {
			codes[rows.Code]++
			if rows.Code != impl.OK && !reflect.DeepEqual(rows, impl.RecoverResult{Code: rows.Code}) {
				t.Fatalf("something beside the code: %v", rows)
			}
		}
		for _, list := range []impl.IntsResult{got.Losers, got.Committed} {
			if list.Code != impl.OK && !reflect.DeepEqual(list, impl.IntsResult{Code: list.Code}) {
				t.Fatalf("something beside the code: %v", list)
			}
		}
		for _, crashed := range got.Crashed {
			if crashed.Code != impl.OK && !reflect.DeepEqual(crashed, impl.EngineResult{Code: crashed.Code}) {
				t.Fatalf("something beside the code: %v", crashed)
			}
			if crashed.Waits || crashed.Id != 0 || crashed.Victims != nil {
				t.Fatalf("something that is not told here: %v", crashed)
			}
		}
	}
	for _, code := range []int64{impl.OK, impl.ErrForm, impl.ErrMany, impl.ErrRange} {
		if codes[code] < 5 {
			t.Errorf("the code %d came too seldom: %v", code, codes)
		}
	}
}
