package tests

import (
	"fmt"
	"regexp"
	"strings"
	"testing"

	"loop.example/g00270/impl"
)

// rightLines has a line of every form, of transactions that live in busyEngine.
func rightLines() []string {
	return []string{
		"", "begin", "system", "crash", "tidy", "show", "resume 8", "1 get 20", "1 put 7 300", "1 delete 20", "1 scan 0 99", "1 find 3", "1 commit", "1 abort",
		"5 clean 5", "5 pack", "5 build", "5 get 20", "5 scan 9 3", "5 find 9999", "5 commit", "5 abort",
	}
}

// wrongLines are by what is wrong with them.
func wrongLines() map[string][]string {
	return map[string][]string{
		"a word that is none": {
			"wink", "Begin", "BEGIN", "beginn", "begi", "abegin", "b", "begin.", "shows", "tidyy", "crashed", "1 wink", "1 wink 1", "1 Get 1", "1 gets 1", "1 ge 1", "1 GET 1", "1 commits",
			"wink 1", "wink get 1", "! 5", "rows", "txn 1", "ok", "none", "1 begin", "1 system", "1 crash", "1 tidy", "1 show", "1 resume", "1 resume 1", "Resume 1", "resumes 1", "1 none", "1 is",
		},
		"words too many": {
			"begin 1", "begin begin", "system 1", "crash 0", "crash 1", "tidy tidy", "tidy 1", "show 1", "show rows", "resume 1 2", "resume 8 8", "resume 8 get", "resume 8 get 1", "1 get 1 1", "1 put 1 2 3",
			"1 delete 1 1", "1 scan 1 2 3", "1 find 1 1", "1 commit 1", "1 abort 1", "5 clean 1 1", "5 pack 1", "5 build 1", "1 1 get 1", "1 get get 1", "1 get 1 get 1", "1 get 1 2 get 2",
			"1 commit commit", "begin 1 get 1", "1 put 1 2 3 4 5 6 7 8 9",
		},
		"words too few": {
			"resume", "1", "0", "9999", "12345", "get", "put", "delete", "scan", "find", "commit", "abort", "clean", "pack", "build", "get 1", "put 1 2", "delete 1", "scan 0 9", "find 3", "clean 5",
			"1 get", "1 put", "1 put 1", "1 delete", "1 scan", "1 scan 1", "1 find", "5 clean", "1 get ", " resume ", "  get 1", "1 1", "1 2 3",
		},
		"a number that is none": {
			"x get 20", "-1 get 20", "+1 get 20", "1. get 20", "1.0 get 20", "00001 get 20", "12345 get 20", "1x get 20", "x1 get 20", "1 get x", "1 get -1", "1 get +1", "1 get -0", "1 get 00001", "1 get 10000",
			"1 get 000020", "1 put 7 10000", "1 put 00007 1", "1 put x 1", "1 put 7 x", "1 put 7 -1", "1 put -7 1", "1 scan 0 x", "1 scan x 0", "1 scan 0 00009", "1 scan 00000 9", "1 scan 0 -9", "1 find 10000",
			"1 find x", "1 find 0x3", "1 find 03333", "1 delete x", "1 delete 99999", "5 clean x", "5 clean 12345", "resume x", "resume -8", "resume +8", "resume 00008", "resume 12345", "resume get",
			"1 get 2_0", "1 get 2e1", "1 get 2,0", "1 get \u0662", "\u0661 get 20", "1 get \u00b2", "1 get \uff12", "1 get 99999999999999999999", "18446744073709551617 get 20", "x commit", "- commit", "00001 commit", ". pack",
			"1 get /", "1 get :", "/ get 20", "resume 8/", "resume 8:",
		},
		"other bytes than blanks": {
			"1\tget 20", "1 get\t20", "\tbegin", "begin\t", "\t", "begin\r", "\r", "\x00", "begin\x00", "\xffbegin", "show\u00a0", "\u00a0", "1\u00a0get 20", "1 get 20\x00", "\u2003", "1\vget\f20", "1;get;20", "begin;begin",
		},
		"a line feed": {
			"\n", "\n\n", " \n ", "begin\n", "\nbegin", "be\ngin", " begin \n", "1 get 20\n", "1 get\n20", "1\nget 20", "begin\nbegin", "show\n", "resume 8\n", "wink\n", "1 commit\n1 commit", "\n ", "tidy\r\n",
		},
	}
}

func checkLineCode(t *testing.T, name string, e impl.Engine, line string, want int64) {
	t.Helper()
	if got := impl.StepScript(e, line); !same(got, impl.ScriptResult{Code: want}) {
		t.Fatalf("StepScript of %q, %s: %v, want the code %d", line, name, got, want)
	}
	if told := wantedLine(e, line); !same(told, impl.ScriptResult{Code: want}) {
		t.Fatalf("what is leant on elsewhere tells %v of %q, %s", told, line, name)
	}
}

func TestLinesWithoutACode(t *testing.T) {
	for _, line := range rightLines() {
		if got := stepLine(t, busyEngine(), line); got.Code != impl.OK {
			t.Errorf("StepScript of %q: the code %d", line, got.Code)
		}
	}
}

func TestLinesThatAreNone(t *testing.T) {
	engines := []impl.Engine{{}, busyEngine(), fullEngine(), impl.NewEngine(rowsNamed("1:3")).Engine, {Txns: liveTxns(20, 0)}, smallEngine(true, false)}
	for name, lines := range wrongLines() {
		for _, line := range lines {
			for _, e := range engines {
				checkLineCode(t, name, e, line, impl.ErrText)
			}
			for _, blanks := range []string{" " + line, line + " ", "   " + line + "  ", strings.ReplaceAll(line, " ", "  ")} {
				checkLineCode(t, name+", with blanks", busyEngine(), blanks, impl.ErrText)
			}
		}
	}
	long := strings.Repeat("1", 100000)
	for _, line := range []string{long, long + " get 1", "1 get " + long, "resume " + long, strings.Repeat("get ", 30000), "1 get 20" + strings.Repeat(" 1", 30000)} {
		checkLineCode(t, "very long", busyEngine(), line, impl.ErrText)
	}
}

// TestLineFeedsInLines has one at each place of lines that would be right else.
func TestLineFeedsInLines(t *testing.T) {
	for _, line := range rightLines() {
		for at := range len(line) + 1 {
			checkLineCode(t, "a line feed", busyEngine(), line[:at]+"\n"+line[at:], impl.ErrText)
		}
	}
}

// TestEveryByteInLines has each byte between, and in the place of each one, of lines of a small engine.
func TestEveryByteInLines(t *testing.T) {
	e := smallEngine(false, true)
	came := map[int64]int{}
	for _, line := range []string{"show", "1 put 17 30", "resume 1", "1 get 1"} {
		for at := range len(line) + 1 {
			for b := range 256 {
				one := string([]byte{byte(b)})
				came[stepLine(t, e, line[:at]+one+line[at:]).Code]++
				if at < len(line) {
					came[stepLine(t, e, line[:at]+one+line[at+1:]).Code]++
				}
			}
			if at < len(line) {
				came[stepLine(t, e, line[:at]+line[at+1:]).Code]++
			}
		}
	}
	for _, code := range []int64{impl.OK, impl.ErrText, impl.ErrRange, impl.ErrState} {
		if came[code] < 3 {
			t.Errorf("the code %d came too seldom: %v", code, came)
		}
	}
}

// TestScriptsAskTheEngineFirst has each fault of an engine ahead of lines and texts with codes of their own, and without.
func TestScriptsAskTheEngineFirst(t *testing.T) {
	lines := append(rightLines(), "wink", "\n", "1 get\n1", "1 get 10000", "0 get 100", "resume 0", "9999 get 9999", strings.Repeat("x", 1201), strings.Repeat("\n", 61))
	for _, wrong := range allBreaks() {
		e := busyEngine()
		wrong.turn(&e)
		alone := impl.ScriptResult{Code: wrong.want}
		for _, line := range lines {
			if got := impl.StepScript(e, line); !same(got, alone) {
				t.Fatalf("StepScript of %q, %s, %s: %v, want the code %d", line, wrong.part, wrong.name, got, wrong.want)
			}
			if got := impl.RunScript(e, line); !same(got, alone) {
				t.Fatalf("RunScript of %q, %s, %s: %v, want the code %d", line, wrong.part, wrong.name, got, wrong.want)
			}
		}
	}
}

// codeCase is a line whose call has a code.
type codeCase struct {
	name string
	e    impl.Engine
	line string
	want int64
}

func beginCodes() []codeCase {
	twenty := impl.Engine{Txns: liveTxns(20, 0)}
	return []codeCase{
		{"as many transactions as there may be", twenty, "begin", impl.ErrMany},
		{"as many transactions, of the system", twenty, "system", impl.ErrMany},
		{"one transaction less", impl.Engine{Txns: liveTxns(19, 0)}, "begin", impl.OK},
		{"one transaction less, of the system", impl.Engine{Txns: liveTxns(19, 0)}, "system", impl.OK},
		{"no room in the log", actsIn(1, 0, 9), "begin", impl.ErrMany},
		{"no room in the log, of the system", actsIn(1, 0, 9), "system", impl.ErrMany},
		{"room in the log", actsIn(1, 0, 10), "begin", impl.OK},
		{"room in the log, of the system", actsIn(1, 0, 10), "system", impl.OK},
	}
}

func doCodes() []codeCase {
	busy, user, system := busyEngine(), smallEngine(false, false), smallEngine(true, false)
	crowded, undone, narrow := actsIn(200, 0, -1), actsIn(1, 40, -1), actsIn(1, 0, 21)
	return []codeCase{
		{"the transaction 0", busy, "0 get 1", impl.ErrRange},
		{"the transaction 0 in four digits", busy, "0000 get 1", impl.ErrRange},
		{"the transaction 9999", busy, "9999 get 1", impl.ErrRange},
		{"the transaction 9999 commits", busy, "9999 commit", impl.ErrRange},
		{"one more than there are", busy, "10 commit", impl.ErrRange},
		{"none in a new store", impl.Engine{}, "1 get 1", impl.ErrRange},
		{"no transaction, and no key", busy, "10 get 100", impl.ErrRange},
		{"no transaction, ahead of what is of the system", user, "2 pack", impl.ErrRange},
		{"one that waits", busy, "2 get 1", impl.ErrState},
		{"one that is done", busy, "3 commit", impl.ErrState},
		{"one that is gone", busy, "4 abort", impl.ErrState},
		{"one of the system that waits", busy, "7 clean 7", impl.ErrState},
		{"one that waits for no lock", busy, "8 put 99 9999", impl.ErrState},
		{"one that is done, ahead of no key", busy, "3 get 100", impl.ErrState},
		{"one that is gone, ahead of what is of the system", busy, "4 pack", impl.ErrState},
		{"a get of no key", busy, "1 get 100", impl.ErrRange},
		{"a get of no key at all", busy, "1 get 9999", impl.ErrRange},
		{"a put of no key", busy, "1 put 100 1", impl.ErrRange},
		{"a delete of no key", busy, "1 delete 100", impl.ErrRange},
		{"a scan from no key", busy, "1 scan 100 1", impl.ErrRange},
		{"a scan to no key", busy, "1 scan 1 100", impl.ErrRange},
		{"a clean of no key", busy, "5 clean 100", impl.ErrRange},
		{"a clean of no key by a user", user, "1 clean 100", impl.ErrRange},
		{"a put of no key by the system", system, "1 put 100 1", impl.ErrRange},
		{"a clean by a user", user, "1 clean 5", impl.ErrForm},
		{"a pack by a user", user, "1 pack", impl.ErrForm},
		{"a build by a user", user, "1 build", impl.ErrForm},
		{"a put by the system", system, "1 put 1 1", impl.ErrForm},
		{"a delete by the system", system, "1 delete 1", impl.ErrForm},
		{"a find without an index", user, "1 find 3", impl.ErrNone},
		{"a find without an index, by the system", system, "1 find 9999", impl.ErrNone},
		{"no room for acts", crowded, "1 get 1", impl.ErrMany},
		{"no room for the act of a commit", crowded, "1 commit", impl.ErrMany},
		{"no room for acts, ahead of it what is of the system", crowded, "1 pack", impl.ErrForm},
		{"as much Undo as there may be", undone, "1 put 7 1", impl.ErrMany},
		{"as much Undo as there may be, a delete", undone, "1 delete 7", impl.ErrMany},
		{"no room in the log", narrow, "1 put 7 1", impl.ErrMany},
		{"no room in the log, a delete", narrow, "1 delete 7", impl.ErrMany},
		{"no room in the log, a get", narrow, "1 get 7", impl.OK},
		{"room in the log", actsIn(1, 0, 22), "1 put 7 1", impl.OK},
		{"room for one act", actsIn(199, 0, -1), "1 get 1", impl.OK},
	}
}

func resumeCodes() []codeCase {
	busy := busyEngine()
	return []codeCase{
		{"the transaction 0", busy, "resume 0", impl.ErrRange},
		{"the transaction 9999", busy, "resume 9999", impl.ErrRange},
		{"one more than there are", busy, "resume 10", impl.ErrRange},
		{"none in a new store", impl.Engine{}, "resume 1", impl.ErrRange},
		{"one that lives", busy, "resume 1", impl.ErrState},
		{"one that is done", busy, "resume 3", impl.ErrState},
		{"one that is gone", busy, "resume 4", impl.ErrState},
		{"one that waits for a lock still", busy, "resume 2", impl.ErrWait},
		{"one of the system that waits for a lock still", busy, "resume 7", impl.ErrWait},
		{"one that waits for no lock", busy, "resume 8", impl.OK},
		{"no room for acts", waitingFor(actsIn(200, 0, -1), "get 1"), "resume 1", impl.ErrMany},
		{"room for one act", waitingFor(actsIn(199, 0, -1), "get 1"), "resume 1", impl.OK},
		{"as much Undo as there may be", waitingFor(actsIn(1, 40, -1), "put 7 1"), "resume 1", impl.ErrMany},
		{"no room in the log", waitingFor(actsIn(1, 0, 21), "delete 7"), "resume 1", impl.ErrMany},
		{"room in the log", waitingFor(actsIn(1, 0, 22), "delete 7"), "resume 1", impl.OK},
	}
}

// tidyCodes have a ghost, so that there are four acts: a clean, a commit, a pack, a commit.
func tidyCodes() []codeCase {
	among := func(count int64) impl.Engine {
		e := smallEngine(false, false)
		e.Txns = liveTxns(count, 0)
		return e
	}
	return []codeCase{
		{"no room for two transactions", among(20), "tidy", impl.ErrMany},
		{"room for one transaction: that which cleans", among(19), "tidy", impl.ErrMany},
		{"room for two transactions", among(18), "tidy", impl.OK},
		{"no room for acts", actsIn(200, 0, -1), "tidy", impl.ErrMany},
		{"room for the clean", actsIn(199, 0, -1), "tidy", impl.ErrMany},
		{"room for the clean and its end", actsIn(198, 0, -1), "tidy", impl.ErrMany},
		{"room for all but the last end", actsIn(197, 0, -1), "tidy", impl.ErrMany},
		{"room for all four", actsIn(196, 0, -1), "tidy", impl.OK},
		{"no room in the log", actsIn(1, 0, 9), "tidy", impl.ErrMany},
		{"room in the log for that which cleans", actsIn(1, 0, 19), "tidy", impl.ErrMany},
		{"room in the log for both", actsIn(1, 0, 20), "tidy", impl.OK},
	}
}

func TestCodesOfCalls(t *testing.T) {
	for _, cases := range [][]codeCase{beginCodes(), doCodes(), resumeCodes(), tidyCodes()} {
		for _, c := range cases {
			if code := impl.EngineFault(c.e); code != impl.OK {
				t.Fatalf("%s: the engine has the fault %d", c.name, code)
			}
			if got := stepLine(t, c.e, c.line); got.Code != c.want || (got.Said == "") != (got.Code != impl.OK) {
				t.Errorf("StepScript of %q, %s: %v, want the code %d", c.line, c.name, got, c.want)
			}
			want := impl.ScriptResult{Engine: c.e, Said: fmt.Sprintf("! %d\n", c.want)}
			if c.want == impl.OK {
				continue
			}
			if got := ranScript(t, c.e, c.line+"\n"); !same(got, want) {
				t.Errorf("RunScript of %q, %s: %v, want %v", c.line, c.name, got, want)
			}
		}
	}
}

// TestCrashesHaveNoCode has every engine without a fault: all Loose bytes are kept, and what comes of them are rows of a new store.
func TestCrashesHaveNoCode(t *testing.T) {
	for _, e := range append(someEngines(), enginesAtWork(t)...) {
		if got := stepLine(t, e, "crash"); got.Code != impl.OK || got.Said != "back" || len(got.Engine.Txns) != 0 {
			t.Errorf("StepScript of crash: %v", got)
		}
	}
}

// TestNoughtsAhead has each number of lines in up to four digits: it is the same line; with five it is none.
func TestNoughtsAhead(t *testing.T) {
	numbers := regexp.MustCompile("[0-9]+")
	for _, line := range rightLines() {
		want := impl.StepScript(busyEngine(), line)
		for digits := 1; digits <= 6; digits++ {
			padded := numbers.ReplaceAllStringFunc(line, func(word string) string {
				return strings.Repeat("0", max(0, digits-len(word))) + word
			})
			then := want
			if digits > 4 && padded != line {
				then = impl.ScriptResult{Code: impl.ErrText}
			}
			if got := stepLine(t, busyEngine(), padded); !same(got, then) {
				t.Errorf("StepScript of %q: %v, want %v", padded, got, then)
			}
		}
	}
	for _, c := range []struct{ line, said string }{
		{"1 put 0007 0300", "ok"}, {"0001 get 07", "ok 3"}, {"01 scan 00 009", "ok 1 11 7 3"}, {"001 find 0003", "ok 7 20"}, {"005 find 3", "waits"}, {"0005 get 020", "ok 3"}, {"resume 0008", "waits"}, {"1 find 0000", "ok"},
	} {
		if got := stepLine(t, busyEngine(), c.line); got.Said != c.said {
			t.Errorf("StepScript of %q: %v, want %q", c.line, got, c.said)
		}
	}
}

// TestEveryNumberInLines has all numbers that can be written, as a transaction and as a value.
func TestEveryNumberInLines(t *testing.T) {
	e := smallEngine(false, true)
	for number := range int64(10000) {
		word := fmt.Sprint(number)
		want := codeIf(number != 1, impl.ErrRange)
		if got := impl.StepScript(e, word+" get 7"); got.Code != want {
			t.Fatalf("the transaction %d: %v, want the code %d", number, got, want)
		}
		if got := impl.StepScript(e, "1 put 50 "+word); got.Code != impl.OK || impl.ValueIn(got.Engine.Leaves, 50).Value != number {
			t.Fatalf("the value %d: %v", number, got)
		}
		if got := impl.StepScript(e, "1 get "+word); got.Code != codeIf(number > 99, impl.ErrRange) {
			t.Fatalf("the key %d: %v", number, got)
		}
	}
}
