package tests

import (
	"fmt"
	"slices"
	"strings"
	"testing"

	"loop.example/g00270/impl"
)

// checkAsLine is the first half of promise 17: an operation that is written as a line does what it does.
func checkAsLine(t *testing.T, e impl.Engine, txn int64, o impl.Op) impl.EngineResult {
	t.Helper()
	did := impl.DoOp(e, txn, o)
	line := fmt.Sprintf("%d %s", txn, opText(t, o).Text)
	got := stepLine(t, e, line)
	want := impl.ScriptResult{Code: did.Code}
	if did.Code == impl.OK || did.Code == impl.ErrVictim {
		want = impl.ScriptResult{Engine: did.Engine, Said: cameTo(did)}
	}
	if !same(got, want) {
		t.Fatalf("StepScript of %q: %v, and DoOp tells %v", line, got, did)
	}
	return did
}

// cameOfLine tells by the first word what a line came to, and how many gave way.
func cameOfLine(did impl.EngineResult) string {
	said, over, _ := strings.Cut(cameTo(did), " over ")
	first, answer, _ := strings.Cut(said, " ")
	if answer != "" {
		first += ", told something"
	}
	if gone := len(strings.Fields(over)); gone > 0 {
		first += fmt.Sprintf(", over %d", min(gone, 2))
	}
	return first
}

// everyKind has an operation of each kind, and some of them twice.
func everyKind() []impl.Op {
	return opsNamed("get 1; get 99; put 3 7; put 1 9999; delete 1; delete 42; scan 0 99; scan 9 3; find 3; find 0; commit; abort; clean 5; clean 0; pack; build")
}

// TestOperationsAsLines has each kind by each transaction of stores at work, and by some that are none.
func TestOperationsAsLines(t *testing.T) {
	came := map[string]int{}
	engines := append(someEngines(), enginesAtWork(t)...)
	for _, c := range roomCasesOfPlans() {
		engines = append(engines, c.e)
	}
	for _, e := range engines {
		for _, txn := range append(numbersTo(0, int64(len(e.Txns))+1), 999, 9999) {
			for _, o := range everyKind() {
				came[cameOfLine(checkAsLine(t, e, txn, o))]++
			}
		}
	}
	checkCame(t, came, "ok", "ok, told something", "waits", "code, told something")
}

// TestOperationsAsLinesInWalks has those who do something by turns in new stores do it by lines, and go on in what that leaves.
func TestOperationsAsLinesInWalks(t *testing.T) {
	came := map[string]int{}
	for seed := range uint32(60) {
		next := numbersFrom(seed + 2100)
		keys := []int64{2, 3, 4, 6, 20}[next(5)]
		w := &walk{t: t, next: next, e: impl.NewEngine(manyRows(next(8))).Engine}
		for range 60 {
			if count := len(w.e.Txns); count < 3 || count < impl.MaxTxns && next(14) == 0 {
				w.e = impl.StepScript(w.e, []string{"begin", "begin", "system"}[next(3)]).Engine
				continue
			}
			txn := w.who()
			if impl.CanResume(w.e, txn) {
				w.e = stepLine(t, w.e, fmt.Sprintf("resume %d", txn)).Engine
				continue
			}
			did := checkAsLine(t, w.e, txn, someOp(next, w.e.Txns[txn-1].System, keys))
			came[cameOfLine(did)]++
			if did.Code == impl.OK || did.Code == impl.ErrVictim {
				w.e = did.Engine
			}
		}
	}
	checkCame(t, came, "ok", "ok, told something", "waits", "victim, over 1", "ok, over 1", "code, told something")
}

// TestMadeUpEnginesByLines has engines that no call would lead to, with circles here and there, so that several give way at once.
func TestMadeUpEnginesByLines(t *testing.T) {
	next := numbersFrom(2200)
	came := map[string]int{}
	leaves := append(someLeaves(), keyStore().Leaves, keyStore().Leaves, smallEngine(false, false).Leaves, fullLeaves(), fullLeaves())
	for round := range 1600 {
		e := madeUp(next, leaves)
		for txn := int64(1); txn <= int64(min(len(e.Txns), 5)); txn++ {
			came[cameOfLine(checkAsLine(t, e, txn, someOp(next, e.Txns[txn-1].System, 4)))]++
			resumed := impl.ResumeTxn(e, txn)
			if got := stepLine(t, e, fmt.Sprintf("resume %d", txn)); got.Code == impl.OK && got.Said != cameTo(resumed) {
				t.Fatalf("StepScript of resume %d: %v, and ResumeTxn tells %v", txn, got, resumed)
			}
			came["resumed: "+cameOfLine(resumed)]++
		}
		if round%5 > 0 {
			continue
		}
		for _, line := range []string{"begin", "system", "crash", "tidy", "show", ""} {
			came[line+map[bool]string{false: ", with a code"}[stepLine(t, e, line).Code == impl.OK]]++
		}
	}
	checkCame(t, came, "ok", "ok, told something", "ok, over 1", "waits", "waits, over 1", "victim, over 1", "resumed: ok", "resumed: waits", "resumed: victim, over 1", "begin", "begin, with a code", "tidy", "tidy, with a code", "crash", "show")
	several := 0
	for name, count := range came {
		if strings.HasSuffix(name, ", over 2") {
			several += count
		}
	}
	if several < 5 || came["ok, told something, over 1"] == 0 {
		t.Errorf("too few gave way at once: %v", came)
	}
}

// teller writes a script while it goes on in a store, so that most of its lines have something come of them.
type teller struct {
	walk
	lines []string
}

func (s *teller) line(keys int64) string {
	count := len(s.e.Txns)
	switch {
	case count < 3 || count < impl.MaxTxns && s.next(16) == 0:
		return []string{"begin", "begin", " begin ", "system"}[s.next(4)]
	case s.next(9) == 0:
		return []string{"", "  ", "show", "tidy", "wink", "1 get", "9999 commit", "resume 1", "0 get 100", "tidy", " show"}[s.next(11)]
	case s.next(60) == 0:
		return "crash"
	}
	txn := s.who()
	if impl.CanResume(s.e, txn) {
		return fmt.Sprintf("resume %d", txn)
	}
	return fmt.Sprintf("%d %s", txn, impl.OpText(someOp(s.next, s.e.Txns[txn-1].System, keys)).Text)
}

// tell writes so many lines, each held against the document.
func (s *teller) tell(count int, keys int64) string {
	s.t.Helper()
	for range count {
		line := s.line(keys)
		got := stepLine(s.t, s.e, line)
		if got.Code == impl.OK {
			s.e = got.Engine
		}
		first, _, _ := strings.Cut(got.Said, " ")
		s.came[first]++
		if strings.Contains(got.Said, "over") {
			s.came["over"]++
		}
		s.lines = append(s.lines, line)
	}
	return strings.Join(s.lines, "\n") + []string{"", "\n"}[s.next(2)]
}

// checkInTwoParts is the second half of promise 17: cut behind each of its line feeds a script does in two parts what it does in one.
func checkInTwoParts(t *testing.T, e impl.Engine, text string) impl.ScriptResult {
	t.Helper()
	whole := ranScript(t, e, text)
	for at := range len(text) + 1 {
		if at > 0 && at < len(text) && text[at-1] != '\n' {
			continue
		}
		first := impl.RunScript(e, text[:at])
		second := impl.RunScript(first.Engine, text[at:])
		if first.Code != impl.OK || second.Code != impl.OK || first.Said+second.Said != whole.Said || !same(second.Engine, whole.Engine) {
			t.Fatalf("RunScript of %q cut at %d: %q and %q, want %q", text, at, first.Said, second.Said, whole.Said)
		}
	}
	return whole
}

func TestScriptsInTwoParts(t *testing.T) {
	came := map[string]int{}
	for seed := range uint32(40) {
		next := numbersFrom(seed + 2300)
		e := impl.NewEngine(manyRows(next(8))).Engine
		if next(3) == 0 {
			e = impl.BuildEngine(e).Engine
		}
		s := &teller{walk: walk{t: t, next: next, e: e, came: came}}
		text := s.tell(10+int(next(51)), []int64{2, 3, 5, 20}[next(4)])
		whole := checkInTwoParts(t, e, text)
		if !same(whole.Engine, s.e) {
			t.Fatalf("RunScript of %q, and its lines one by one: %v, %v", text, whole.Engine, s.e)
		}
		checkLooksSerial(t, whole.Engine)
	}
	checkCame(t, came, "txn", "ok", "waits", "victim", "over", "")
	if came["back"] == 0 || came["rows"] == 0 {
		t.Errorf("too few crashes or shows: %v", came)
	}
}

func TestSomeScriptsInTwoParts(t *testing.T) {
	for _, text := range []string{
		"", "\n", "begin", "begin\n", "begin\n\n\nbegin", "wink\nbegin\nwink\n", "show\nshow\n", strings.Repeat("\n", 12), "begin\n1 put 1 7\ncrash\nbegin\n1 get 1\nshow\n",
		"begin\nbegin\n1 put 0 7\n2 put 1 8\n1 get 1\n2 get 0\nresume 1\n1 commit\ntidy\nshow\ncrash\nshow\n", "begin\nbegin\n1 get 0\n2 get 0\n1 put 0 1\n2 put 0 2\nresume 1\n",
	} {
		for _, e := range append(someEngines(), keyStore()) {
			checkInTwoParts(t, e, text)
		}
	}
}

// TestScriptsOfManyParts has each line of a script as one of its own.
func TestScriptsOfManyParts(t *testing.T) {
	for seed := range uint32(12) {
		s := &teller{walk: walk{t: t, next: numbersFrom(seed + 2400), e: keyStore(), came: map[string]int{}}}
		text := s.tell(50, 4)
		whole := ranScript(t, keyStore(), text)
		then, said := keyStore(), ""
		for line := range strings.Lines(text) {
			part := impl.RunScript(then, line)
			then, said = part.Engine, said+part.Said
		}
		if said != whole.Said || !same(then, whole.Engine) {
			t.Fatalf("RunScript of %q line by line: %q, want %q", text, said, whole.Said)
		}
	}
}

// TestEveryScriptOfSomeLines has all scripts of up to four of some lines, behind two of whom each has a key.
func TestEveryScriptOfSomeLines(t *testing.T) {
	lines := []string{"1 get 1", "2 get 0", "1 put 0 9", "1 commit", "2 abort", "resume 1", "resume 2", "", "wink"}
	said := map[string]int{}
	e := play(t, begun(keyStore(), "uu"), "1 put 0 7; 2 put 1 8").Engine
	scripts := [][]string{nil}
	for at := 0; len(scripts[at]) < 4; at++ {
		for _, line := range lines {
			scripts = append(scripts, append(slices.Clone(scripts[at]), line))
		}
	}
	for _, script := range scripts {
		text := strings.Join(script, "\n")
		whole := impl.RunScript(e, text)
		if want := wantedScript(e, text); !same(whole, want) {
			t.Fatalf("RunScript of %q: %v, want %v", text, whole, want)
		}
		for word := range strings.FieldsSeq(whole.Said) {
			said[word]++
		}
	}
	checkCame(t, said, "ok", "waits", "victim", "over", "!", "5", "10", "8")
}
