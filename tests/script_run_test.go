package tests

import (
	"fmt"
	"strings"
	"testing"

	"loop.example/g00270/impl"
)

// lined has lines with "/" between them, each ended by a line feed.
func lined(lines string) string {
	return strings.ReplaceAll(lines, "/", "\n") + "\n"
}

func TestRunScriptSays(t *testing.T) {
	for _, c := range []struct {
		name, text, said string
	}{
		{"an empty text", "", ""},
		{"a line feed", "\n", ""},
		{"line feeds alone", "\n\n\n\n", ""},
		{"blanks alone", "    ", ""},
		{"blanks and line feeds", " \n   \n  ", ""},
		{"one line", "begin\n", "txn 1\n"},
		{"one line that is not ended", "begin", "txn 1\n"},
		{"two lines", "begin\nbegin\n", "txn 1\ntxn 2\n"},
		{"two lines, the last one not ended", "begin\nbegin", "txn 1\ntxn 2\n"},
		{"empty lines between, ahead and behind", "\n\nbegin\n\n  \nbegin\n\n\n", "txn 1\ntxn 2\n"},
		{"blanks at the ends of lines", "  begin \n 1  get   3  \n", "txn 1\nok 30\n"},
		{"show alone", "show\n", "rows 0 0 1 10 2 20 3 30 4 40 5 50 6 60 7 70 8 80 9 90\n"},
		{"show alone, not ended", "show", "rows 0 0 1 10 2 20 3 30 4 40 5 50 6 60 7 70 8 80 9 90\n"},
		{"a line that is none", "wink\n", "! 5\n"},
		{"a line that is none, not ended", "wink", "! 5\n"},
		{"a return at the ends of lines", "begin\r\nbegin\r\n", "! 5\n! 5\n"},
		{"lines that are none between others", "wink\nbegin\n1 wink\n1 get 3\nwink", "! 5\ntxn 1\n! 5\nok 30\n! 5\n"},
		{"one who is none", "1 get 3\nbegin\n1 get 3\n2 get 3\n0 get 3\n9999 commit", "! 3\ntxn 1\nok 30\n! 3\n! 3\n! 3\n"},
		{"a key that is none", "begin\n1 get 100\n1 put 1 9999\n1 put 1 10000\n", "txn 1\n! 3\nok\n! 5\n"},
		{"what is of the system, and of users", "begin\nsystem\n1 pack\n2 pack\n2 put 1 1\n1 put 1 1\n", "txn 1\ntxn 2\n! 1\nok\n! 1\nok\n"},
		{"a find ahead of a build", "system\n1 find 30\n1 build\n1 find 30\n", "txn 1\n! 4\nok\nok 3\n"},
		{"one who waits, resumed too early and too late", lined("begin/begin/1 put 3 7/2 get 3/2 get 4/resume 2/1 commit/resume 2/resume 2"), lined("txn 1/txn 2/ok/waits/! 10/! 8/ok/ok 7/! 10")},
		{"one who is at an end", lined("begin/1 commit/1 commit/1 get 3"), lined("txn 1/ok/! 10/! 10")},
		{"one who gives way", lined("begin/begin/1 put 0 7/2 put 1 8/1 get 1/2 get 0/resume 1/2 commit/1 commit/begin/3 scan 0 1"), lined("txn 1/txn 2/ok/ok/waits/victim over 2/ok 10/! 10/ok/txn 3/ok 0 7 1 10")},
		{"one who has another one give way", lined("begin/begin/1 put 0 7/2 put 1 8/2 get 0/1 get 1/resume 2"), lined("txn 1/txn 2/ok/ok/waits/ok 10 over 2/! 10")},
		{"show between others", lined("begin/show/1 get 3/show/1 commit/show"), lined("txn 1/rows 0 0 1 10 2 20 3 30 4 40 5 50 6 60 7 70 8 80 9 90/txn 1 user live/ok 30/rows 0 0 1 10 2 20 3 30 4 40 5 50 6 60 7 70 8 80 9 90/txn 1 user live/lock 0 1:is/lock 4 1:s/ok/rows 0 0 1 10 2 20 3 30 4 40 5 50 6 60 7 70 8 80 9 90/txn 1 user done")},
		{"a crash between others", lined("begin/1 put 3 7/1 commit/begin/2 put 3 8/crash/begin/1 get 3/2 get 3"), lined("txn 1/ok/ok/txn 2/ok/back/txn 1/ok 7/! 3")},
		{"tidy between others", lined("begin/1 delete 3/tidy/1 commit/tidy/begin/6 scan 2 4/show"), lined("txn 1/ok/ok/ok/ok/txn 6/ok 2 20 4 40/rows 0 0 1 10 2 20 4 40 5 50 6 60 7 70 8 80 9 90/txn 1 user done/txn 2 system gone/txn 3 system done/txn 4 system done/txn 5 system done/txn 6 user live/lock 0 6:s")},
	} {
		got := ranScript(t, keyStore(), c.text)
		if got.Code != impl.OK || got.Said != c.said {
			t.Errorf("RunScript, %s: the code %d and %q, want %q", c.name, got.Code, got.Said, c.said)
		}
	}
}

// TestRunScriptLeavesTheEngine has texts that change nothing: no lines, empty ones, show, and lines with codes alone.
func TestRunScriptLeavesTheEngine(t *testing.T) {
	for _, e := range append(someEngines(), enginesAtWork(t)...) {
		text := impl.EngineText(e).Text
		for _, c := range []struct{ text, said string }{
			{"", ""}, {"\n", ""}, {strings.Repeat("\n", 60), ""}, {" ", ""}, {"show", text}, {"show\n", text}, {"\nshow\n\n", text}, {"show\nshow", text + text}, {"wink\n", "! 5\n"}, {"wink\n\nshow\n0 commit", "! 5\n" + text + "! 3\n"},
		} {
			if got := ranScript(t, e, c.text); !same(got, impl.ScriptResult{Engine: e, Said: c.said}) {
				t.Fatalf("RunScript of %q: %v, want %q", c.text, got, c.said)
			}
		}
	}
}

// TestALineWithACodeLeavesTheEngine has every line that has one, ahead of lines that have none: these find the engine as it was.
func TestALineWithACodeLeavesTheEngine(t *testing.T) {
	codes := map[int64]int{}
	for _, cases := range [][]codeCase{beginCodes(), doCodes(), resumeCodes(), tidyCodes()} {
		for _, c := range cases {
			if c.want == impl.OK {
				continue
			}
			codes[c.want]++
			said := fmt.Sprintf("! %d\n", c.want)
			text := impl.EngineText(c.e).Text
			if got := ranScript(t, c.e, "show\n"+c.line+"\nshow\n"); !same(got, impl.ScriptResult{Engine: c.e, Said: text + said + text}) {
				t.Errorf("RunScript of %q between two shows, %s: %v", c.line, c.name, got)
			}
			if got := ranScript(t, c.e, c.line+"\n"+c.line+"\ncrash"); !same(got.Engine, impl.StepScript(c.e, "crash").Engine) || got.Said != said+said+"back\n" {
				t.Errorf("RunScript of %q twice, and a crash, %s: %v", c.line, c.name, got)
			}
		}
	}
	for _, code := range []int64{impl.ErrForm, impl.ErrMany, impl.ErrRange, impl.ErrNone, impl.ErrWait, impl.ErrState} {
		if codes[code] == 0 {
			t.Errorf("no line has the code %d: %v", code, codes)
		}
	}
	e := keyStore()
	for name, lines := range wrongLines() {
		for _, line := range lines {
			if strings.Contains(line, "\n") {
				continue
			}
			if got := ranScript(t, e, line+"\nbegin"); got.Said != "! 5\ntxn 1\n" {
				t.Errorf("RunScript of %q and begin, %s: %q", line, name, got.Said)
			}
		}
	}
}

// TestTidyIsTakenBackAsAWhole has no room for that which packs: what was cleaned ahead of it is not seen.
func TestTidyIsTakenBackAsAWhole(t *testing.T) {
	e := smallEngine(false, false)
	e.Txns = liveTxns(19, 0)
	cleaned := impl.CleanEngine(e)
	if !cleaned.Done || impl.PackEngine(cleaned.Engine).Code != impl.ErrMany || len(impl.GhostsOf(cleaned.Engine).List) != 0 {
		t.Fatalf("the first half of it: %v", cleaned)
	}
	got := ranScript(t, e, "tidy\nbegin\n")
	if got.Said != "! 2\ntxn 20\n" || len(impl.GhostsOf(got.Engine).List) != 1 || got.Engine.Txns[19].System {
		t.Errorf("RunScript of tidy, and begin: %v", got)
	}
}

func TestRunScriptOfManyBytes(t *testing.T) {
	e := keyStore()
	filled := func(size int, ahead, with string) string {
		text := ahead + strings.Repeat(with, size)
		return text[:size]
	}
	for _, size := range []int{0, 1, 2, 256, 1000, 1198, 1199, 1200, 1201, 1202, 1256, 2400, 65536 + 5, 100000} {
		want := codeIf(size > impl.MaxScript, impl.ErrMany)
		for _, text := range []string{filled(size, "", " "), filled(size, "", "x"), filled(size, "begin\nshow\n", " "), filled(size, "begin\nwink\n", "\xff"), filled(size, "", strings.Repeat(" ", 40)+"\n")} {
			got := ranScript(t, e, text)
			if got.Code != want || want != impl.OK && !same(got, impl.ScriptResult{Code: want}) {
				t.Errorf("RunScript of %d bytes: %v, want the code %d", size, got, want)
			}
		}
	}
	full := strings.Repeat("show"+strings.Repeat(" ", 45)+"\n", 24)
	if got := ranScript(t, e, full); len(full) != 1200 || strings.Count(got.Said, "rows 0 0 1 10") != 24 {
		t.Errorf("RunScript of %d bytes: %v", len(full), got)
	}
	if got := ranScript(t, e, full+"\n"); !same(got, impl.ScriptResult{Code: impl.ErrMany}) {
		t.Errorf("RunScript of a line feed more: %v", got)
	}
}

// TestRunScriptOfManyLines has the last line ended, not ended, and empty.
func TestRunScriptOfManyLines(t *testing.T) {
	e := keyStore()
	for _, line := range []string{"", " ", "x", "begin", "wink wink", "show"} {
		for _, count := range []int{0, 1, 2, 58, 59, 60, 61, 62, 100, 1000} {
			ended := strings.Repeat(line+"\n", count)
			if len(ended)+10 > impl.MaxScript {
				continue
			}
			for _, last := range []string{"", " ", "x", "begin", "\n", "\n\n", "\nx"} {
				lines := count + strings.Count(last, "\n")
				if last != "" && !strings.HasSuffix(last, "\n") {
					lines++
				}
				want := codeIf(lines > impl.MaxLines, impl.ErrMany)
				if got := ranScript(t, e, ended+last); got.Code != want {
					t.Errorf("RunScript of %d lines %q and %q: %v, want the code %d", count, line, last, got, want)
				}
			}
		}
	}
	for _, count := range []int{60, 61, 1200, 1201, 100000} {
		want := codeIf(count > 60, impl.ErrMany)
		if got := ranScript(t, e, strings.Repeat("\n", count)); got.Code != want {
			t.Errorf("RunScript of %d line feeds: %v, want the code %d", count, got, want)
		}
	}
	many := strings.Repeat("begin\n", 60)
	got := ranScript(t, impl.Engine{}, many)
	if len(got.Engine.Txns) != 20 || !strings.HasSuffix(got.Said, "txn 19\ntxn 20\n"+strings.Repeat("! 2\n", 40)) {
		t.Errorf("RunScript of as many lines as there may be: %v", got)
	}
}

// TestRunScriptIsStepsInARow has each case's lines stepped one by one too.
func TestRunScriptIsStepsInARow(t *testing.T) {
	text := lined("begin/begin/system/3 build/3 commit/1 put 3 7/2 find 30/1 get 4/wink/2 get 4/2 scan 0 1/1 commit/resume 2//show/2 delete 9/2 abort/tidy/crash/show/1 get 1/begin/1 get 3")
	e := keyStore()
	then, said := e, ""
	for _, line := range linesIn(text) {
		step := impl.StepScript(then, line)
		switch {
		case step.Code != impl.OK:
			said += fmt.Sprintf("! %d\n", step.Code)
			continue
		case step.Said != "" && !strings.HasSuffix(step.Said, "\n"):
			step.Said += "\n"
		}
		then, said = step.Engine, said+step.Said
	}
	if got := ranScript(t, e, text); !same(got, impl.ScriptResult{Engine: then, Said: said}) {
		t.Errorf("RunScript: %v, want %v", got, said)
	}
}
