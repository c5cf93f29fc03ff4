package tests

import (
	"fmt"
	"regexp"
	"strconv"
	"strings"
	"testing"

	"loop.example/g00270/impl"
)

// wantedWords, wantedOpText, wantedEngineText, wantedLine and wantedScript tell by the document alone what is answered.
func wantedWords(line string) impl.WordsResult {
	var want impl.WordsResult
	inWord := false
	for i := range len(line) {
		switch {
		case line[i] == 32:
			inWord = false
		case inWord:
			want.Words[len(want.Words)-1] += line[i : i+1]
		default:
			want.Words = append(want.Words, line[i:i+1])
			inWord = true
		}
	}
	return want
}

func wantedOpText(o impl.Op) impl.TextResult {
	if code := wantedOpFault(o); code != impl.OK {
		return impl.TextResult{Code: code}
	}
	texts := []string{
		impl.OpGet:    fmt.Sprintf("get %d", o.Key),
		impl.OpPut:    fmt.Sprintf("put %d %d", o.Key, o.Value),
		impl.OpDelete: fmt.Sprintf("delete %d", o.Key),
		impl.OpScan:   fmt.Sprintf("scan %d %d", o.Key, o.High),
		impl.OpFind:   fmt.Sprintf("find %d", o.Value),
		impl.OpCommit: "commit",
		impl.OpAbort:  "abort",
		impl.OpClean:  fmt.Sprintf("clean %d", o.Key),
		impl.OpPack:   "pack",
		impl.OpBuild:  "build",
	}
	return impl.TextResult{Text: texts[o.Kind]}
}

func wantedEngineText(e impl.Engine) impl.TextResult {
	if code := wantedEngineFault(e); code != impl.OK {
		return impl.TextResult{Code: code}
	}
	text := "rows"
	for _, r := range wantedMap(rowsIn(e.Leaves)).Rows {
		text += fmt.Sprintf(" %d %d", r.Key, r.Value)
	}
	text += "\n"
	states := strings.Fields("- live waits done gone")
	for _, own := range e.Txns {
		whose := map[bool]string{false: "user", true: "system"}[own.System]
		text += fmt.Sprintf("txn %d %s %s\n", own.Id, whose, states[own.State])
	}
	modes := strings.Fields("none is ix s six x")
	for _, lock := range e.Locks {
		text += fmt.Sprintf("lock %d", lock.Res)
		for _, h := range lock.Holds {
			text += fmt.Sprintf(" %d:%s", h.Txn, modes[h.Mode])
		}
		for _, h := range lock.Queue {
			text += fmt.Sprintf(" %d?%s", h.Txn, modes[h.Mode])
		}
		text += "\n"
	}
	return impl.TextResult{Text: text}
}

// lineForm is a line as the document writes it, N for a number, and what it does; the numbers are those of the line, in order.
type lineForm struct {
	read *regexp.Regexp
	does func(e impl.Engine, n []int64) impl.ScriptResult
}

func lineOf(form string, does func(e impl.Engine, n []int64) impl.ScriptResult) lineForm {
	pattern := strings.ReplaceAll(strings.ReplaceAll(form, " ", " +"), "N", "([0-9]{1,4})")
	return lineForm{regexp.MustCompile("^ *" + pattern + " *$"), does}
}

func opLineOf(form string, o func(n []int64) impl.Op) lineForm {
	return lineOf("N "+form, func(e impl.Engine, n []int64) impl.ScriptResult { return wantedSaid(wantedDo(e, n[0], o(n[1:]))) })
}

var lineForms = []lineForm{
	lineOf("", func(e impl.Engine, n []int64) impl.ScriptResult { return impl.ScriptResult{Engine: e} }),
	lineOf("begin", func(e impl.Engine, n []int64) impl.ScriptResult { return wantedBegun(e, false) }),
	lineOf("system", func(e impl.Engine, n []int64) impl.ScriptResult { return wantedBegun(e, true) }),
	lineOf("crash", func(e impl.Engine, n []int64) impl.ScriptResult {
		back := wantedCrash(e, int64(len(e.Wal.Loose)))
		return impl.ScriptResult{Code: back.Code, Engine: back.Engine, Said: map[bool]string{true: "back"}[back.Code == impl.OK]}
	}),
	lineOf("tidy", func(e impl.Engine, n []int64) impl.ScriptResult { return wantedTidy(e) }),
	lineOf("show", func(e impl.Engine, n []int64) impl.ScriptResult {
		return impl.ScriptResult{Engine: e, Said: wantedEngineText(e).Text}
	}),
	lineOf("resume N", func(e impl.Engine, n []int64) impl.ScriptResult { return wantedSaid(wantedResume(e, n[0])) }),
	opLineOf("get N", func(n []int64) impl.Op { return getOf(n[0]) }),
	opLineOf("put N N", func(n []int64) impl.Op { return putOf(n[0], n[1]) }),
	opLineOf("delete N", func(n []int64) impl.Op { return impl.Op{Kind: impl.OpDelete, Key: n[0]} }),
	opLineOf("scan N N", func(n []int64) impl.Op { return scanOf(n[0], n[1]) }),
	opLineOf("find N", func(n []int64) impl.Op { return impl.Op{Kind: impl.OpFind, Value: n[0]} }),
	opLineOf("commit", func(n []int64) impl.Op { return impl.Op{Kind: impl.OpCommit} }),
	opLineOf("abort", func(n []int64) impl.Op { return impl.Op{Kind: impl.OpAbort} }),
	opLineOf("clean N", func(n []int64) impl.Op { return impl.Op{Kind: impl.OpClean, Key: n[0]} }),
	opLineOf("pack", func(n []int64) impl.Op { return impl.Op{Kind: impl.OpPack} }),
	opLineOf("build", func(n []int64) impl.Op { return impl.Op{Kind: impl.OpBuild} }),
}

func wantedBegun(e impl.Engine, system bool) impl.ScriptResult {
	got := wantedBegin(e, system)
	if got.Code != impl.OK {
		return impl.ScriptResult{Code: got.Code}
	}
	return impl.ScriptResult{Engine: got.Engine, Said: "txn " + strconv.FormatInt(got.Id, 10)}
}

func wantedTidy(e impl.Engine) impl.ScriptResult {
	got := wantedSystem(e, cleansOf(wantedGhosts(e).List))
	if got.Code == impl.OK {
		got = wantedSystem(got.Engine, opsNamed("pack"))
	}
	if got.Code != impl.OK {
		return impl.ScriptResult{Code: got.Code}
	}
	return impl.ScriptResult{Engine: got.Engine, Said: "ok"}
}

// wantedSaid is of an operation that was done or resumed, or was not.
func wantedSaid(did impl.EngineResult) impl.ScriptResult {
	if did.Code != impl.OK && did.Code != impl.ErrVictim {
		return impl.ScriptResult{Code: did.Code}
	}
	return impl.ScriptResult{Engine: did.Engine, Said: cameTo(did)}
}

func wantedLine(e impl.Engine, line string) impl.ScriptResult {
	if code := wantedEngineFault(e); code != impl.OK {
		return impl.ScriptResult{Code: code}
	}
	for _, form := range lineForms {
		words := form.read.FindStringSubmatch(line)
		if words == nil {
			continue
		}
		var numbers []int64
		for _, word := range words[1:] {
			numbers = append(numbers, numberOf(word))
		}
		return form.does(e, numbers)
	}
	return impl.ScriptResult{Code: impl.ErrText}
}

func linesIn(text string) []string {
	var lines []string
	for rest := text; rest != ""; {
		line, behind, _ := strings.Cut(rest, "\n")
		lines = append(lines, line)
		rest = behind
	}
	return lines
}

func wantedScript(e impl.Engine, text string) impl.ScriptResult {
	if code := wantedEngineFault(e); code != impl.OK {
		return impl.ScriptResult{Code: code}
	}
	if len(text) > 1200 || len(linesIn(text)) > 60 {
		return impl.ScriptResult{Code: impl.ErrMany}
	}
	want := impl.ScriptResult{Engine: e}
	for _, line := range linesIn(text) {
		step := wantedLine(want.Engine, line)
		switch {
		case step.Code != impl.OK:
			want.Said += fmt.Sprintf("! %d\n", step.Code)
			continue
		case step.Said != "":
			want.Said += strings.TrimSuffix(step.Said, "\n") + "\n"
		}
		want.Engine = step.Engine
	}
	return want
}

// checkScript holds an answer against the one that is wanted; beside a code there is nothing, and what is told beside none has no fault.
func checkScript(t *testing.T, name string, e impl.Engine, got, want impl.ScriptResult) {
	t.Helper()
	if !same(got, want) {
		t.Fatalf("%s: %v, want %v; of %v", name, got, want, e)
	}
	if got.Code != impl.OK {
		if !same(got, impl.ScriptResult{Code: got.Code}) {
			t.Fatalf("%s: something beside the code: %v", name, got)
		}
		return
	}
	if code := impl.EngineFault(got.Engine); code != impl.OK {
		t.Fatalf("%s: the engine has the fault %d then: %v", name, code, got)
	}
	if !wantedHasCycle(wantedEdges(e.Locks).Edges) && impl.HasCycle(impl.EdgesOf(got.Engine.Locks).Edges) {
		t.Fatalf("%s: there is a circle, where there was none: %v", name, got)
	}
}

// stepLine, ranScript, shown, opText and wordsOf hold what they are told against the document.
func stepLine(t *testing.T, e impl.Engine, line string) impl.ScriptResult {
	t.Helper()
	got := impl.StepScript(e, line)
	checkScript(t, fmt.Sprintf("StepScript of %q", line), e, got, wantedLine(e, line))
	return got
}

func ranScript(t *testing.T, e impl.Engine, text string) impl.ScriptResult {
	t.Helper()
	got := impl.RunScript(e, text)
	checkScript(t, fmt.Sprintf("RunScript of %q", text), e, got, wantedScript(e, text))
	return got
}

func shown(t *testing.T, e impl.Engine) impl.TextResult {
	t.Helper()
	got := impl.EngineText(e)
	if want := wantedEngineText(e); got != want {
		t.Fatalf("EngineText: %v, want %v; of %v", got, want, e)
	}
	return got
}

func opText(t *testing.T, o impl.Op) impl.TextResult {
	t.Helper()
	got := impl.OpText(o)
	if want := wantedOpText(o); got != want {
		t.Fatalf("OpText of %v: %v, want %v", o, got, want)
	}
	return got
}

func wordsOf(t *testing.T, line string) []string {
	t.Helper()
	got := impl.WordsOf(line)
	if want := wantedWords(line); !same(got, want) {
		t.Fatalf("WordsOf %q: %q, want %q", line, got.Words, want.Words)
	}
	return got.Words
}
