package tests

import (
	"reflect"
	"strings"
	"sync"
	"testing"
	"unsafe"

	"loop.example/g00270/impl"
)

// scriptGiven is all that scripts are given.
type scriptGiven struct {
	Engine impl.Engine
	Lines  []string
	Texts  []string
	Ops    []impl.Op
}

// scriptAnswers is all that is told of it.
type scriptAnswers struct {
	Steps []impl.ScriptResult
	Runs  []impl.ScriptResult
	Text  impl.TextResult
	Ops   []impl.TextResult
	Words []impl.WordsResult
}

func scriptCalls(g scriptGiven) scriptAnswers {
	got := scriptAnswers{Text: impl.EngineText(g.Engine)}
	for _, line := range g.Lines {
		got.Steps = append(got.Steps, impl.StepScript(g.Engine, line))
		got.Words = append(got.Words, impl.WordsOf(line))
	}
	for _, text := range g.Texts {
		got.Runs = append(got.Runs, impl.RunScript(g.Engine, text))
	}
	for _, o := range g.Ops {
		got.Ops = append(got.Ops, impl.OpText(o))
	}
	return got
}

// toScript has engines of every kind with lines and texts of every kind.
func toScript(t *testing.T) []scriptGiven {
	t.Helper()
	lines := append(rightLines(), " ", "wink", "\n", "1 get 100", "0 commit", "resume 2", "resume 1", "resume 99", "2 get 0", "2 put 0 1", "3 put 8 1", " 1  get  1 ", strings.Repeat(" a", 300))
	texts := []string{
		"", "\n", "show", "wink", "begin\n1 get 1\nshow\n", "begin\n\nsystem\n1 put 1 7\n1 put 0 7\n2 get 0\nresume 2\n1 commit\nresume 2\ntidy\ncrash\nshow", "1 get 1\n2 get 1\n1 put 8 1\n2 put 8 1\nresume 1\nresume 2\n1 commit\n2 commit\nshow",
		strings.Repeat("\n", 61), strings.Repeat(" ", 1201), "tidy\ntidy\nshow\n",
	}
	var given []scriptGiven
	for _, e := range append(someEngines(), enginesAtWork(t)...) {
		given = append(given, scriptGiven{Engine: e, Lines: lines, Texts: texts, Ops: oddOps()})
	}
	return given
}

func TestScriptsStayAndAnswersRepeat(t *testing.T) {
	for _, odd := range toScript(t) {
		checkStays(t, odd, scriptCalls)
	}
}

// TestScriptsOfEnginesWithFaultsStay has engines with every fault; what they tell is asked elsewhere.
func TestScriptsOfEnginesWithFaultsStay(t *testing.T) {
	for _, wrong := range allBreaks() {
		odd := scriptGiven{Engine: busyEngine(), Lines: rightLines(), Texts: []string{"begin\nshow\n"}}
		wrong.turn(&odd.Engine)
		given := roomyCopy(odd)
		before := wholeCopy(given)
		scriptCalls(given)
		if !reflect.DeepEqual(wholeCopy(given), before) {
			t.Fatalf("an engine is changed: %s, %s", wrong.part, wrong.name)
		}
	}
}

func TestAnswersOfScriptsAreNewMemory(t *testing.T) {
	for _, odd := range toScript(t) {
		given := roomyCopy(odd)
		first, second := scriptCalls(given), scriptCalls(given)
		for i, got := range first.Steps {
			checkApart(t, "StepScript", got, given, second.Steps[i])
			checkApart(t, "WordsOf", first.Words[i], given, second.Words[i])
		}
		for i, got := range first.Runs {
			checkApart(t, "RunScript", got, given, second.Runs[i])
		}
	}
}

func TestAnswersOfScriptsStayWhenTheRestTurns(t *testing.T) {
	for _, some := range toScript(t) {
		checkKept(t, some, scriptCalls)
	}
}

// sharesText asks whether two texts have some byte in one place.
func sharesText(a, b string) bool {
	from, other := uintptr(unsafe.Pointer(unsafe.StringData(a))), uintptr(unsafe.Pointer(unsafe.StringData(b)))
	return len(a) > 0 && len(b) > 0 && from < other+uintptr(len(b)) && other < from+uintptr(len(a))
}

// TestTextsAreNewMemory has lines and texts that are in nobody else's hands: nothing that is told shares a byte with them, and no word with another one.
func TestTextsAreNewMemory(t *testing.T) {
	line := strings.Clone("begin")
	if !sharesText(line, line[1:3]) || sharesText(line, strings.Clone(line)) || sharesText(line[:2], line[2:]) {
		t.Fatal("what is shared is not seen")
	}
	for _, text := range append(rightLines(), "show", " show ", "a bb ccc", strings.Repeat("long ", 100), "wink\nwink", "begin\nshow\n1 get 1") {
		given := strings.Clone(text)
		words := impl.WordsOf(given).Words
		for i, word := range words {
			if sharesText(word, given) {
				t.Errorf("a word of %q is a piece of it: %q", text, word)
			}
			for _, other := range words[:i] {
				if len(word) > 1 && sharesText(word, other) {
					t.Errorf("two words of %q share memory: %q and %q", text, word, other)
				}
			}
		}
		for _, said := range []string{impl.StepScript(busyEngine(), given).Said, impl.RunScript(busyEngine(), given).Said} {
			if sharesText(said, given) {
				t.Errorf("what is said of %q is a piece of it: %q", text, said)
			}
		}
		if given != text {
			t.Errorf("the text is changed: %q, and was %q", given, text)
		}
	}
}

// TestACodeOfScriptsIsAlone has beside a code nothing.
func TestACodeOfScriptsIsAlone(t *testing.T) {
	codes := map[int64]int{}
	for _, given := range toScript(t) {
		calls := scriptCalls(given)
		for _, got := range append(calls.Steps, calls.Runs...) {
			codes[got.Code]++
			if got.Code != impl.OK && !reflect.DeepEqual(got, impl.ScriptResult{Code: got.Code}) {
				t.Fatalf("something beside the code: %v", got)
			}
			if got.Code == impl.OK && impl.EngineFault(got.Engine) != impl.OK {
				t.Fatalf("an engine with a fault beside no code: %v", got)
			}
		}
		for _, got := range append(calls.Ops, calls.Text) {
			if got.Code != impl.OK && got.Text != "" {
				t.Fatalf("something beside the code: %v", got)
			}
		}
		for _, got := range calls.Words {
			if got.Code != impl.OK {
				t.Fatalf("words have no code: %v", got)
			}
		}
	}
	for _, code := range []int64{impl.OK, impl.ErrForm, impl.ErrMany, impl.ErrRange, impl.ErrText, impl.ErrState} {
		if codes[code] < 5 {
			t.Errorf("the code %d came too seldom: %v", code, codes)
		}
	}
	if codes[impl.ErrVictim] > 0 {
		t.Errorf("ErrVictim is no code of a line: %v", codes)
	}
}

// TestScriptsAskedByManyAtOnce has many ask at the same time, so that nothing can be kept from one call to another unseen.
func TestScriptsAskedByManyAtOnce(t *testing.T) {
	given := toScript(t)
	var want []scriptAnswers
	for _, g := range given {
		want = append(want, scriptCalls(g))
	}
	var asking sync.WaitGroup
	wrong := make([]bool, 6)
	for who := range wrong {
		asking.Go(func() {
			for i, g := range given {
				wrong[who] = wrong[who] || !reflect.DeepEqual(scriptCalls(g), want[i])
			}
		})
	}
	asking.Wait()
	for who, other := range wrong {
		if other {
			t.Errorf("%d of those who asked at once is told something else", who)
		}
	}
}
