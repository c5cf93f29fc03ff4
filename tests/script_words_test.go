package tests

import (
	"slices"
	"strings"
	"testing"

	"loop.example/g00270/impl"
)

func TestWordsOfCases(t *testing.T) {
	for _, c := range []struct {
		name, line string
		want       []string
	}{
		{"an empty line", "", nil},
		{"a blank", " ", nil},
		{"blanks alone", "     ", nil},
		{"one word", "show", []string{"show"}},
		{"one word of one byte", "a", []string{"a"}},
		{"a blank ahead", " a", []string{"a"}},
		{"a blank behind", "a ", []string{"a"}},
		{"blanks at both ends", "   a  ", []string{"a"}},
		{"two words", "a b", []string{"a", "b"}},
		{"several blanks between", "a    b", []string{"a", "b"}},
		{"blanks everywhere", "  a   bc d    ", []string{"a", "bc", "d"}},
		{"one word twice", "a a", []string{"a", "a"}},
		{"many words", "1 put 99 9999 and more", []string{"1", "put", "99", "9999", "and", "more"}},
		{"a tab is no blank", "a\tb", []string{"a\tb"}},
		{"a tab alone", "\t", []string{"\t"}},
		{"tabs and blanks", "\t a \t", []string{"\t", "a", "\t"}},
		{"a line feed is no blank", "a\nb c", []string{"a\nb", "c"}},
		{"a line feed alone", "\n", []string{"\n"}},
		{"line feeds and blanks", " \n \n", []string{"\n", "\n"}},
		{"other bytes that look like blanks", "a\rb\vc\fd\x00e", []string{"a\rb\vc\fd\x00e"}},
		{"the byte 0 alone", "\x00", []string{"\x00"}},
		{"bytes from 128 on", "\x80 \xff\xfe \xa0", []string{"\x80", "\xff\xfe", "\xa0"}},
		{"letters of two bytes and more", "ä €  𝄞", []string{"ä", "€", "𝄞"}},
		{"blanks of other alphabets", "a\u00a0b\u2003c\u3000d", []string{"a\u00a0b\u2003c\u3000d"}},
		{"a byte that begins a letter, ahead of a blank", "\xe2 \xe2\x82 x", []string{"\xe2", "\xe2\x82", "x"}},
	} {
		got := impl.WordsOf(c.line)
		if !same(got, impl.WordsResult{Words: c.want}) || !slices.Equal(wordsOf(t, c.line), c.want) {
			t.Errorf("WordsOf, %s: %q, want %q", c.name, got.Words, c.want)
		}
	}
}

// TestWordsAreCutAtBlanksAlone has every byte between two others, at both ends, and alone.
func TestWordsAreCutAtBlanksAlone(t *testing.T) {
	for b := range 256 {
		one := string([]byte{byte(b)})
		if got := wordsOf(t, "x"+one+"y"); (len(got) == 2) != (b == 32) {
			t.Errorf("WordsOf with the byte %d between: %q", b, got)
		}
		if got := wordsOf(t, one+"x"+one); len(got) != 1 || (len(got[0]) == 1) != (b == 32) {
			t.Errorf("WordsOf with the byte %d at both ends: %q", b, got)
		}
		if got := wordsOf(t, one); (len(got) == 0) != (b == 32) {
			t.Errorf("WordsOf the byte %d: %q", b, got)
		}
	}
}

// everyLine has all lines of up to so many of some letters.
func everyLine(letters []string, longest int) []string {
	lines := []string{""}
	for at := 0; len(lines[at]) < longest; at++ {
		for _, letter := range letters {
			lines = append(lines, lines[at]+letter)
		}
	}
	return lines
}

func TestEveryLineInWords(t *testing.T) {
	for _, line := range everyLine([]string{" ", "a", "\t", "\xff"}, 6) {
		got := wordsOf(t, line)
		if slices.ContainsFunc(got, func(word string) bool { return word == "" || strings.Contains(word, " ") }) {
			t.Fatalf("WordsOf %q: %q", line, got)
		}
		if strings.Join(got, "") != strings.ReplaceAll(line, " ", "") {
			t.Fatalf("WordsOf %q: %q, and some bytes are others", line, got)
		}
		if again := impl.WordsOf(strings.Join(got, "   ")); !slices.Equal(again.Words, got) {
			t.Fatalf("WordsOf %q: %q, then %q", line, got, again.Words)
		}
	}
}

func TestWordsOfLongLines(t *testing.T) {
	for _, c := range []struct {
		line  string
		count int
	}{
		{strings.Repeat(" ", 100000), 0}, {strings.Repeat("a", 100000), 1}, {strings.Repeat("a ", 50000), 50000}, {strings.Repeat("  \xff\n", 25000), 25000},
	} {
		if got := impl.WordsOf(c.line); got.Code != impl.OK || len(got.Words) != c.count {
			t.Errorf("WordsOf %d bytes: %d words and the code %d, want %d", len(c.line), len(got.Words), got.Code, c.count)
		}
	}
}

func TestOpTextCases(t *testing.T) {
	for _, c := range []struct {
		o    impl.Op
		want string
	}{
		{impl.Op{Kind: impl.OpGet}, "get 0"},
		{impl.Op{Kind: impl.OpGet, Key: 7}, "get 7"},
		{impl.Op{Kind: impl.OpGet, Key: 99}, "get 99"},
		{impl.Op{Kind: impl.OpPut}, "put 0 0"},
		{impl.Op{Kind: impl.OpPut, Key: 7, Value: 300}, "put 7 300"},
		{impl.Op{Kind: impl.OpPut, Key: 0, Value: 9999}, "put 0 9999"},
		{impl.Op{Kind: impl.OpPut, Key: 99, Value: 0}, "put 99 0"},
		{impl.Op{Kind: impl.OpPut, Key: 99, Value: 9999}, "put 99 9999"},
		{impl.Op{Kind: impl.OpDelete}, "delete 0"},
		{impl.Op{Kind: impl.OpDelete, Key: 10}, "delete 10"},
		{impl.Op{Kind: impl.OpDelete, Key: 99}, "delete 99"},
		{impl.Op{Kind: impl.OpScan}, "scan 0 0"},
		{impl.Op{Kind: impl.OpScan, Key: 1, High: 2}, "scan 1 2"},
		{impl.Op{Kind: impl.OpScan, Key: 99, High: 0}, "scan 99 0"},
		{impl.Op{Kind: impl.OpScan, Key: 0, High: 99}, "scan 0 99"},
		{impl.Op{Kind: impl.OpFind}, "find 0"},
		{impl.Op{Kind: impl.OpFind, Value: 100}, "find 100"},
		{impl.Op{Kind: impl.OpFind, Value: 9999}, "find 9999"},
		{impl.Op{Kind: impl.OpCommit}, "commit"},
		{impl.Op{Kind: impl.OpAbort}, "abort"},
		{impl.Op{Kind: impl.OpClean}, "clean 0"},
		{impl.Op{Kind: impl.OpClean, Key: 50}, "clean 50"},
		{impl.Op{Kind: impl.OpClean, Key: 99}, "clean 99"},
		{impl.Op{Kind: impl.OpPack}, "pack"},
		{impl.Op{Kind: impl.OpBuild}, "build"},
	} {
		if got := impl.OpText(c.o); got != (impl.TextResult{Text: c.want}) {
			t.Errorf("OpText of %v: %v, want %q", c.o, got, c.want)
		}
		if told := wantedOpText(c.o); told.Text != c.want || opNamed(c.want) != c.o {
			t.Errorf("what is leant on elsewhere tells %q for %q", told.Text, c.want)
		}
	}
}

func TestOpTextFaults(t *testing.T) {
	codes := map[int64]int{}
	ops := append(oddOps(), impl.Op{Kind: -1}, impl.Op{Kind: 11, Key: 100}, impl.Op{Kind: impl.OpGet, Key: 100, High: 1}, impl.Op{Kind: impl.OpFind, Key: 1})
	for _, kind := range wrongKinds() {
		ops = append(ops, impl.Op{Kind: kind}, impl.Op{Kind: kind, Key: -1, High: 100, Value: 10000})
	}
	for _, key := range wrongKeys() {
		for _, kind := range []int64{impl.OpGet, impl.OpPut, impl.OpDelete, impl.OpScan, impl.OpClean, impl.OpPack} {
			ops = append(ops, impl.Op{Kind: kind, Key: key})
		}
		ops = append(ops, impl.Op{Kind: impl.OpScan, High: key})
	}
	for _, value := range wrongValues() {
		ops = append(ops, impl.Op{Kind: impl.OpPut, Value: value}, impl.Op{Kind: impl.OpFind, Value: value}, impl.Op{Kind: impl.OpBuild, Value: value})
	}
	for _, o := range ops {
		got := opText(t, o)
		codes[got.Code]++
		if got.Code != impl.OpFault(o) || (got.Code == impl.OK) == (got.Text == "") {
			t.Errorf("OpText of %v: %v, and the OpFault is %d", o, got, impl.OpFault(o))
		}
	}
	if codes[impl.OK] < 5 || codes[impl.ErrForm] < 5 || codes[impl.ErrRange] < 5 {
		t.Errorf("the codes that came: %v", codes)
	}
}

// TestEveryOpText has each kind with many numbers: a text is that of one operation alone, with one blank between and none at the ends.
func TestEveryOpText(t *testing.T) {
	texts := map[string]impl.Op{}
	for kind := int64(impl.OpGet); kind <= impl.OpBuild; kind++ {
		for _, key := range []int64{0, 1, 9, 10, 11, 98, 99} {
			for _, high := range []int64{0, 1, 10, 99} {
				for _, value := range []int64{0, 1, 10, 99, 100, 999, 1000, 9999} {
					o := impl.Op{Kind: kind, Key: key, High: high, Value: value}
					got := opText(t, o)
					if got.Code != impl.OK {
						continue
					}
					if other, taken := texts[got.Text]; taken {
						t.Fatalf("OpText of %v and of %v: %q", o, other, got.Text)
					}
					texts[got.Text] = o
					if strings.Join(wordsOf(t, got.Text), " ") != got.Text {
						t.Fatalf("OpText of %v has other blanks: %q", o, got.Text)
					}
				}
			}
		}
	}
	if want := 7 + 7*8 + 7 + 7*4 + 8 + 1 + 1 + 7 + 1 + 1; len(texts) != want {
		t.Errorf("%d texts, want %d", len(texts), want)
	}
}
