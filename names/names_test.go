package names

import (
	"math/rand"
	"slices"
	"strings"
	"testing"

	"semaphore/api"
)

func TestSign(t *testing.T) { // P3.1
	for _, r := range []rune{'!', '"', '~', 'A', 'z', '0', '_', '/', 161, 0xC4, 0x1F600, 0xFFFC, 0xFFFE, 0x10FFFF, '.', ',', ';', '*'} {
		if !Sign(r) {
			t.Errorf("%X is no sign", r)
		}
	}
	for _, r := range []rune{-1, -1 << 31, 0, 9, 10, 13, 31, 32, ':', '#', '+', '-', 127, 128, 150, 159, 160, 0xFFFD} {
		if Sign(r) {
			t.Errorf("%X is a sign", r)
		}
	}
}

func TestRight(t *testing.T) { // P3.2
	for _, s := range []string{"Gleis_7", "Äpfel", "a", strings.Repeat("a", 16), strings.Repeat("Ä", 16), "a.b"} {
		if !Right(s) {
			t.Errorf("%q is no name", s)
		}
	}
	for _, s := range []string{"", "a b", "a:", "+", "a-", "#", " ", strings.Repeat("a", 17), strings.Repeat("Ä", 17), "a\xff", "\xc3", "a\uFFFDb", "a\n", "a\x7f", "a\u00a0"} {
		if Right(s) {
			t.Errorf("%q is a name", s)
		}
	}
}

func TestLines(t *testing.T) { // P3.3
	for s, want := range map[string][]string{
		"": {""}, "a": {"a"}, "\n": {"", ""}, "a\nb": {"a", "b"}, "a\n": {"a", ""}, "\n\na\r\n": {"", "", "a\r", ""}, "\xe2\nx": {"\xe2", "x"},
	} {
		if got := Lines(s); !slices.Equal(got, want) {
			t.Errorf("%q: %q", s, got)
		}
	}
}

func TestWords(t *testing.T) { // P3.4
	for s, want := range map[string][]string{
		" route R1  : S2 # x": {"route", "R1", ":", "S2"}, "": nil, "   ": nil, "#": nil, "a#b c": {"a"}, "a": {"a"},
		"a \uFFFD": {"a", "\uFFFD"}, "ok # \xff\x00\n": {"ok"}, "a\u00a0b\x7f c": {"a\u00a0b\x7f", "c"}, "Ä ß ": {"Ä", "ß"},
	} {
		if got, err := Words(s); err != api.OK || !slices.Equal(got, want) {
			t.Errorf("%q: %q %d", s, got, err)
		}
	}
	for _, s := range []string{"\xff", "a \xff", "a\tb", "a\n", "\x00", "a\x1f", "a \xe2\x82", "\xef\xbf", "b\xc3#", "\xff#"} {
		if got, err := Words(s); err != api.ErrName || len(got) != 0 {
			t.Errorf("%q: %q %d", s, got, err)
		}
	}
}

func TestGroups(t *testing.T) { // P3.5
	for s, want := range map[string][][]string{
		"a : b c : ": {{"a"}, {"b", "c"}, {}}, "": {{}}, ":": {{}, {}}, ": :": {{}, {}, {}}, "a: :b": {{"a:", ":b"}}, "a": {{"a"}},
	} {
		got := Groups(strings.Fields(s))
		if !slices.EqualFunc(got, want, slices.Equal) {
			t.Errorf("%q: %q", s, got)
		}
	}
	if got := Groups(nil); len(got) != 1 || len(got[0]) != 0 {
		t.Errorf("of nothing: %q", got)
	}
}

func TestMemory(t *testing.T) { // P3.6
	all := []string{"a", "b", ":", "c", "d"}
	got := Groups(all[:4])
	_ = append(got[0], "x")
	got[0][0] = "y"
	if !slices.Equal(all, []string{"a", "b", ":", "c", "d"}) || got[1][0] != "c" {
		t.Error("the words, or another group, were changed", all, got)
	}
}

func text(r *rand.Rand) string {
	parts := []string{"a", "b", " ", " ", ":", " : ", "\n", "#", "Ä", "\xff", "\t", "-", "\uFFFD"}
	var s strings.Builder
	for range r.Intn(20) {
		s.WriteString(parts[r.Intn(len(parts))])
	}
	return s.String()
}

func TestWhatFollows(t *testing.T) { // P3.7
	r := rand.New(rand.NewSource(1))
	for range 5000 {
		s := text(r)
		if lines := Lines(s); strings.Join(lines, "\n") != s || len(lines) != strings.Count(s, "\n")+1 {
			t.Fatalf("%q: lines %q", s, lines)
		}
		words, err := Words(s)
		if err != api.OK {
			continue
		}
		again, err := Words(strings.Join(words, " "))
		if err != api.OK || !slices.Equal(again, words) {
			t.Fatalf("%q: words %q, then %q", s, words, again)
		}
		for _, w := range words {
			if w == "" || strings.ContainsAny(w, " #") {
				t.Fatalf("%q: the word %q", s, w)
			}
		}
		var row []string
		for i, g := range Groups(words) {
			if i > 0 {
				row = append(row, ":")
			}
			row = append(row, g...)
		}
		if !slices.Equal(row, words) {
			t.Fatalf("%q: groups of %q", s, words)
		}
	}
}
