package console

import (
	"fmt"
	"hash/crc32"
	"math/rand"
	"strings"
	"testing"

	"semaphore/api"
)

// yard is a layout's lines.
const yard = "section a;section b;section c;section d;section e;point P b;signal G a;signal H d;route R G : b c : P+ : :;route S H : c : : : P-;route T H : e : : :;"

// run answers lines with a ; between, in place of a byte 10.
func run(t *testing.T, lines string) string {
	t.Helper()
	out, err := Run(strings.ReplaceAll(lines, ";", "\n"))
	if err != api.OK || out != "" && !strings.HasSuffix(out, "\n") {
		t.Fatal(err, out)
	}
	return strings.ReplaceAll(strings.TrimSuffix(out, "\n"), "\n", "; ")
}

// answers fails, unless the lines are answered so.
func answers(t *testing.T, lines, want string) {
	t.Helper()
	if got := run(t, lines); got != want {
		t.Errorf("%s: %s, not %s", lines, got, want)
	}
}

// behind fails, unless the lines are answered so behind the yard's, and a world of it.
func behind(t *testing.T, lines, want string) {
	t.Helper()
	answers(t, yard+"world 10;"+lines, strings.Repeat("ok; ", 12)+want)
}

func TestExamples(t *testing.T) { // P31.1
	answers(t, "shown;fly;section a;world 2;world 5;shown", "none; error 310; ok; error 2 0; ok; shown 0 0 1 0")
	answers(t, "section a;point P x;world 5", "ok; ok; error 42 2")
	answers(t, "crc 123456789", "crc 3421780262")
}

func TestRun(t *testing.T) { // P31.1
	for _, text := range []string{"", "\n", "\n\n#x\n", "# crc 1"} {
		if out, err := Run(text); err != api.OK || out != "" {
			t.Errorf("%q: %q %d", text, out, err)
		}
	}
	if out, err := Run("crc 123456789"); err != api.OK || out != "crc 3421780262\n" {
		t.Errorf("a last line: %q %d", out, err)
	}
	if out, err := Run("shown\n" + strings.Repeat("#", api.MaxText-6)); err != api.OK || out != "none\n" {
		t.Errorf("the longest text: %q %d", out, err)
	}
	if out, err := Run("shown\n" + strings.Repeat("#", api.MaxText-5)); err != api.ErrLimit || out != "" {
		t.Errorf("a longer text: %q %d", out, err)
	}
}

func TestWorld(t *testing.T) { // P31.1
	answers(t, "world 3", "ok")
	answers(t, "world 2;world 4097;world -1;world 4096", "error 2 0; error 2 0; error 2 0; ok")
	answers(t, "section a b;world 10", "ok; error 40 1")
	answers(t, "section a;section a;world 10", "ok; ok; error 41 2")
	answers(t, "section  a # x;shown;point P\ta;world 5", "ok; none; ok; error 30 2")
	answers(t, "section a;signal G a;route R G : a : : :;world 9", "ok; ok; ok; error 50 0")
	answers(t, "world 10;shown;section a;section a;world 10;shown", "ok; shown 0 0 1 0; ok; ok; error 41 2; none")
	answers(t, "world 10;calm 0;world 10;rounds 1 0 0 0", "ok; ok; ok; none")
	answers(t, "world 10;calm 0;world 2;calm 0;rounds 1 0 0 0", "ok; ok; error 2 0; none; none")
}

func TestNoWorld(t *testing.T) { // P31.1
	answers(t, "do 5 0 0;in 0 0 0 0 0;spoil 0 0 1 1;cycle 0 0 0 0;calm 0;rounds 1 0 0 0;shown;rows;kept 0;units", strings.Repeat("none; ", 9)+"none")
	answers(t, "world 10;rounds 1 0 0 0;calm 2;rounds 1 0 0 0;calm;calm 0 1;rounds 0 0 0 0", "ok; none; error 2; none; error 2; ok; rounds 0")
}

func TestNoLines(t *testing.T) { // P31.1
	for _, line := range []string{
		"fly", "Section a", "sections a", " shown", "shown ", "shown 1", "SHOWN", "rows 1", "units 0", "kept", "kept x", "kept 0 1", "crc", "crc ", "crc a b", "world", "world x", "world 1 2", "world 05", "world +5", "world 1 ",
		"do", "do 5 0", "do 0 0 0", "do 13 0 0", "do 17 0 0", "do -1 0 0", "do 5 x 0", "do 5 0 0 x", "do 5  0 0", "do 5 0 0 ",
		"in 0 0 0 0", "in 0 0 0 0 0 1", "in 0 0 -1 0 0", "in 0 0 0 4294967296 0", "in 0 0 0 0 4294967296", "in 0 0 0 -1 0", "in 0 0 0 0 -1", "in 0 0 0 0 0 256 0", "in 0 0 0 0 0 -1 0", "in 0 0 0 0 0 1 x",
		"spoil 0 0 1", "spoil 0 0 1 1 1", "spoil 0 0 -1 0", "spoil 0 0 0 4294967296", "spoil 0 0 0 -1", "cycle 0 0 0", "cycle 0 0 0 0 1", "cycle 0 -1 0 0", "calm x", "calm 0 ",
		"rounds 1 0 0", "rounds 61 0 0 0", "rounds -1 0 0 0", "rounds 1 0 0 0 1", "rounds 1 0 0 4294967296",
		"do 5 -0 0", "do 5 00 0", "do 5 - 0", "do 5 --1 0", "do 5 4611686018427387905 0", "do 5 -4611686018427387905 0", "do 5 99999999999999999999 0", "do 5 1_0 0", "do 5 0x1 0", "do 5 ١ 0", "shown\r", "\t",
	} {
		answers(t, line, "error 310")
		behind(t, line+";units", "error 310; units 11 0 0 11 0 0")
	}
	behind(t, "do 6 4611686018427387904 -4611686018427387904;do 1 0 0;do 16 0 3", "ok; ok; ok")
}

func TestSteps(t *testing.T) { // P31.1
	lead := "do 5 0 0;do 5 0 0;do 5 0 0;do 5 0 0;do 5 0 0;do 14 0 0;"
	oks := strings.Repeat("ok; ", 6)
	behind(t, lead+"shown;units", oks+"shown 0 0 0 1; units 2 0 0 11 0 1")
	behind(t, lead+"cycle 0 0 1 0 1 0;shown;kept 0;kept 1;units;rows", oks+"ok; shown 1 0 0 1; kept 1 1 1 0 0 0; none; units 2 0 0 11 0 2; rows 1; 0 1 1 0 1 0 0 1 0 1")
	behind(t, lead+"in 0 0 1 1 0;in 2 -1 16 1 0;do 1 0 0 0;do 2 0 0;do 2 0 0;do 1 0 0 1 2;units;rows;do 1 0 0 3;rows", oks+"ok; ok; ok; ok; ok; ok; units 2 3 0 11 0 1; rows 1; 0 1 1 1 0 0 17 1 0 0; ok; rows 1; 0 1 1 0 0 0 17 1 0 0")
	behind(t, lead+"cycle -2 0 1 0 1 2 1 0;shown", oks+"ok; shown 5 0 0 1")
	behind(t, lead+"in 0 1 0 1 0 1 0;cycle 1 0 1 0;do 1 0 0 0;do 2 0 0;do 2 0 0;do 1 0 0 1 2 3;rows", oks+"ok; ok; ok; ok; ok; ok; rows 1; 0 1 1 0 0 0 0 0 0 0")
	behind(t, lead+"spoil 0 1 0 1;spoil 0 0 0 1;cycle 0 0 1 0;shown;units", oks+"ok; ok; ok; shown 0 0 1 1; units 12 2 0 11 0 1")
	behind(t, lead+"do 10 0 0;cycle 0 0 1 0 1 0;units;kept 0;shown;do 12 0 0 511;units;kept 0", oks+"ok; ok; units 0 0 0 11 0 1; none; shown 0 0 1 1; ok; units 11 0 0 11 0 1; kept 1 1 1 0 0 0")
	behind(t, lead+"do 10 0 0;cycle 0 0 1 0 1 0;do 12 0 0 256;kept 0", oks+"ok; ok; ok; kept 1 0 0 0 0 0")
	behind(t, lead+"cycle 0 0 1 0 2 1 255 7;rows;cycle 0 0 1 0 1 1;rows", oks+"ok; rows 0; ok; rows 1; 0 1 1 0 0 1 0 1 0 1")
	behind(t, "do 11 0 0;units;do 6 0 0;do 12 0 0;units", "ok; units 0 0 0 11 0 0; ok; ok; units 11 0 0 11 0 0")
}

func TestCalm(t *testing.T) { // P31.1
	behind(t, "calm 0;rounds 19 0 0 0;shown;rounds 1 0 0 0;shown;rounds 60 0 1 0 1 0;shown;kept 0", "ok; rounds 19; shown 0 0 1 1; rounds 20; shown 0 0 0 1; rounds 80; shown 1 0 0 1; kept 1 17 1 0 0 0")
	behind(t, "calm 1 0 1;rounds 25 0 1 0 1 2;kept 1;units", "ok; rounds 25; kept 1 16 4 0 0 0; units 2 0 2 11 0 1")
	nine := strings.Repeat(" 1 0", 9)
	behind(t, "calm 0;rounds 1 0 0 0"+nine+";rounds 0 0 0 0"+nine+";calm 3;rounds 2 0 0 0", "ok; error 2; rounds 0; error 2; rounds 2")
}

func TestGreatNumbers(t *testing.T) { // P31.1
	text := ""
	for i := range 64 {
		text += fmt.Sprintf("section s%d;", i)
	}
	got := run(t, text+"world 5;in 0 0 4611686018427387904 0 0;in 0 1 4611686018427387904 0 0;calm 0;rounds 1 4611686018427387904 0 0;rounds 19 4611686018427387904 0 0;rows")
	if !strings.Contains(got, "rounds 20; rows 16; ") || !strings.HasSuffix(got, "; 0 1 16 0 0 0 4611686018427387904 0 0 0") {
		t.Error(got[max(len(got)-200, 0):])
	}
	for _, word := range []string{"a", "Ä", "\xff\x00", "#", strings.Repeat("x", 999)} {
		answers(t, "crc "+word, fmt.Sprint("crc ", crc32.ChecksumIEEE([]byte(word))))
	}
}

func TestWhatFollows(t *testing.T) { // P31.2
	r := rand.New(rand.NewSource(1))
	parts := strings.Split(yard+"world 6;world 2;do 5 0 0;do 5 0 0;do 5 1 0;do 14 0 0;do 6 0 0;cycle 0 0 1 0 1 0;cycle 0 0 1 0 1 2;shown;rows;units;kept 0;kept 1;calm 0 1;rounds 7 0 1 0 1 0;spoil 0 1 1 1;do 11 0 0;do 12 0 0;do 7 1 0;crc x", ";")
	script := func() []string {
		lines := strings.Split(yard+"world 6", ";")
		for range r.Intn(40) {
			lines = append(lines, parts[11+r.Intn(len(parts)-11)])
		}
		return lines
	}
	for range 200 {
		a, b := strings.Join(script(), "\n"), strings.Join(script(), "\n")
		first, _ := Run(a)
		both, err := Run(a + "\n" + b)
		if err != api.OK || !strings.HasPrefix(both, first) {
			t.Fatalf("%q then %q", a, b)
		}
		again, _ := Run(a + "\n" + b)
		if again != both {
			t.Fatal("not the same once more")
		}
		lines := strings.Split(a, "\n")
		i := r.Intn(len(lines))
		passed, _ := Run(strings.Join(lines[:i], "\n") + "\n\n# x\n" + strings.Join(lines[i:], "\n"))
		wrong, _ := Run(strings.Join(lines[:i], "\n") + "\nfly 7\n" + strings.Join(lines[i:], "\n"))
		if passed != first || strings.Replace(wrong, "error 310\n", "", 1) != first {
			t.Fatal("a line that is passed over, or none, changes another answer")
		}
	}
}
