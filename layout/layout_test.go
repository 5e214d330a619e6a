package layout

import (
	"fmt"
	"math/rand"
	"reflect"
	"strings"
	"testing"

	"semaphore/api"
)

const yard = "section A\nsection B\npoint P B\nsignal G A\nroute R G : B : P+ : :\n"

func yardLayout() api.Layout {
	return api.Layout{
		Sections: []string{"A", "B"}, Points: []api.Point{{Name: "P", Section: 1}}, Signals: []api.Signal{{Name: "G", Section: 0}},
		Routes: []api.Route{{Name: "R", Signal: 0, Path: []int{1}, Points: []api.Need{{Point: 0}}}},
	}
}

// many tells so many lines, each of which has its number twice at most.
func many(n int, line string) string {
	var s strings.Builder
	for i := range n {
		s.WriteString(strings.ReplaceAll(line, "#", fmt.Sprint(i)) + "\n")
	}
	return s.String()
}

func TestParseExamples(t *testing.T) { // P4.1
	for s, want := range map[string]struct {
		err  api.Errno
		line int
	}{
		"section A\nsection A": {api.ErrTwice, 2}, "point P A": {api.ErrUnknown, 1}, "route R G : :": {api.ErrLine, 1}, "": {api.OK, 0}, yard: {api.OK, 0},
	} {
		if _, err, line := Parse(s); err != want.err || line != want.line {
			t.Errorf("%q: %d %d", s, err, line)
		}
	}
	if l, err, line := Parse("section A\nsection B\npoint P B\nsignal G A\nroute R G : B : P+ : : "); err != api.OK || line != 0 || !reflect.DeepEqual(l, yardLayout()) {
		t.Errorf("%v %d %d", l, err, line)
	}
}

func TestParseRoute(t *testing.T) { // P4.1
	l, err, line := Parse(yard + "point Q A\nsignal H B\nroute S H : A B A : P- Q+ : B B : Q- P+ Q+ # x : y")
	want := api.Route{Name: "S", Signal: 1, Path: []int{0, 1, 0}, Points: []api.Need{{Point: 0, Reverse: true}, {Point: 1}}, Overlap: []int{1, 1}, Flank: []api.Need{{Point: 1, Reverse: true}, {Point: 0}, {Point: 1}}}
	if err != api.OK || line != 0 || !reflect.DeepEqual(l.Routes[1], want) {
		t.Errorf("%v %d %d", l, err, line)
	}
}

func TestParseWrongLines(t *testing.T) { // P4.1
	for line, want := range map[string]api.Errno{
		"\xff": api.ErrName, "section C\t": api.ErrName, "a\x01 b": api.ErrName,
		"sections C": api.ErrLine, "section": api.ErrLine, "section C D": api.ErrLine, "section C:": api.ErrLine, "section :": api.ErrLine, "Section C": api.ErrLine,
		"section 12345678901234567": api.ErrLine, "section A": api.ErrTwice, "section P": api.ErrTwice, "section G": api.ErrTwice, "section R": api.ErrTwice,
		"point": api.ErrLine, "point C": api.ErrLine, "point C A B": api.ErrLine, "point C+ A": api.ErrLine, "point A zz": api.ErrTwice, "point R A": api.ErrTwice,
		"point C zz": api.ErrUnknown, "point C P": api.ErrUnknown, "point C G": api.ErrUnknown, "point C C": api.ErrUnknown, "point C :": api.ErrUnknown,
		"signal C": api.ErrLine, "signal C A B": api.ErrLine, "signal - A": api.ErrLine, "signal R A": api.ErrTwice, "signal C zz": api.ErrUnknown, "signal C R": api.ErrUnknown, "signal C C": api.ErrUnknown,
		"route": api.ErrLine, "route C": api.ErrLine, "route C G": api.ErrLine, "route C : : : :": api.ErrLine, "route C G A : : : :": api.ErrLine,
		"route C G : A : P+ : A": api.ErrLine, "route C G : : : : :": api.ErrLine, "route C+ G : : : :": api.ErrLine, "route C G : : P : :": api.ErrLine,
		"route C G : : + : :": api.ErrLine, "route C G : : : : -": api.ErrLine, "route C G : : : : +P": api.ErrLine, "route R zz : : P : :": api.ErrLine,
		"route R zz : : : :": api.ErrTwice, "route A G : B : P+ : :": api.ErrTwice,
		"route C zz : : : :": api.ErrUnknown, "route C A : : : :": api.ErrUnknown, "route C R : : : :": api.ErrUnknown, "route C C : : : :": api.ErrUnknown,
		"route C G : zz : : :": api.ErrUnknown, "route C G : P : : :": api.ErrUnknown, "route C G : : zz+ : :": api.ErrUnknown, "route C G : : A+ : :": api.ErrUnknown,
		"route C G : : P++ : :": api.ErrUnknown, "route C G : : : zz :": api.ErrUnknown, "route C G : : : : zz-": api.ErrUnknown, "route C G : : : : G-": api.ErrUnknown,
		"route C G : " + strings.Repeat("A ", 17) + ": : :":    api.ErrLimit,
		"route C G : : " + strings.Repeat("P+ ", 17) + ": :":   api.ErrLimit,
		"route C G : : : " + strings.Repeat("A ", 17) + ":":    api.ErrLimit,
		"route C G : : : : " + strings.Repeat("P- ", 17):       api.ErrLimit,
		"route C G : " + strings.Repeat("A ", 17) + ": : : Q+": api.ErrUnknown,
		"route C G : " + strings.Repeat("A ", 16) + ": : :":    api.OK,
		"route C G : : " + strings.Repeat("P+ ", 16) + ": :":   api.OK,
		"route C G : : : " + strings.Repeat("A ", 16) + ":":    api.OK,
		"route C G : : : : " + strings.Repeat("P- ", 16):       api.OK,
		"section Ä": api.OK, "section section": api.OK, "  section   C  # A \xff": api.OK, "# \xff": api.OK, "   ": api.OK,
	} {
		l, err, n := Parse(yard + line + "\nsection A")
		wantLine := 6
		if want == api.OK {
			want, wantLine = api.ErrTwice, 7
		}
		if err != want || n != wantLine || !reflect.DeepEqual(l, api.Layout{}) {
			t.Errorf("%q: %d %d %v", line, err, n, l)
		}
	}
}

func TestParseLimits(t *testing.T) { // P4.1
	ground := "section a\nsignal s a\n"
	for _, c := range []struct {
		text string
		n    int
		line string
	}{
		{"", api.MaxSections, "section x#"}, {"section a\n", api.MaxPoints, "point x# a"}, {"section a\n", api.MaxSignals, "signal x# a"}, {ground, api.MaxRoutes, "route x# s : : : :"},
	} {
		if l, err, n := Parse(c.text + many(c.n, c.line)); err != api.OK || n != 0 || !May(l) {
			t.Errorf("%s: as many as may be: %d %d", c.line, err, n)
		}
		at := strings.Count(c.text, "\n") + c.n + 1
		if _, err, n := Parse(c.text + many(c.n+1, c.line)); err != api.ErrLimit || n != at {
			t.Errorf("%s: one more: %d %d", c.line, err, n)
		}
		if _, err, n := Parse(c.text + many(c.n, c.line) + strings.ReplaceAll(c.line, "#", "0")); err != api.ErrTwice || n != at {
			t.Errorf("%s: one more, twice: %d %d", c.line, err, n)
		}
	}
	if _, err, n := Parse(strings.Repeat("#", api.MaxText)); err != api.OK || n != 0 {
		t.Error("the longest text", err, n)
	}
	if l, err, n := Parse("fly\n" + strings.Repeat("#", api.MaxText)); err != api.ErrLimit || n != 0 || !reflect.DeepEqual(l, api.Layout{}) {
		t.Error("a longer text", err, n)
	}
}

func TestPrint(t *testing.T) { // P4.2
	if s, err := Print(yardLayout()); err != api.OK || s != yard {
		t.Errorf("%q %d", s, err)
	}
	if s, err := Print(api.Layout{}); err != api.OK || s != "" {
		t.Errorf("the empty one: %q %d", s, err)
	}
	l := yardLayout()
	l.Points = append(l.Points, api.Point{Name: "Q", Section: 0})
	l.Routes = append(l.Routes, api.Route{Name: "S", Path: []int{0, 1}, Overlap: []int{1}, Flank: []api.Need{{Point: 1, Reverse: true}, {Point: 0}}})
	if s, err := Print(l); err != api.OK || s != "section A\nsection B\npoint P B\npoint Q A\nsignal G A\nroute R G : B : P+ : :\nroute S G : A B : : B : Q- P+\n" {
		t.Errorf("%q %d", s, err)
	}
	l.Routes[0].Signal = 1
	if s, err := Print(l); err != api.ErrArg || s != "" {
		t.Errorf("one that may not be: %q %d", s, err)
	}
}

// near is a layout whose text has so few bytes fewer than may be (below 0: more).
func near(fewer int) api.Layout {
	l := api.Layout{Sections: []string{"a234567890123456", "b"}, Signals: []api.Signal{{Name: "s"}}}
	left := api.MaxText - fewer - len("section a234567890123456\nsection \nsignal s a234567890123456\n")
	for size := len("route r10 s : : : :\n") + 30*17; left > size; left -= size {
		l.Routes = append(l.Routes, api.Route{Name: fmt.Sprint("r", 10+len(l.Routes)), Path: make([]int, 15), Overlap: make([]int, 15)})
	}
	for left > 16 {
		name := fmt.Sprintf("%016d", len(l.Sections))[16-min(16, left-10):]
		l.Sections = append(l.Sections, name)
		left -= len("section \n") + len(name)
	}
	l.Sections[1] = strings.Repeat("b", left)
	return l
}

func TestPrintLimit(t *testing.T) { // P4.2
	for fewer := -9; fewer < 9; fewer++ {
		l := near(fewer)
		s, err := Print(l)
		if !May(l) {
			t.Fatal("it may not be", fewer)
		}
		if fewer >= 0 && (err != api.OK || len(s) != api.MaxText-fewer) || fewer < 0 && (err != api.ErrLimit || s != "") {
			t.Error(fewer, err, len(s))
		}
	}
}

func TestMay(t *testing.T) { // P4.3
	if !May(yardLayout()) || !May(api.Layout{}) {
		t.Error("the yard, or the empty layout, may not be")
	}
	for name, spoil := range map[string]func(l *api.Layout){
		"no name":             func(l *api.Layout) { l.Sections[0] = "" },
		"a broken name":       func(l *api.Layout) { l.Points[0].Name = "a\xff" },
		"a blank":             func(l *api.Layout) { l.Signals[0].Name = "a b" },
		"a sign too many":     func(l *api.Layout) { l.Routes[0].Name = strings.Repeat("x", 17) },
		"sections alike":      func(l *api.Layout) { l.Sections[1] = "A" },
		"kinds alike":         func(l *api.Layout) { l.Routes[0].Name = "P" },
		"signal and section":  func(l *api.Layout) { l.Signals[0].Name = "A" },
		"points' section":     func(l *api.Layout) { l.Points[0].Section = 2 },
		"points' section -1":  func(l *api.Layout) { l.Points[0].Section = -1 },
		"signal's section":    func(l *api.Layout) { l.Signals[0].Section = 2 },
		"signal's section -1": func(l *api.Layout) { l.Signals[0].Section = -1 << 63 },
		"route's signal":      func(l *api.Layout) { l.Routes[0].Signal = 1 },
		"route's signal -1":   func(l *api.Layout) { l.Routes[0].Signal = -1 },
		"path":                func(l *api.Layout) { l.Routes[0].Path[0] = 2 },
		"path -1":             func(l *api.Layout) { l.Routes[0].Path[0] = -1 },
		"overlap":             func(l *api.Layout) { l.Routes[0].Overlap = []int{0, 2} },
		"needs":               func(l *api.Layout) { l.Routes[0].Points[0].Point = 1 },
		"flank":               func(l *api.Layout) { l.Routes[0].Flank = []api.Need{{Point: 1 << 40}} },
		"a long path":         func(l *api.Layout) { l.Routes[0].Path = make([]int, 17) },
		"long needs":          func(l *api.Layout) { l.Routes[0].Points = make([]api.Need, 17) },
		"a long overlap":      func(l *api.Layout) { l.Routes[0].Overlap = make([]int, 17) },
		"a long flank":        func(l *api.Layout) { l.Routes[0].Flank = make([]api.Need, 17) },
	} {
		l := yardLayout()
		spoil(&l)
		if May(l) {
			t.Error(name, "may be")
		}
	}
	l := yardLayout()
	l.Routes[0].Path, l.Routes[0].Points, l.Routes[0].Overlap, l.Routes[0].Flank = make([]int, 16), make([]api.Need, 16), make([]int, 16), make([]api.Need, 16)
	if !May(l) {
		t.Error("rows as long as may be")
	}
}

func TestMayCounts(t *testing.T) { // P4.3
	for _, more := range []int{0, 1} {
		for kind := range 4 {
			l := api.Layout{Sections: []string{"a"}, Signals: []api.Signal{{Name: "s"}}}
			switch kind {
			case 0:
				for i := range api.MaxSections - 1 + more {
					l.Sections = append(l.Sections, fmt.Sprint("x", i))
				}
			case 1:
				for i := range api.MaxPoints + more {
					l.Points = append(l.Points, api.Point{Name: fmt.Sprint("x", i)})
				}
			case 2:
				for i := range api.MaxSignals - 1 + more {
					l.Signals = append(l.Signals, api.Signal{Name: fmt.Sprint("x", i)})
				}
			case 3:
				for i := range api.MaxRoutes + more {
					l.Routes = append(l.Routes, api.Route{Name: fmt.Sprint("x", i)})
				}
			}
			if May(l) != (more == 0) {
				t.Error("kind", kind, "more", more)
			}
		}
	}
}

func TestMemory(t *testing.T) { // P4.4
	l := yardLayout()
	l.Sections = append(make([]string, 0, 9), l.Sections...)
	May(l)
	Print(l)
	if !reflect.DeepEqual(l, yardLayout()) || l.Sections[:3][2] != "" {
		t.Error("the layout was changed", l)
	}
	a, _, _ := Parse(yard)
	b, _, _ := Parse(yard)
	a.Sections[0], a.Routes[0].Path[0] = "x", 9
	if !reflect.DeepEqual(b, yardLayout()) {
		t.Error("answers share memory")
	}
}

// anyLayout is one that may be.
func anyLayout(r *rand.Rand) api.Layout {
	var l api.Layout
	for i := range 1 + r.Intn(6) {
		l.Sections = append(l.Sections, fmt.Sprint("s", i))
	}
	for i := range 1 + r.Intn(4) {
		l.Points = append(l.Points, api.Point{Name: fmt.Sprint("p", i), Section: r.Intn(len(l.Sections))})
		l.Signals = append(l.Signals, api.Signal{Name: fmt.Sprint("g", i), Section: r.Intn(len(l.Sections))})
	}
	for i := range r.Intn(5) {
		route := api.Route{Name: fmt.Sprint("r", i), Signal: r.Intn(len(l.Signals))}
		for range r.Intn(4) {
			route.Path = append(route.Path, r.Intn(len(l.Sections)))
		}
		for range r.Intn(4) {
			route.Points = append(route.Points, api.Need{Point: r.Intn(len(l.Points)), Reverse: r.Intn(2) == 0})
		}
		for range r.Intn(4) {
			route.Overlap = append(route.Overlap, r.Intn(len(l.Sections)))
		}
		for range r.Intn(4) {
			route.Flank = append(route.Flank, api.Need{Point: r.Intn(len(l.Points)), Reverse: r.Intn(2) == 0})
		}
		l.Routes = append(l.Routes, route)
	}
	return l
}

func TestParsedAsPrinted(t *testing.T) { // P4.5
	r := rand.New(rand.NewSource(1))
	for range 500 {
		l := anyLayout(r)
		text, err := Print(l)
		got, err2, _ := Parse(text)
		if !May(l) || err != api.OK || err2 != api.OK || !May(got) || !reflect.DeepEqual(got, l) {
			t.Fatalf("%q %d %d", text, err, err2)
		}
		padded := "# x\n\n" + strings.ReplaceAll(strings.ReplaceAll(text, " ", "   "), "\n", "  # : y \xff\n   \n")
		if got, err, _ = Parse(padded); err != api.OK || !reflect.DeepEqual(got, l) {
			t.Fatalf("%q %d", padded, err)
		}
	}
}
