package safety

import (
	"math/rand"
	"reflect"
	"testing"

	"semaphore/api"
	"semaphore/ilxa"
	"semaphore/layout"
)

const yard = "section a\nsection b\nsection c\npoint P b\nsignal G a\nroute R G : b c : P+ : :"

const station = `section a
section b
section c
section d
section e
section f
point P b
point Q e
signal G a
signal H d
route R0 G : b c : P+ : : Q-
route R1 G : b f : P- : :
route R2 H : e : Q+ : c :
route R3 H : e : Q- : f :`

func parse(t *testing.T, text string) api.Layout {
	l, err, line := layout.Parse(text)
	if err != api.OK {
		t.Fatal(err, line)
	}
	return l
}

func shown(proceed uint64, points uint32) api.Output {
	return api.Output{Proceed: proceed, Points: points}
}

func TestExamples(t *testing.T) { // P29.1
	l := parse(t, yard)
	for name, c := range map[string]struct {
		in   api.Input
		out  api.Output
		want uint8
	}{
		"proceed R":                 {api.Input{Normal: 1}, shown(1, 0), None},
		"c occupied":                {api.Input{Normal: 1, Occupied: 4}, shown(1, 0), Occupied},
		"a occupied":                {api.Input{Normal: 1, Occupied: 1}, shown(1, 0), None},
		"P not detected":            {api.Input{}, shown(1, 0), Undetected},
		"P on both sides":           {api.Input{Normal: 1, Reverse: 1}, shown(1, 0), Undetected},
		"P commanded to reverse":    {api.Input{Normal: 1}, shown(1, 1), Turned},
		"a second route, of one":    {api.Input{Normal: 1}, shown(2, 0), Unknown},
		"the last route":            {api.Input{Normal: 1}, shown(1<<63, 0), Unknown},
		"points that are not there": {api.Input{Normal: 1}, shown(1, 2), Unknown},
		"the last points":           {api.Input{}, shown(0, 1<<31), Unknown},
		"nothing":                   {api.Input{Occupied: 7}, shown(0, 1), None},
	} {
		if got := Cycle(l, c.in, c.out); got != c.want {
			t.Error(name, got)
		}
	}
}

func TestStation(t *testing.T) { // P29.1
	l := parse(t, station)
	for name, c := range map[string]struct {
		in   api.Input
		out  api.Output
		want uint8
	}{
		"R0":                                 {api.Input{Normal: 1, Reverse: 2}, shown(1, 2), None},
		"R0, its flank not detected":         {api.Input{Normal: 1}, shown(1, 2), Undetected},
		"R0, its flank commanded otherwise":  {api.Input{Normal: 1, Reverse: 2}, shown(1, 0), Turned},
		"R0 and R3":                          {api.Input{Normal: 1, Reverse: 2}, shown(9, 2), None},
		"R0 and R1":                          {api.Input{Occupied: 63}, shown(3, 0), Clash},
		"R0 and R2":                          {api.Input{Normal: 3}, shown(5, 0), Clash},
		"R2, its overlap occupied":           {api.Input{Occupied: 4}, shown(4, 1), Occupied},
		"R0 and R3, a section of the second": {api.Input{Normal: 1, Reverse: 2, Occupied: 32}, shown(9, 2), Occupied},
		"Clash, and not there":               {api.Input{}, shown(19, 0), Unknown},
		"R1 on both sides":                   {api.Input{Normal: 1, Reverse: 1}, shown(2, 1), Undetected},
		"R1":                                 {api.Input{Reverse: 1}, shown(2, 1), None},
		"R1, points normal":                  {api.Input{Reverse: 1}, shown(2, 0), Turned},
	} {
		if got := Cycle(l, c.in, c.out); got != c.want {
			t.Error(name, got)
		}
	}
	l.Routes[1].Points = nil
	if Cycle(l, api.Input{}, api.Output{}) != Layout || Cycle(api.Layout{Sections: []string{""}}, api.Input{}, shown(1, 1)) != Layout {
		t.Error("a layout that isn't well-formed")
	}
	if Cycle(api.Layout{}, api.Input{}, api.Output{}) != None || Cycle(api.Layout{}, api.Input{}, shown(1, 0)) != Unknown {
		t.Error("the empty layout")
	}
}

func TestRow(t *testing.T) { // P29.2
	l := parse(t, yard)
	good, bad := api.Input{Normal: 1}, api.Input{Normal: 1, Occupied: 4}
	out := shown(1, 0)
	for _, c := range []struct {
		ins  []api.Input
		outs []api.Output
		n    int
		what uint8
	}{
		{nil, nil, -1, None}, {[]api.Input{good, good}, []api.Output{out, out}, -1, None}, {[]api.Input{good, bad, {}}, []api.Output{out, out, out}, 1, Occupied},
		{[]api.Input{good, bad}, []api.Output{out}, -1, None}, {[]api.Input{{}}, []api.Output{out, shown(8, 8)}, 0, Undetected}, {[]api.Input{{}}, nil, -1, None},
	} {
		if n, what := Row(l, c.ins, c.outs); n != c.n || what != c.what {
			t.Error(c, n, what)
		}
	}
	l.Routes[0].Path = nil
	if n, what := Row(l, []api.Input{good}, []api.Output{out}); n != 0 || what != Layout {
		t.Error("not well-formed", n, what)
	}
	if n, what := Row(l, nil, nil); n != -1 || what != None {
		t.Error("not well-formed, of nothing", n, what)
	}
}

func TestOnlyRead(t *testing.T) { // P29.3
	l := parse(t, station)
	ins, outs := []api.Input{{Normal: 1, Reverse: 2, Commands: []api.Command{{Kind: 1}}}}, []api.Output{shown(1, 2)}
	Row(l, ins, outs)
	if !reflect.DeepEqual(l, parse(t, station)) || len(ins[0].Commands) != 1 || outs[0] != shown(1, 2) {
		t.Error("something was changed")
	}
}

func TestWhatFollows(t *testing.T) { // P29.4
	r := rand.New(rand.NewSource(1))
	l := parse(t, station)
	m, _ := ilxa.New(l)
	proceeds := 0
	var s api.State
	for range 10000 {
		in := api.Input{Occupied: r.Uint64() & r.Uint64() & r.Uint64() & 63, Normal: r.Uint32() & 3, Reverse: r.Uint32() & 3}
		for range r.Intn(3) {
			in.Commands = append(in.Commands, api.Command{Kind: uint8(1 + r.Intn(3)), N: r.Intn(4)})
		}
		var out api.Output
		s, out = m.Step(s, in)
		if what := Cycle(l, in, out); what != None {
			t.Fatal("wrong", what, in, out)
		}
		if out.Proceed != 0 {
			proceeds++
		}
		if Cycle(l, in, shown(0, r.Uint32()&3)) != None {
			t.Fatal("nothing shown is wrong")
		}
		some := shown(r.Uint64()&15, r.Uint32()&3)
		fewer := some
		fewer.Proceed &= r.Uint64()
		if Cycle(l, in, some) == None && Cycle(l, in, fewer) != None {
			t.Fatal("fewer routes are wrong", in, some, fewer)
		}
	}
	if proceeds < 200 {
		t.Error("hardly anything was shown", proceeds)
	}
}
