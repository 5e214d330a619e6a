package bits

import (
	"math/rand"
	"slices"
	"testing"
)

const all = ^uint64(0)

var outside = []int{-1, -64, 64, 65, 1 << 40, -1 << 63, 1<<63 - 1}

func TestHasWithWithout(t *testing.T) { // P7.1
	for n := range 64 {
		one := uint64(1) << n
		if !Has(one, n) || Has(^one, n) || !Has(all, n) || Has(0, n) {
			t.Error("Has", n)
		}
		if With(0, n) != one || With(all, n) != all || With(^one, n) != all || Without(all, n) != ^one || Without(one, n) != 0 || Without(0, n) != 0 {
			t.Error("With, Without", n)
		}
	}
	for _, n := range outside {
		if Has(all, n) || With(5, n) != 5 || Without(5, n) != 5 || With(0, n) != 0 || Without(all, n) != all {
			t.Error("no number of a set", n)
		}
	}
}

func TestOfAndList(t *testing.T) { // P7.2
	if Of([]int{0, 3, 3, 64, -1}) != 9 || Of(nil) != 0 || Of(outside) != 0 || Of([]int{63, 0}) != 1<<63|1 {
		t.Error("Of")
	}
	if !slices.Equal(List(9), []int{0, 3}) || len(List(0)) != 0 || !slices.Equal(List(1<<63|1<<62), []int{62, 63}) || len(List(all)) != 64 {
		t.Error("List")
	}
}

func TestCountAndLowest(t *testing.T) { // P7.3
	if Count(9) != 2 || Count(0) != 0 || Count(all) != 64 || Count(1<<63) != 1 {
		t.Error("Count")
	}
	if Lowest(8) != 3 || Lowest(0) != 64 || Lowest(1<<63) != 63 || Lowest(all) != 0 {
		t.Error("Lowest")
	}
}

func TestFirst(t *testing.T) { // P7.4
	for n := range 65 {
		want := uint64(0)
		for i := range n {
			want = With(want, i)
		}
		if First(n) != want {
			t.Error(n)
		}
	}
	for n, want := range map[int]uint64{-1: 0, -1 << 63: 0, 65: all, 1<<63 - 1: all} {
		if First(n) != want {
			t.Error(n)
		}
	}
}

func TestAny(t *testing.T) { // P7.5
	l := []uint64{1, 6}
	if Any(l, 2) != 6 || Any(l, 3) != 7 || Any(l, 0) != 0 || Any(l, 4) != 0 || Any(l, all) != 7 || Any(nil, all) != 0 {
		t.Error("Any")
	}
	long := make([]uint64, 66)
	long[63], long[64], long[65] = 8, 16, 32
	if Any(long, all) != 8 || Any(long, 1<<63) != 8 {
		t.Error("places past 63 count")
	}
}

func TestMemory(t *testing.T) { // P7.6
	numbers, sets := append(make([]int, 0, 4), 5, 1), append(make([]uint64, 0, 4), 1, 2)
	Of(numbers)
	Any(sets, all)
	a := List(9)
	a[0] = 7
	if !slices.Equal(numbers[:3], []int{5, 1, 0}) || !slices.Equal(sets[:3], []uint64{1, 2, 0}) || List(9)[0] != 0 {
		t.Error("something was changed")
	}
}

func TestWhatFollows(t *testing.T) { // P7.7
	r := rand.New(rand.NewSource(1))
	for range 2000 {
		x := r.Uint64() & r.Uint64()
		l := List(x)
		if Of(l) != x || len(l) != Count(x) || len(l) > 0 && l[0] != Lowest(x) || !slices.IsSorted(l) {
			t.Fatalf("%x", x)
		}
	}
}
