package console

import (
	"strconv"
	"strings"

	"semaphore/api"
)

// What lines without an answer of their own, and those that lack a world, are answered.
const (
	fine    = "ok"
	nothing = "none"
)

// The greatest numbers of a line.
const (
	maxNumber = 1 << 62
	maxWord   = 1<<32 - 1
	maxKind   = 255
)

// tell tells numbers, with a blank between.
func tell(numbers ...uint64) string {
	words := make([]string, len(numbers))
	for i, n := range numbers {
		words[i] = strconv.FormatUint(n, 10)
	}
	return strings.Join(words, " ")
}

// say tells a word, and numbers behind it.
func say(word string, numbers ...uint64) string { return word + " " + tell(numbers...) }

// sayError tells an error's number.
func sayError(err api.Errno) string { return say("error", uint64(err)) }

// one tells 1, if it holds, else 0.
func one(holds bool) uint64 {
	if holds {
		return 1
	}
	return 0
}

// number tells the number that a word is.
func number(word string) int64 {
	digits, negative := strings.CutPrefix(word, "-")
	must(digits != "" && (digits[0] != '0' || word == "0"))
	for _, r := range digits {
		must(r >= '0' && r <= '9')
	}
	n, err := strconv.ParseInt(digits, 10, 64)
	must(err == nil && n <= maxNumber)
	if negative {
		return -n
	}
	return n
}

// numbers tells the numbers that words are.
func numbers(words []string) []int64 {
	all := make([]int64, len(words))
	for i, w := range words {
		all[i] = number(w)
	}
	return all
}

// just tells the numbers of a line of just so many.
func just(many int, l line) []int64 {
	must(len(l.words) == many)
	return numbers(l.words)
}

// some tells the numbers of a line of so many at least.
func some(many int, l line) []int64 {
	must(len(l.words) >= many)
	return numbers(l.words)
}

// upTo tells n, which has to be from 0 to most.
func upTo(most, n int64) int64 {
	must(n >= 0 && n <= most)
	return n
}

// input tells the input of three numbers at least.
func input(n []int64) api.Input {
	must(len(n) >= 3 && len(n)%2 == 1)
	in := api.Input{Occupied: uint64(upTo(maxNumber, n[0])), Normal: uint32(upTo(maxWord, n[1])), Reverse: uint32(upTo(maxWord, n[2]))}
	for i := 3; i < len(n); i += 2 {
		in.Commands = append(in.Commands, api.Command{Kind: uint8(upTo(maxKind, n[i])), N: int(n[i+1])})
	}
	return in
}
