package layout

import (
	"strings"

	"semaphore/api"
)

// Print: P4.2.
func Print(l api.Layout) (string, api.Errno) {
	if !May(l) {
		return "", api.ErrArg
	}
	var text strings.Builder
	for _, s := range l.Sections {
		put(&text, "section", s)
	}
	for _, p := range l.Points {
		put(&text, "point", p.Name, l.Sections[p.Section])
	}
	for _, s := range l.Signals {
		put(&text, "signal", s.Name, l.Sections[s.Section])
	}
	for _, r := range l.Routes {
		put(&text, routeWords(l, r)...)
	}
	if text.Len() > api.MaxText {
		return "", api.ErrLimit
	}
	return text.String(), api.OK
}

// put puts a line of words.
func put(text *strings.Builder, words ...string) {
	text.WriteString(strings.Join(words, " "))
	text.WriteByte('\n')
}

// routeWords tells the words of a route's line.
func routeWords(l api.Layout, r api.Route) []string {
	words := []string{"route", r.Name, l.Signals[r.Signal].Name, ":"}
	words = append(words, sectionWords(l, r.Path)...)
	words = append(words, ":")
	words = append(words, needWords(l, r.Points)...)
	words = append(words, ":")
	words = append(words, sectionWords(l, r.Overlap)...)
	words = append(words, ":")
	return append(words, needWords(l, r.Flank)...)
}

// sectionWords tells the words of a row of sections.
func sectionWords(l api.Layout, row []int) []string {
	var words []string
	for _, n := range row {
		words = append(words, l.Sections[n])
	}
	return words
}

// needWords tells the words of a row of needs.
func needWords(l api.Layout, row []api.Need) []string {
	var words []string
	for _, d := range row {
		side := "+"
		if d.Reverse {
			side = "-"
		}
		words = append(words, l.Points[d.Point].Name+side)
	}
	return words
}
