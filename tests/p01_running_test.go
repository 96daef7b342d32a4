package tests

import (
	"strings"
	"testing"

	"loop.example/g01360/impl"
)

// runningCalls has all functions of chapter 2 that return a code, which is their last result.
var runningCalls = []call{
	{"GiveUnit", func(in input) []any { s, c := impl.GiveUnit(in.a, in.at, in.to); return list(s, c) }},
	{"RunOnce", func(in input) []any { s, n, c := impl.RunOnce(in.a); return list(s, n, c) }},
	{"RunRounds", func(in input) []any { s, n, c := impl.RunRounds(in.a, in.rounds); return list(s, n, c) }},
	{"RunUntil", func(in input) []any { s, n, c := impl.RunUntil(in.a); return list(s, n, c) }},
	{"IsCalm", func(in input) []any { b, c := impl.IsCalm(in.a); return list(b, c) }},
	{"DryStep", func(in input) []any { s, n, c := impl.DryStep(in.a); return list(s, n, c) }},
	{"DryRounds", func(in input) []any { s, n, c := impl.DryRounds(in.a, in.rounds); return list(s, n, c) }},
	{"DriesIn", func(in input) []any { n, c := impl.DriesIn(in.a); return list(n, c) }},
	{"RingsOf", func(in input) []any { r, c := impl.RingsOf(in.a); return list(r, c) }},
	{"RingCells", func(in input) []any { l, c := impl.RingCells(in.a, in.rounds); return list(l, c) }},
	{"LastWet", func(in input) []any { at, n, c := impl.LastWet(in.a); return list(at, n, c) }},
	{"WettestCell", func(in input) []any { at, n, c := impl.WettestCell(in.a); return list(at, n, c) }},
	{"PuddlesOf", func(in input) []any { l, c := impl.PuddlesOf(in.a); return list(l, c) }},
	{"EdgeCells", func(in input) []any { l, c := impl.EdgeCells(in.a); return list(l, c) }},
	{"RunAndDry", func(in input) []any { s, n, c := impl.RunAndDry(in.a); return list(s, n, c) }},
	{"SoakCell", func(in input) []any { s, c := impl.SoakCell(in.a, in.at, in.water); return list(s, c) }},
	{"StainOf", func(in input) []any {
		l, c := impl.StainOf(in.a, in.at, in.ink, in.amount, in.water)
		return list(l, c)
	}},
	{"ReadRings", func(in input) []any { r, c := impl.ReadRings(in.a, in.ringsText); return list(r, c) }},
}

// plainRunningCalls has the functions of chapter 2 without a code.
var plainRunningCalls = []call{
	{"RingsText", func(in input) []any { return list(impl.RingsText(in.a, in.rings)) }},
}

func TestP1HugeRingsTextsEnd(t *testing.T) {
	s := impl.Sheet{Wide: 8, High: 8}
	for _, unit := range []string{"-", "- ", "-\n", "\n", " ", "0", "9", "0 ", "0\n", "0 0 0 0 0 0 0 0\n", "\x00", "\xff"} {
		text := strings.Repeat(unit, 1000000/len(unit))
		if _, c := impl.ReadRings(s, text); c != impl.ErrSyntax {
			t.Errorf("%d bytes of %q: code %d", len(text), unit, c)
		}
	}
}

// TestP1SlowSheetsEnd has the sheets that run and dry longest: full water along the ways of a maze.
func TestP1SlowSheetsEnd(t *testing.T) {
	for n := range 37 {
		s := maze(n)
		for _, c := range runningCalls {
			if _, panicked := safely(c, input{a: s, at: spot(0, 0), to: spot(1, 0), rounds: impl.MaxRounds}); panicked != nil {
				t.Fatalf("%s panicked: %v, with %d full cells", c.name, panicked, n)
			}
		}
	}
}

// maze has walls of wax, between which one way leads from the first cell to the last one; its first n cells are full of water.
func maze(n int) impl.Sheet {
	s := impl.Sheet{Wide: 8, High: 8, Wax: [8]uint8{1: 0x7f, 3: 0xfe, 5: 0x7f, 7: 0xfe}}
	for y := range 8 {
		for i := range 8 {
			x := i
			if y%4 >= 2 {
				x = 7 - i
			}
			if n > 0 && !waxedAt(s, spot(int8(x), int8(y))) {
				s.Wet[y][x] = impl.MaxWet
				n--
			}
		}
	}
	return s
}
