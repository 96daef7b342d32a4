package tests

import (
	"math"
	"math/rand"
	"slices"
	"strings"
	"testing"

	"loop.example/g01360/impl"
)

// strokeCalls has all functions of chapter 4 that return a code, which is their last result.
var strokeCalls = []call{
	{"DipBrush", func(in input) []any {
		b, c := impl.DipBrush(in.brush, in.ink, in.load, in.water)
		return list(b, c)
	}},
	{"MixBrushes", func(in input) []any { a, b, c := impl.MixBrushes(in.brush, in.other); return list(a, b, c) }},
	{"RinseBrush", func(in input) []any { b, n, c := impl.RinseBrush(in.brush); return list(b, n, c) }},
	{"TouchCell", func(in input) []any { s, b, c := impl.TouchCell(in.a, in.brush, in.at); return list(s, b, c) }},
	{"LeaveAt", func(in input) []any { d, n, c := impl.LeaveAt(in.a, in.brush, in.at); return list(d, n, c) }},
	{"StrokePath", func(in input) []any {
		s, b, c := impl.StrokePath(in.a, in.brush, in.path)
		return list(s, b, c)
	}},
	{"CellsUntilDry", func(in input) []any { n, c := impl.CellsUntilDry(in.a, in.brush, in.path); return list(n, c) }},
	{"LeastShare", func(in input) []any {
		n, c := impl.LeastShare(in.a, in.brush, in.path, in.least)
		return list(n, c)
	}},
	{"DipsFor", func(in input) []any {
		l, c := impl.DipsFor(in.a, in.brush, in.path, in.least)
		return list(l, c)
	}},
	{"LiftCell", func(in input) []any {
		s, b, c := impl.LiftCell(in.a, in.brush, in.at, in.part)
		return list(s, b, c)
	}},
	{"WaxPath", func(in input) []any { s, c := impl.WaxPath(in.a, in.path); return list(s, c) }},
	{"PathBetween", func(in input) []any { l, c := impl.PathBetween(in.a, in.at, in.to); return list(l, c) }},
	{"ReadPath", func(in input) []any { l, c := impl.ReadPath(in.pathText); return list(l, c) }},
}

// plainStrokeCalls has the functions of chapter 4 without a code.
var plainStrokeCalls = []call{
	{"ValidBrush", func(in input) []any { return list(impl.ValidBrush(in.brush)) }},
	{"LoadOf", func(in input) []any { return list(impl.LoadOf(in.brush)) }},
	{"ValidPath", func(in input) []any { return list(impl.ValidPath(in.a, in.path)) }},
	{"TurnPath", func(in input) []any { return list(impl.TurnPath(in.path)) }},
	{"PathText", func(in input) []any { return list(impl.PathText(in.path)) }},
}

// withBrush has the functions that take a brush, and a code.
var withBrush = []string{
	"DipBrush", "MixBrushes", "RinseBrush", "TouchCell", "LeaveAt", "StrokePath", "CellsUntilDry", "LeastShare", "DipsFor", "LiftCell",
}

func someBrush(r *rand.Rand) impl.Brush {
	if r.Intn(6) == 0 {
		return brokenBrush(r)
	}
	return randomBrush(r)
}

// somePath returns a path that is valid for a sheet, if this is, or one that is not quite.
func somePath(r *rand.Rand, s impl.Sheet) []impl.Spot {
	if !impl.ValidSheet(s) {
		s = randomSheet(r)
	}
	path := randomPath(r, s)
	i := r.Intn(len(path))
	switch r.Intn(12) {
	case 0:
		return nil
	case 1:
		path[i] = someSpot(r)
	case 2:
		return append(path[:i], path[i+1:]...)
	case 3:
		return slices.Insert(path, i, path[i])
	case 4:
		for len(path) <= impl.MaxPath {
			path = append(path, path...)
		}
	}
	return path
}

func TestP1InvalidBrushesComeFirst(t *testing.T) {
	r := rand.New(rand.NewSource(7))
	for range 3000 {
		in := someInput(r)
		in.brush, in.other = brokenBrush(r), randomBrush(r)
		for _, c := range codedCalls() {
			if !slices.Contains(withBrush, c.name) {
				continue
			}
			if out := c.run(in); out[len(out)-1] != any(int64(impl.ErrInvalid)) {
				t.Fatalf("%s: got %v for a brush that is not valid: %+v", c.name, out, in.brush)
			}
		}
		_, _, code := impl.MixBrushes(in.other, in.brush)
		same(t, "second brush", list(code), list(1))
	}
}

func TestP1HugePathTextsEnd(t *testing.T) {
	for _, unit := range []string{"0", "0,", "0,0", "0,0 ", "0,0 e", " ", ",", "e", "ew", "\x00", "\xff"} {
		long := strings.Repeat(unit, 1000000/len(unit))
		for _, text := range []string{long, "0,0 " + long, "0," + long, long + ",0"} {
			if l, c := impl.ReadPath(text); len(l) > 0 || c != impl.ErrSyntax {
				t.Errorf("%d bytes of %q: %d cells, code %d", len(text), unit, len(l), c)
			}
		}
	}
}

func TestP1HugePathsEnd(t *testing.T) {
	s, b := impl.Sheet{Wide: 2, High: 1}, brush(4, 16, 32)
	path := make([]impl.Spot, 1000000)
	for i := range path {
		path[i].X = int8(i % 2)
	}
	path[999999].X = math.MinInt8
	in := input{a: s, brush: b, path: path, least: 1}
	for _, c := range strokeCalls {
		if slices.Contains([]string{"StrokePath", "CellsUntilDry", "LeastShare", "DipsFor", "WaxPath"}, c.name) {
			out := c.run(in)
			same(t, c.name, out[len(out)-1:], list(impl.ErrRange))
		}
	}
	turned := impl.TurnPath(path)
	same(t, "a million cells", list(impl.ValidPath(s, path), impl.PathText(path), len(turned), turned[:3], turned[999999]),
		list(false, "", 1000000, []impl.Spot{{X: math.MinInt8}, {}, {X: 1}}, spot(0, 0)))
}

// TestP1PathsAreNotKept changes paths behind a call, and those that were returned before another call.
func TestP1PathsAreNotKept(t *testing.T) {
	r := rand.New(rand.NewSource(8))
	for range 300 {
		s, b := randomSheet(r), randomBrush(r)
		path := randomPath(r, s)
		want, rest, _ := impl.StrokePath(s, b, path)
		text := impl.PathText(path)
		back, _ := impl.ReadPath(text)
		turned := impl.TurnPath(path)
		kept := slices.Clone(turned)
		for i := range path {
			path[i] = spot(-7, -7)
		}
		got, left, code := impl.StrokePath(s, b, back)
		same(t, "path that was read", list(got, left, code, impl.PathText(back)), list(want, rest, 0, text))
		same(t, "path that was turned", list(turned), list(kept))
	}
}
