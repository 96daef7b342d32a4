package tests

import (
	"fmt"
	"math"
	"math/rand"
	"reflect"
	"strings"
	"testing"

	"loop.example/g01360/impl"
)

// input has an argument of each kind that the functions of chapter 1 take.
type input struct {
	a, b                    impl.Sheet
	at                      impl.Spot
	ink, amount, water      int64
	least, wide, high, code int64
	on                      bool
	text                    string
}

type call struct {
	name string
	run  func(in input) []any
}

// sheetCalls has all functions of chapter 1 that return a code, which is their last result.
var sheetCalls = []call{
	{"PlainSheet", func(in input) []any { s, c := impl.PlainSheet(in.wide, in.high); return list(s, c) }},
	{"WetAt", func(in input) []any { n, c := impl.WetAt(in.a, in.at); return list(n, c) }},
	{"DyeAt", func(in input) []any { n, c := impl.DyeAt(in.a, in.at, in.ink); return list(n, c) }},
	{"DarkAt", func(in input) []any { n, c := impl.DarkAt(in.a, in.at); return list(n, c) }},
	{"DropInk", func(in input) []any {
		s, c := impl.DropInk(in.a, in.at, in.ink, in.amount, in.water)
		return list(s, c)
	}},
	{"WaxCell", func(in input) []any { s, c := impl.WaxCell(in.a, in.at, in.on); return list(s, c) }},
	{"IsWaxed", func(in input) []any { b, c := impl.IsWaxed(in.a, in.at); return list(b, c) }},
	{"DyeIn", func(in input) []any { n, c := impl.DyeIn(in.a); return list(n, c) }},
	{"WaterIn", func(in input) []any { n, c := impl.WaterIn(in.a); return list(n, c) }},
	{"DyedCells", func(in input) []any { l, c := impl.DyedCells(in.a, in.least); return list(l, c) }},
	{"DarkestCell", func(in input) []any { at, n, c := impl.DarkestCell(in.a); return list(at, n, c) }},
	{"BlotAt", func(in input) []any { l, c := impl.BlotAt(in.a, in.at, in.least); return list(l, c) }},
	{"BlotsOf", func(in input) []any { l, c := impl.BlotsOf(in.a, in.least); return list(l, c) }},
	{"ColourAt", func(in input) []any { n, c := impl.ColourAt(in.a, in.at); return list(n, c) }},
	{"PictureOf", func(in input) []any { s, c := impl.PictureOf(in.a); return list(s, c) }},
	{"DifferBy", func(in input) []any { n, c := impl.DifferBy(in.a, in.b); return list(n, c) }},
	{"DryAll", func(in input) []any { s, n, c := impl.DryAll(in.a); return list(s, n, c) }},
	{"MirrorSheet", func(in input) []any { s, c := impl.MirrorSheet(in.a); return list(s, c) }},
	{"TurnSheet", func(in input) []any { s, c := impl.TurnSheet(in.a); return list(s, c) }},
	{"CutSheet", func(in input) []any {
		s, c := impl.CutSheet(in.a, in.at, in.wide, in.high)
		return list(s, c)
	}},
	{"ReadSheet", func(in input) []any { s, c := impl.ReadSheet(in.text); return list(s, c) }},
}

// plainCalls has the functions of chapter 1 without a code.
var plainCalls = []call{
	{"CodeName", func(in input) []any { return list(impl.CodeName(in.code)) }},
	{"ValidSheet", func(in input) []any { return list(impl.ValidSheet(in.a)) }},
	{"SameSheet", func(in input) []any { return list(impl.SameSheet(in.a, in.b)) }},
	{"SheetText", func(in input) []any { return list(impl.SheetText(in.a)) }},
}

// wild holds numbers far beyond all limits, and those whose sums with others would overflow.
var wild = []int64{-1, math.MaxInt64, math.MinInt64, math.MaxInt64 - 3, 1 << 32, 1 << 16, 1 << 8, 256 + 1, -(1 << 32) + 1}

func someNumber(r *rand.Rand, least, most int64) int64 {
	switch r.Intn(8) {
	case 0:
		return wild[r.Intn(len(wild))]
	case 1:
		return least - 1
	case 2:
		return most + 1
	case 3:
		return least
	case 4:
		return most
	}
	return least + r.Int63n(most-least+1)
}

func someSheet(r *rand.Rand) impl.Sheet {
	if r.Intn(4) == 0 {
		return brokenSheet(r)
	}
	return randomSheet(r)
}

func someText(r *rand.Rand) string {
	text := []byte(handText(randomSheet(r)))
	for range r.Intn(3) {
		i := r.Intn(len(text))
		switch r.Intn(3) {
		case 0:
			text[i] = "0123456789:, \nw-+x"[r.Intn(18)]
		case 1:
			text = append(text[:i], text[i+1:]...)
		case 2:
			text = append(text, text[i:]...)
		}
		if len(text) == 0 {
			break
		}
	}
	return string(text)
}

func someInput(r *rand.Rand) input {
	in := input{on: r.Intn(2) == 0, text: someText(r), code: someNumber(r, 0, 8)}
	in.a, in.b = someSheet(r), someSheet(r)
	if r.Intn(2) == 0 {
		in.b = in.a
	}
	in.at = spot(int8(r.Intn(8)), int8(r.Intn(8)))
	if r.Intn(4) == 0 {
		in.at = spot(int8(r.Intn(256)), int8(r.Intn(256)))
	}
	in.ink = someNumber(r, 0, 2)
	in.amount, in.water = someNumber(r, 0, impl.MaxDye), someNumber(r, 0, impl.MaxWet)
	in.least = someNumber(r, 1, 3*impl.MaxDye)
	in.wide, in.high = someNumber(r, 1, 8), someNumber(r, 1, 8)
	return in
}

// safely makes a call, and tells in words whether it panicked.
func safely(c call, in input) (out []any, panicked any) {
	defer func() { panicked = recover() }()
	return c.run(in), nil
}

// scribble overwrites all slices in a list of results.
func scribble(out []any) {
	for _, v := range out {
		switch l := v.(type) {
		case []impl.Spot:
			l = l[:cap(l)]
			for i := range l {
				l[i] = spot(-7, -7)
			}
		case [][]impl.Spot:
			for i := range l {
				scribble(list(l[i]))
				l[i] = nil
			}
		}
	}
}

func TestP1EveryCallReturnsTheSameAgain(t *testing.T) {
	r := rand.New(rand.NewSource(1))
	for range 1500 {
		in := someInput(r)
		for _, c := range append(append([]call{}, sheetCalls...), plainCalls...) {
			first, panicked := safely(c, in)
			if panicked != nil {
				t.Fatalf("%s panicked: %v, with %+v", c.name, panicked, in)
			}
			before := fmt.Sprintf("%v", first)
			again, _ := safely(c, in)
			scribble(first)
			third, _ := safely(c, in)
			if got := fmt.Sprintf("%v", again); got != before {
				t.Fatalf("%s: first %s, then %s", c.name, before, got)
			}
			if got := fmt.Sprintf("%v", third); got != before {
				t.Fatalf("%s: first %s, then, behind a change of its result, %s", c.name, before, got)
			}
		}
	}
}

func TestP1ArgumentsStayAsTheyAre(t *testing.T) {
	r := rand.New(rand.NewSource(2))
	for range 1000 {
		in := someInput(r)
		kept := in
		kept.text = strings.Clone(in.text)
		for _, c := range sheetCalls {
			c.run(in)
		}
		if !reflect.DeepEqual(in, kept) {
			t.Fatal("a call changed its arguments")
		}
	}
}

func TestP1ErrorsHaveNothingBesides(t *testing.T) {
	r := rand.New(rand.NewSource(3))
	failed := map[string]int{}
	for range 4000 {
		in := someInput(r)
		for _, c := range sheetCalls {
			out := c.run(in)
			code := out[len(out)-1].(int64)
			if code == impl.OK {
				continue
			}
			failed[c.name]++
			for _, v := range out[:len(out)-1] {
				if !empty(v) {
					t.Fatalf("%s: code %d, and %v", c.name, code, out)
				}
			}
		}
	}
	for _, c := range sheetCalls {
		if failed[c.name] == 0 {
			t.Errorf("%s never failed", c.name)
		}
	}
}

func TestP1InvalidSheetsComeFirst(t *testing.T) {
	r := rand.New(rand.NewSource(4))
	for range 3000 {
		in := someInput(r)
		in.a, in.b = brokenSheet(r), randomSheet(r)
		for _, c := range sheetCalls {
			if c.name == "PlainSheet" || c.name == "ReadSheet" {
				continue
			}
			if out := c.run(in); out[len(out)-1] != any(int64(impl.ErrInvalid)) {
				t.Fatalf("%s: got %v for a sheet that is not valid: %+v", c.name, out, in.a)
			}
		}
		if impl.SheetText(in.a) != "" {
			t.Fatalf("SheetText has a text for a sheet that is not valid: %+v", in.a)
		}
		if _, c := impl.DifferBy(in.b, in.a); c != impl.ErrInvalid {
			t.Fatalf("DifferBy: got %d for a second sheet that is not valid", c)
		}
	}
}

func TestP1ResultsAreNotSheetsThatAreInvalid(t *testing.T) {
	r := rand.New(rand.NewSource(5))
	for range 3000 {
		in := someInput(r)
		for _, c := range sheetCalls {
			out := c.run(in)
			s, ok := out[0].(impl.Sheet)
			if ok && out[len(out)-1] == any(int64(impl.OK)) && !impl.ValidSheet(s) {
				t.Fatalf("%s returned a sheet that is not valid: %+v", c.name, s)
			}
		}
	}
}

func TestP1HugeTextsEnd(t *testing.T) {
	for _, unit := range []string{"w", "w ", "w\n", "\n", " ", "0", "9", ":", ",", "0:0,0,0 ", "0:0,0,0\n", "\x00", "\xff"} {
		text := strings.Repeat(unit, 1000000/len(unit))
		if _, c := impl.ReadSheet(text); c != impl.ErrSyntax {
			t.Errorf("%d bytes of %q: code %d", len(text), unit, c)
		}
	}
}

func TestP1CodeNames(t *testing.T) {
	names := []string{"ok", "invalid", "range", "limit", "state", "syntax", "notfound", "budget", "proof"}
	codes := []int64{impl.OK, impl.ErrInvalid, impl.ErrRange, impl.ErrLimit, impl.ErrState, impl.ErrSyntax, impl.ErrNotFound, impl.ErrBudget, impl.ErrProof}
	for i, name := range names {
		if codes[i] != int64(i) || impl.CodeName(codes[i]) != name {
			t.Errorf("code %d: %d has the name %q, want %q", i, codes[i], impl.CodeName(codes[i]), name)
		}
	}
	for _, code := range append([]int64{9, -2, 1<<32 + 1}, wild...) {
		if name := impl.CodeName(code); name != "" {
			t.Errorf("code %d has the name %q", code, name)
		}
	}
}
