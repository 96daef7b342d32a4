package tests

import (
	"strings"
	"testing"

	"loop.example/g01360/impl"
)

// sheetCalls has all functions of chapter 1 that return a code, which is their last result.
var sheetCalls = []call{
	{"PlainSheet", func(in input) []any { s, c := impl.PlainSheet(in.wide, in.high); return list(s, c) }},
	{"WetAt", func(in input) []any { n, c := impl.WetAt(in.a, in.at); return list(n, c) }},
	{"DyeAt", func(in input) []any { n, c := impl.DyeAt(in.a, in.at, in.ink); return list(n, c) }},
	{"DarkAt", func(in input) []any { n, c := impl.DarkAt(in.a, in.at); return list(n, c) }},
	{"DropInk", func(in input) []any {
		s, c := impl.DropInk(in.a, in.at, in.ink, in.amount, in.water)
		return list(s, c)
	}},
	{"WaxCell", func(in input) []any { s, c := impl.WaxCell(in.a, in.at, in.on); return list(s, c) }},
	{"IsWaxed", func(in input) []any { b, c := impl.IsWaxed(in.a, in.at); return list(b, c) }},
	{"DyeIn", func(in input) []any { n, c := impl.DyeIn(in.a); return list(n, c) }},
	{"WaterIn", func(in input) []any { n, c := impl.WaterIn(in.a); return list(n, c) }},
	{"DyedCells", func(in input) []any { l, c := impl.DyedCells(in.a, in.least); return list(l, c) }},
	{"DarkestCell", func(in input) []any { at, n, c := impl.DarkestCell(in.a); return list(at, n, c) }},
	{"BlotAt", func(in input) []any { l, c := impl.BlotAt(in.a, in.at, in.least); return list(l, c) }},
	{"BlotsOf", func(in input) []any { l, c := impl.BlotsOf(in.a, in.least); return list(l, c) }},
	{"ColourAt", func(in input) []any { n, c := impl.ColourAt(in.a, in.at); return list(n, c) }},
	{"PictureOf", func(in input) []any { s, c := impl.PictureOf(in.a); return list(s, c) }},
	{"DifferBy", func(in input) []any { n, c := impl.DifferBy(in.a, in.b); return list(n, c) }},
	{"DryAll", func(in input) []any { s, n, c := impl.DryAll(in.a); return list(s, n, c) }},
	{"MirrorSheet", func(in input) []any { s, c := impl.MirrorSheet(in.a); return list(s, c) }},
	{"TurnSheet", func(in input) []any { s, c := impl.TurnSheet(in.a); return list(s, c) }},
	{"CutSheet", func(in input) []any {
		s, c := impl.CutSheet(in.a, in.at, in.wide, in.high)
		return list(s, c)
	}},
	{"ReadSheet", func(in input) []any { s, c := impl.ReadSheet(in.text); return list(s, c) }},
}

// plainSheetCalls has the functions of chapter 1 without a code.
var plainSheetCalls = []call{
	{"CodeName", func(in input) []any { return list(impl.CodeName(in.code)) }},
	{"ValidSheet", func(in input) []any { return list(impl.ValidSheet(in.a)) }},
	{"SameSheet", func(in input) []any { return list(impl.SameSheet(in.a, in.b)) }},
	{"SheetText", func(in input) []any { return list(impl.SheetText(in.a)) }},
}

func TestP1HugeTextsEnd(t *testing.T) {
	for _, unit := range []string{"w", "w ", "w\n", "\n", " ", "0", "9", ":", ",", "0:0,0,0 ", "0:0,0,0\n", "\x00", "\xff"} {
		text := strings.Repeat(unit, 1000000/len(unit))
		if _, c := impl.ReadSheet(text); c != impl.ErrSyntax {
			t.Errorf("%d bytes of %q: code %d", len(text), unit, c)
		}
	}
}

func TestP1CodeNames(t *testing.T) {
	names := []string{"ok", "invalid", "range", "limit", "state", "syntax", "notfound", "budget", "proof"}
	codes := []int64{impl.OK, impl.ErrInvalid, impl.ErrRange, impl.ErrLimit, impl.ErrState, impl.ErrSyntax, impl.ErrNotFound, impl.ErrBudget, impl.ErrProof}
	for i, name := range names {
		if codes[i] != int64(i) || impl.CodeName(codes[i]) != name {
			t.Errorf("code %d: %d has the name %q, want %q", i, codes[i], impl.CodeName(codes[i]), name)
		}
	}
	for _, code := range append([]int64{9, -2, 1<<32 + 1}, wild...) {
		if name := impl.CodeName(code); name != "" {
			t.Errorf("code %d has the name %q", code, name)
		}
	}
}
