package tests

import (
	"math/rand"
	"strings"
	"testing"

	"loop.example/g01360/impl"
)

// foldingCalls has all functions of chapter 3 that return a code, which is their last result.
var foldingCalls = []call{
	{"PartnerOf", func(in input) []any { at, c := impl.PartnerOf(in.a, in.fold, in.at); return list(at, c) }},
	{"PairsOf", func(in input) []any { l, c := impl.PairsOf(in.a, in.fold); return list(l, c) }},
	{"PressOnce", func(in input) []any { s, n, c := impl.PressOnce(in.a, in.fold); return list(s, n, c) }},
	{"PressAll", func(in input) []any { s, n, c := impl.PressAll(in.a, in.folds); return list(s, n, c) }},
	{"OffBy", func(in input) []any { n, c := impl.OffBy(in.a, in.fold); return list(n, c) }},
	{"IsMirror", func(in input) []any { b, c := impl.IsMirror(in.a, in.fold); return list(b, c) }},
	{"CanBeFolded", func(in input) []any { b, c := impl.CanBeFolded(in.a, in.fold); return list(b, c) }},
	{"FoldsOf", func(in input) []any { l, c := impl.FoldsOf(in.a); return list(l, c) }},
	{"BestFold", func(in input) []any { f, n, c := impl.BestFold(in.a); return list(f, n, c) }},
	{"PressesUntil", func(in input) []any { n, c := impl.PressesUntil(in.a, in.fold, in.off); return list(n, c) }},
	{"BlotOnto", func(in input) []any {
		a, b, n, c := impl.BlotOnto(in.a, in.b, in.press)
		return list(a, b, n, c)
	}},
	{"BlotRounds", func(in input) []any {
		a, b, n, c := impl.BlotRounds(in.a, in.b, in.press, in.times)
		return list(a, b, n, c)
	}},
	{"EvenOut", func(in input) []any { s, c := impl.EvenOut(in.a, in.fold); return list(s, c) }},
	{"HalfOf", func(in input) []any { s, c := impl.HalfOf(in.a, in.fold); return list(s, c) }},
	{"UnfoldHalf", func(in input) []any { s, c := impl.UnfoldHalf(in.a, in.on); return list(s, c) }},
	{"ReadFolds", func(in input) []any { l, c := impl.ReadFolds(in.foldsText); return list(l, c) }},
}

// plainFoldingCalls has the functions of chapter 3 without a code.
var plainFoldingCalls = []call{
	{"ValidFold", func(in input) []any { return list(impl.ValidFold(in.a, in.fold)) }},
	{"FoldsText", func(in input) []any { return list(impl.FoldsText(in.folds)) }},
}

func TestP1HugeFoldsTextsEnd(t *testing.T) {
	for _, unit := range []string{"v", "h", " ", "/", "v1", "v1/", "v1/8", "v1/8 ", " v1/8", "v1/8\n", "0", "1", "\x00", "\xff"} {
		text := strings.Repeat(unit, 1000000/len(unit))
		if l, c := impl.ReadFolds(text); len(l) > 0 || c != impl.ErrSyntax {
			t.Errorf("%d bytes of %q: %d folds, code %d", len(text), unit, len(l), c)
		}
	}
}

func TestP1HugeListsOfFoldsEnd(t *testing.T) {
	folds := make([]impl.Fold, 1000000)
	for i := range folds {
		folds[i] = impl.Fold{Axis: 1, Press: 8}
	}
	s, n, c := impl.PressAll(impl.Sheet{Wide: 2, High: 1}, folds)
	same(t, "a million folds", list(s, n, c, impl.FoldsText(folds)), list(impl.Sheet{}, 0, impl.ErrLimit, ""))
}

// TestP1FoldsAreNotKept changes a list of folds behind a call, and a list that was returned before another call.
func TestP1FoldsAreNotKept(t *testing.T) {
	r := rand.New(rand.NewSource(6))
	for range 200 {
		s := randomSheet(r)
		folds := allFolds(s)
		if len(folds) == 0 {
			continue
		}
		want, _, _ := impl.PressAll(s, folds)
		text := impl.FoldsText(folds)
		back, _ := impl.ReadFolds(text)
		for i := range folds {
			folds[i].Press = 1
		}
		got, _, code := impl.PressAll(s, back)
		same(t, "folds that were read", list(got, code, impl.FoldsText(back)), list(want, 0, text))
	}
}
