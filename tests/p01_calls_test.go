package tests

import (
	"fmt"
	"math"
	"math/rand"
	"reflect"
	"slices"
	"strings"
	"testing"

	"loop.example/g01360/impl"
)

// input has an argument of each kind that the functions of the package take.
type input struct {
	a, b                    impl.Sheet
	at, to                  impl.Spot
	ink, amount, water      int64
	least, wide, high, code int64
	rounds                  int64
	on                      bool
	text, ringsText         string
	rings                   impl.Rings
	fold                    impl.Fold
	folds                   []impl.Fold
	press, times, off       int64
	foldsText               string
	brush, other            impl.Brush
	path                    []impl.Spot
	load, part              int64
	pathText                string
	stack, pile             impl.Stack
	share, passes, level    int64
	place, rate             int64
	stackText               string
	cells                   []impl.Spot
	steps                   int64
	marks                   []impl.Mark
	order                   []int64
	picture                 []string
	under, over             int64
	mark                    impl.Mark
	markText                string
	art, scene              impl.Picture
	drop                    impl.Drop
	drops                   []impl.Drop
	budget                  int64
	stencils                [3][8]uint8
	want                    [3]int64
	parts                   int64
	artText, packed         string
}

type call struct {
	name string
	run  func(in input) []any
}

// codedCalls has all functions that return a code, which is their last result.
func codedCalls() []call {
	return slices.Concat(sheetCalls, runningCalls, foldingCalls, strokeCalls, stackCalls, originCalls, pictureCalls)
}

// plainCalls has all other functions.
func plainCalls() []call {
	return slices.Concat(plainSheetCalls, plainRunningCalls, plainFoldingCalls, plainStrokeCalls, plainStackCalls, plainOriginCalls, plainPictureCalls)
}

// wild holds numbers far beyond all limits, and those whose sums with others would overflow.
var wild = []int64{-1, math.MaxInt64, math.MinInt64, math.MaxInt64 - 3, 1 << 32, 1 << 16, 1 << 8, 256 + 1, -(1 << 32) + 1}

func someNumber(r *rand.Rand, least, most int64) int64 {
	switch r.Intn(8) {
	case 0:
		return wild[r.Intn(len(wild))]
	case 1:
		return least - 1
	case 2:
		return most + 1
	case 3:
		return least
	case 4:
		return most
	}
	return least + r.Int63n(most-least+1)
}

func someSheet(r *rand.Rand) impl.Sheet {
	switch r.Intn(8) {
	case 0, 1:
		return brokenSheet(r)
	case 2:
		return waxOf(randomSheet(r))
	}
	return randomSheet(r)
}

func someText(r *rand.Rand) string {
	return spoilt(r, handText(randomSheet(r)))
}

// spoilt changes up to two places of a text.
func spoilt(r *rand.Rand, whole string) string {
	text := []byte(whole)
	for range r.Intn(3) {
		i := r.Intn(len(text))
		switch r.Intn(3) {
		case 0:
			text[i] = "0123456789:, \nw-+xvh/nesabcdm"[r.Intn(29)]
		case 1:
			text = append(text[:i], text[i+1:]...)
		case 2:
			text = append(text, text[i:]...)
		}
		if len(text) == 0 {
			break
		}
	}
	return string(text)
}

func someInput(r *rand.Rand) input {
	in := input{on: r.Intn(2) == 0, text: someText(r), code: someNumber(r, 0, 8)}
	in.a, in.b = someSheet(r), someSheet(r)
	if r.Intn(2) == 0 {
		in.b = in.a
	}
	in.at = someSpot(r)
	in.to = someSpot(r)
	if r.Intn(2) == 0 {
		in.to = spot(in.at.X+1, in.at.Y)
	}
	in.ink = someNumber(r, 0, 2)
	in.amount, in.water = someNumber(r, 0, impl.MaxDye), someNumber(r, 0, impl.MaxWet)
	in.least = someNumber(r, 1, 3*impl.MaxDye)
	in.wide, in.high = someNumber(r, 1, 8), someNumber(r, 1, 8)
	in.rounds = someNumber(r, 0, impl.MaxRounds)
	in.rings, in.ringsText = someRings(r, in.a), someRingsText(r, in.a)
	in.fold, in.folds, in.foldsText = someFold(r, in.a), someFolds(r, in.a), spoilt(r, handFolds(someFolds(r, in.a))+"v")
	in.press, in.times = someNumber(r, 1, impl.MaxPress), someNumber(r, 0, impl.MaxFolds)
	in.off = someNumber(r, 0, int64(oneOf(r, 3, 30, 300, 3000)))
	in.brush, in.other = someBrush(r), someBrush(r)
	in.path, in.pathText = somePath(r, in.a), spoilt(r, handPath(somePath(r, in.a))+" ")
	in.load, in.part = someNumber(r, 0, impl.MaxLoad), someNumber(r, 0, 16)
	in.stack, in.pile, in.stackText = someStack(r), someStack(r), spoilt(r, handStack(randomStack(r))+"\n")
	in.share, in.passes, in.level = someNumber(r, 1, impl.MaxGiven), someNumber(r, 0, impl.MaxPasses), someNumber(r, 0, 3*impl.MaxDye)
	in.place, in.rate = someNumber(r, 0, int64(len(in.stack))), someNumber(r, 1, int64(oneOf(r, 3, impl.MaxWet)))
	if len(in.stack) > 0 && r.Intn(2) == 0 {
		in.b = in.stack[0]
	}
	in.cells, in.steps = someCells(r, in.a), someNumber(r, 0, 16)
	in.marks = someMarks(r, in.a)
	in.order, in.picture = someOrder(r, len(in.marks)), somePicture(r, in.a, in.marks)
	in.under, in.over = someNumber(r, 0, int64(len(in.marks))), someNumber(r, 0, int64(len(in.marks)))
	in.mark, in.markText = someMark(r, in.a), spoilt(r, handMark(someMark(r, in.a))+" ")
	in.addPictures(r)
	return in
}

func someSpot(r *rand.Rand) impl.Spot {
	if r.Intn(4) == 0 {
		return spot(int8(r.Intn(256)), int8(r.Intn(256)))
	}
	return spot(int8(r.Intn(8)), int8(r.Intn(8)))
}

// safely makes a call, and tells in words whether it panicked.
func safely(c call, in input) (out []any, panicked any) {
	defer func() { panicked = recover() }()
	return c.run(in), nil
}

// scribble overwrites all slices in a list of results.
func scribble(out []any) {
	for _, v := range out {
		switch l := v.(type) {
		case []impl.Spot:
			l = l[:cap(l)]
			for i := range l {
				l[i] = spot(-7, -7)
			}
		case [][]impl.Spot:
			for i := range l {
				scribble(list(l[i]))
				l[i] = nil
			}
		case [][2]impl.Spot:
			l = l[:cap(l)]
			for i := range l {
				l[i] = [2]impl.Spot{spot(-7, -7), spot(-7, -7)}
			}
		case []impl.Fold:
			l = l[:cap(l)]
			for i := range l {
				l[i] = impl.Fold{Axis: -7, Press: -7}
			}
		case []int64:
			l = l[:cap(l)]
			for i := range l {
				l[i] = -7
			}
		case [][3]int64:
			l = l[:cap(l)]
			for i := range l {
				l[i] = [3]int64{-7, -7, -7}
			}
		case impl.Stack:
			l = l[:cap(l)]
			for i := range l {
				l[i] = impl.Sheet{Wide: -7}
			}
		case []string:
			l = l[:cap(l)]
			for i := range l {
				l[i] = "x"
			}
		case []impl.Drop:
			l = l[:cap(l)]
			for i := range l {
				l[i] = impl.Drop{At: spot(-7, -7), Ink: 7}
			}
		case impl.Mark:
			scribble(list(l.Cells))
		}
	}
}

func TestP1EveryCallReturnsTheSameAgain(t *testing.T) {
	r := rand.New(rand.NewSource(1))
	for range 1500 {
		in := someInput(r)
		for _, c := range slices.Concat(codedCalls(), plainCalls()) {
			first, panicked := safely(c, in)
			if panicked != nil {
				t.Fatalf("%s panicked: %v, with %+v", c.name, panicked, in)
			}
			before := fmt.Sprintf("%v", first)
			again, _ := safely(c, in)
			scribble(first)
			third, _ := safely(c, in)
			if got := fmt.Sprintf("%v", again); got != before {
				t.Fatalf("%s: first %s, then %s", c.name, before, got)
			}
			if got := fmt.Sprintf("%v", third); got != before {
				t.Fatalf("%s: first %s, then, behind a change of its result, %s", c.name, before, got)
			}
		}
	}
}

func TestP1ArgumentsStayAsTheyAre(t *testing.T) {
	r := rand.New(rand.NewSource(2))
	for range 1000 {
		in := someInput(r)
		kept := in
		kept.text = strings.Clone(in.text)
		// The room behind a slice belongs to the caller as well.
		in.folds, kept.folds = in.folds[:cap(in.folds)], slices.Clone(in.folds[:cap(in.folds)])
		in.path, kept.path = in.path[:cap(in.path)], slices.Clone(in.path[:cap(in.path)])
		in.stack, kept.stack = in.stack[:cap(in.stack)], slices.Clone(in.stack[:cap(in.stack)])
		in.pile, kept.pile = in.pile[:cap(in.pile)], slices.Clone(in.pile[:cap(in.pile)])
		in.cells, kept.cells = in.cells[:cap(in.cells)], slices.Clone(in.cells[:cap(in.cells)])
		in.order, kept.order = in.order[:cap(in.order)], slices.Clone(in.order[:cap(in.order)])
		in.picture, kept.picture = in.picture[:cap(in.picture)], slices.Clone(in.picture[:cap(in.picture)])
		in.mark, kept.mark = wholeMark(in.mark), cloneMark(in.mark)
		in.marks, kept.marks = wholeMarks(in.marks), cloneMarks(in.marks)
		in.drops, kept.drops = in.drops[:cap(in.drops)], slices.Clone(in.drops[:cap(in.drops)])
		short := in
		short.folds, short.path = in.folds[:len(in.folds)/2], in.path[:len(in.path)/2]
		short.stack, short.pile = in.stack[:len(in.stack)/2], in.pile[:len(in.pile)/2]
		short.cells, short.order = in.cells[:len(in.cells)/2], in.order[:len(in.order)/2]
		short.picture, short.marks = in.picture[:len(in.picture)/2], in.marks[:len(in.marks)/2]
		short.mark.Cells, short.drops = in.mark.Cells[:len(in.mark.Cells)/2], in.drops[:len(in.drops)/2]
		for _, c := range slices.Concat(codedCalls(), plainCalls()) {
			c.run(in)
			c.run(short)
		}
		if !reflect.DeepEqual(in, kept) {
			t.Fatal("a call changed its arguments")
		}
	}
}

func TestP1ErrorsHaveNothingBesides(t *testing.T) {
	r := rand.New(rand.NewSource(3))
	failed := map[string]int{}
	for range 4000 {
		in := someInput(r)
		for _, c := range codedCalls() {
			out := c.run(in)
			code := out[len(out)-1].(int64)
			if code == impl.OK {
				continue
			}
			failed[c.name]++
			for _, v := range out[:len(out)-1] {
				if !empty(v) {
					t.Fatalf("%s: code %d, and %v", c.name, code, out)
				}
			}
		}
	}
	for _, c := range codedCalls() {
		if failed[c.name] == 0 {
			t.Errorf("%s never failed", c.name)
		}
	}
}

// withoutSheet has the functions with a code that take no sheet.
var withoutSheet = []string{"PlainSheet", "ReadSheet", "ReadFolds", "DipBrush", "MixBrushes", "RinseBrush", "ReadPath", "ReadStack", "ReadMark"}

func TestP1InvalidSheetsComeFirst(t *testing.T) {
	r := rand.New(rand.NewSource(4))
	for range 3000 {
		in := someInput(r)
		in.a, in.b = brokenSheet(r), randomSheet(r)
		for _, c := range codedCalls() {
			if slices.Contains(withoutSheet, c.name) || slices.Contains(withStack, c.name) || isPictureCall(c) {
				continue
			}
			if out := c.run(in); out[len(out)-1] != any(int64(impl.ErrInvalid)) {
				t.Fatalf("%s: got %v for a sheet that is not valid: %+v", c.name, out, in.a)
			}
		}
		if impl.SheetText(in.a) != "" || impl.RingsText(in.a, in.rings) != "" {
			t.Fatalf("there is a text for a sheet that is not valid: %+v", in.a)
		}
		_, c1 := impl.DifferBy(in.b, in.a)
		_, _, _, c2 := impl.BlotOnto(in.b, in.a, in.press)
		_, _, _, c3 := impl.BlotRounds(in.b, in.a, in.press, in.times)
		same(t, "second sheet", list(c1, c2, c3), list(1, 1, 1))
	}
}

func TestP1ResultsAreValid(t *testing.T) {
	r := rand.New(rand.NewSource(5))
	for range 3000 {
		in := someInput(r)
		for _, c := range codedCalls() {
			out := c.run(in)
			if out[len(out)-1] != any(int64(impl.OK)) {
				continue
			}
			for _, v := range out {
				s, isSheet := v.(impl.Sheet)
				b, isBrush := v.(impl.Brush)
				st, isStack := v.(impl.Stack)
				p, isPicture := v.(impl.Picture)
				if isSheet && !impl.ValidSheet(s) || isBrush && !impl.ValidBrush(b) || isStack && !impl.ValidStack(st) || isPicture && !impl.ValidPicture(p) {
					t.Fatalf("%s returned what is not valid: %+v", c.name, v)
				}
			}
		}
	}
}
