package tests

import (
	"fmt"
	"math/rand"
	"strings"
	"testing"

	"loop.example/g01360/impl"
)

// oneCell returns a sheet of one cell.
func oneCell(water int, dyes ...int) impl.Sheet {
	s := impl.Sheet{Wide: 1, High: 1}
	s.Wet[0][0] = int16(water)
	for ink, dye := range dyes {
		s.Dye[0][0][ink] = int16(dye)
	}
	return s
}

// TestP18BrushesLeaveWhatRinsesTake holds a brush against a cell with the same ink: one leaves what the other one loses.
func TestP18BrushesLeaveWhatRinsesTake(t *testing.T) {
	r := rand.New(rand.NewSource(350))
	for range 2000 {
		b := randomBrush(r)
		b.Share = int8(1 + r.Intn(impl.MaxGiven))
		cell := oneCell(0)
		cell.Dye[0][0] = b.Dye
		touched, rest, c1 := impl.TouchCell(oneCell(0), b, spot(0, 0))
		rinsed, out, c2 := impl.RinseOnce(cell, int64(b.Share))
		left, _ := impl.DyeIn(touched)
		same(t, fmt.Sprint(b), list(left, rest.Dye, c1), list(out, rinsed.Dye[0][0], c2))
	}
}

// TestP18SixteenthsOfOneCell lets the same part of a wet cell be lifted, blotted, pressed and passed down.
func TestP18SixteenthsOfOneCell(t *testing.T) {
	r := rand.New(rand.NewSource(351))
	for range 2000 {
		cell := oneCell(1+r.Intn(200), r.Intn(301), r.Intn(301), r.Intn(301))
		part := int64(1 + r.Intn(impl.MaxPress))
		lifted, b, c1 := impl.LiftCell(cell, brush(1, 0), spot(0, 0), part)
		blotted, onto, _, c2 := impl.BlotOnto(cell, oneCell(0), part)
		st, _, _, c3 := impl.PassDown(impl.Stack{cell, oneCell(0)}, part)
		wide := impl.Sheet{Wide: 2, High: 1}
		wide.Wet[0][0], wide.Dye[0][0] = cell.Wet[0][0], cell.Dye[0][0]
		pressed, _, c4 := impl.PressOnce(wide, impl.Fold{Axis: 1, Press: int8(part)})
		same(t, "what stays", list(blotted.Dye[0][0], st[0].Dye[0][0], pressed.Dye[0][0], c1, c2), list(lifted.Dye[0][0], lifted.Dye[0][0], lifted.Dye[0][0], 0, 0))
		same(t, "what goes", list(onto.Dye[0][0], st[1].Dye[0][0], pressed.Dye[0][1], c3, c4), list(b.Dye, b.Dye, b.Dye, 0, 0))
		same(t, "water", list(st[0].Wet, st[1].Wet[0][0]), list(impl.Sheet{Wet: [8][8]int16{{pressed.Wet[0][0]}}}.Wet, pressed.Wet[0][1]))
	}
}

// TestP18BlotsAreLikePasses lays a dry sheet upon a sheet, with its face down, or under it, as it is.
func TestP18BlotsAreLikePasses(t *testing.T) {
	r := rand.New(rand.NewSource(352))
	for range 500 {
		a := randomSheet(r)
		b, _, _ := impl.DryAll(sheetLike(r, a))
		share := int64(1 + r.Intn(impl.MaxPress))
		above, upper, gone, c1 := impl.BlotOnto(a, b, share)
		mirror, _ := impl.MirrorSheet(b)
		st, table, _, c2 := impl.PassDown(impl.Stack{a, mirror}, share)
		turned, _ := impl.MirrorSheet(st[1])
		same(t, "dyes", list(above.Dye, upper.Dye, c1, table), list(st[0].Dye, turned.Dye, c2, [3]int64{}))
		before, _ := totals(a)
		after, _ := totals(st[0])
		same(t, "gone", list(gone), list(inkSum(before)-inkSum(after)))
	}
}

// TestP18HalvesAreTheWhole cuts sheets at folds.
func TestP18HalvesAreTheWhole(t *testing.T) {
	r := rand.New(rand.NewSource(353))
	for range 500 {
		s := randomSheet(r)
		whole, _ := impl.DyeIn(s)
		folds, _ := impl.FoldsOf(s)
		for _, f := range folds {
			half, c1 := impl.HalfOf(s, f)
			at, wide, high := spot(f.Axis, 0), int64(s.Wide-f.Axis), int64(s.High)
			if f.Down {
				at, wide, high = spot(0, f.Axis), int64(s.Wide), int64(s.High-f.Axis)
			}
			rest, c2 := impl.CutSheet(s, at, wide, high)
			sum, _ := impl.DyeIn(half)
			other, _ := impl.DyeIn(rest)
			account(&sum, other)
			same(t, "halves", list(sum, c1, c2), list(whole, 0, 0))
		}
	}
}

// TestP18DropsOfInkAndOfPictures lets a drop with enough water run for a round: it comes to the cells that a drop of a picture covers.
func TestP18DropsOfInkAndOfPictures(t *testing.T) {
	for wide := int64(1); wide <= 8; wide++ {
		for high := int64(1); high <= 8; high++ {
			s, _ := impl.PlainSheet(wide, high)
			p, _ := impl.BlankPicture(wide, high)
			for i, at := range places(s) {
				ink := int64(i % 3)
				dropped, c1 := impl.DropInk(s, at, ink, 90, 9)
				run, _, c2 := impl.RunOnce(dropped)
				dyed, _ := impl.DyedCells(run, 1)
				covered, _ := impl.CoveredBy(p, at)
				same(t, "cells", list(dyed, c1, c2), list(covered, 0, 0))
				text, _ := impl.PictureOf(run)
				made, c3 := impl.DropOn(p, impl.Drop{At: at, Ink: uint8(ink)})
				read, c4 := impl.ReadPicture(text)
				same(t, "pictures", list(text, read, c3, c4), list(impl.PictureText(made), made, 0, 0))
			}
		}
	}
}

// TestP18DropsAreMarks makes the marks that drops cover: they make the same pictures, and are found again.
func TestP18DropsAreMarks(t *testing.T) {
	r := rand.New(rand.NewSource(354))
	for range 400 {
		white := randomWhite(r)
		s, _ := impl.PlainSheet(int64(white.Wide), int64(white.High))
		drops := randomDrops(r, white, r.Intn(5))
		var marks []impl.Mark
		var given []int64
		for i, d := range drops {
			cells, _ := impl.CoveredBy(white, d.At)
			marks = append(marks, impl.Mark{Colour: int8(d.Ink), Cells: cells})
			given = append(given, int64(i))
		}
		made, _ := impl.DropAll(white, drops)
		rows, c1 := impl.PaintMarks(s, marks, given)
		same(t, "rows", list(strings.Join(rows, "\n")+"\n", c1), list(impl.PictureText(made), 0))
		order, c2 := impl.OrderFor(s, marks, rows)
		var ordered []impl.Drop
		for _, i := range order {
			ordered = append(ordered, drops[i])
		}
		yes, c3 := impl.CheckDrops(made, ordered)
		fewest, _, c4 := impl.FewestDrops(made, impl.MaxTries)
		same(t, "order", list(yes, c2, c3, c4, len(fewest) <= len(drops)), list(true, 0, 0, 0, true))
	}
}

// TestP18PicturesOfSheets asks pictures of sheets for the inks that the sheets have.
func TestP18PicturesOfSheets(t *testing.T) {
	r := rand.New(rand.NewSource(355))
	for range 500 {
		s := impl.Sheet{Wide: int8(1 + r.Intn(8)), High: int8(1 + r.Intn(8))}
		for _, at := range places(s) {
			if n := r.Intn(9); n < 3 { // one ink in each cell
				s.Dye[at.Y][at.X][n] = int16(1 + r.Intn(1000))
			}
		}
		text, _ := impl.PictureOf(s)
		p, code := impl.ReadPicture(text)
		inks, _ := impl.InksOf(p)
		dyed, _ := impl.DyedCells(s, 1)
		white, _ := impl.BlankPicture(int64(s.Wide), int64(s.High))
		unlike, _ := impl.UnlikeIn(p, white)
		sums, _ := impl.DyeIn(s)
		var want []int64
		for ink := range int64(3) {
			reached, _ := impl.ReachedBy(impl.Stack{s}, ink)
			if sums[ink] > 0 {
				want = append(want, ink)
			}
			same(t, "reached", list(len(reached) > 0), list(sums[ink] > 0))
		}
		same(t, "inks", list(inks, unlike, code), list(want, dyed, 0))
	}
}

// TestP18WaxThroughStencils waxes the cells that a stencil cuts out: the bits are the same.
func TestP18WaxThroughStencils(t *testing.T) {
	r := rand.New(rand.NewSource(356))
	for range 300 {
		p := randomArt(r)
		s, _ := impl.PlainSheet(int64(p.Wide), int64(p.High))
		for _, at := range spotsIn(p) {
			if p.Inked[at.Y][at.X] == 3 {
				s, _ = impl.WaxCell(s, at, true)
			}
		}
		stencil, code := impl.StencilOf(p, 2)
		same(t, fmt.Sprint(p), list(stencil, code), list(s.Wax, 0))
	}
}
