package tests

import (
	"fmt"
	"math/rand"
	"testing"

	"loop.example/g01360/impl"
)

// ledger keeps count of all ink and water that has come to a sheet, to what it is brought together with, and away from them.
type ledger struct {
	t             *testing.T
	r             *rand.Rand
	sheet, other  impl.Sheet // the other one is laid upon it
	brush, spare  impl.Brush
	pile          impl.Stack // the sheet is put into it
	came, gone    [3]int64
	poured, dried int64
}

// step is something that is done to the sheet; it reports whether anything has changed.
type step struct {
	name string
	do   func(l *ledger) bool
}

var inkSteps = []step{
	{"drop", (*ledger).drop}, {"soak", (*ledger).soak}, {"give", (*ledger).give}, {"run", (*ledger).run}, {"run until calm", (*ledger).runUntil},
	{"dry", (*ledger).dry}, {"dry all", (*ledger).dryAll}, {"touch", (*ledger).touch}, {"stroke", (*ledger).stroke}, {"lift", (*ledger).lift},
	{"dip", (*ledger).dip}, {"mix", (*ledger).mix}, {"rinse the brush", (*ledger).rinseBrush}, {"press", (*ledger).press}, {"even out", (*ledger).evenOut},
	{"turn", (*ledger).turn}, {"blot", (*ledger).blot}, {"be blotted", (*ledger).beBlotted}, {"pass down", (*ledger).passDown},
	{"dry in a stack", (*ledger).dryInStack}, {"turn in a stack", (*ledger).turnInStack}, {"rinse", (*ledger).rinse}, {"rinse until", (*ledger).rinseUntil}, {"write", (*ledger).write},
}

// account adds numbers to those that are kept count of.
func account(sums *[3]int64, more [3]int64) {
	for ink, n := range more {
		sums[ink] += n
	}
}

// become makes the sheet another one, if there is no error, and reports whether it has changed.
func (l *ledger) become(s impl.Sheet, code int64) bool {
	if code != impl.OK {
		return false
	}
	changed := s != l.sheet
	l.sheet = s
	return changed
}

func (l *ledger) anyCell() impl.Spot {
	cells := places(l.sheet)
	return cells[l.r.Intn(len(cells))]
}

// expect fails the test if a step tells another number than that which has really gone over.
func (l *ledger) expect(name string, told, real int64) {
	if told != real {
		l.t.Fatalf("%s: %d has been told, but it is %d", name, told, real)
	}
}

func (l *ledger) drop() bool {
	ink, amount, water := l.r.Intn(3), int64(oneOf(l.r, 0, 1, l.r.Intn(400), 1000)), int64(oneOf(l.r, 0, 1, l.r.Intn(200)))
	s, code := impl.DropInk(l.sheet, l.anyCell(), int64(ink), amount, water)
	if code == impl.OK {
		l.came[ink] += amount
		l.poured += water
	}
	return l.become(s, code)
}

func (l *ledger) soak() bool {
	water := int64(l.r.Intn(100))
	s, code := impl.SoakCell(l.sheet, l.anyCell(), water)
	if code == impl.OK {
		l.poured += water
	}
	return l.become(s, code)
}

func (l *ledger) give() bool {
	at := l.anyCell()
	for _, to := range besides(l.sheet, at) {
		if s, code := impl.GiveUnit(l.sheet, at, to); code == impl.OK {
			return l.become(s, code)
		}
	}
	return false
}

func (l *ledger) run() bool {
	s, given, code := impl.RunRounds(l.sheet, int64(l.r.Intn(6)))
	changed := l.become(s, code)
	if given == 0 && changed {
		l.t.Fatal("nothing has been given, but the sheet has changed")
	}
	return changed
}

func (l *ledger) runUntil() bool {
	s, _, code := impl.RunUntil(l.sheet)
	changed := l.become(s, code)
	if calm, _ := impl.IsCalm(l.sheet); code == impl.OK && !calm {
		l.t.Fatal("it still runs")
	}
	return changed
}

func (l *ledger) dry() bool {
	s, gone, code := impl.DryRounds(l.sheet, int64(l.r.Intn(4)))
	l.dried += gone
	return l.become(s, code)
}

func (l *ledger) dryAll() bool {
	if l.r.Intn(4) > 0 { // else there would seldom be water
		return false
	}
	s, gone, code := impl.DryAll(l.sheet)
	l.dried += gone
	return l.become(s, code)
}

func (l *ledger) touch() bool {
	at := l.anyCell()
	dyes, water, _ := impl.LeaveAt(l.sheet, l.brush, at)
	before := l.sheet
	s, b, code := impl.TouchCell(l.sheet, l.brush, at)
	l.brush = b
	changed := l.become(s, code)
	for ink, dye := range dyes {
		l.expect("touch", dye, int64(s.Dye[at.Y][at.X][ink]-before.Dye[at.Y][at.X][ink]))
	}
	l.expect("touch", water, int64(s.Wet[at.Y][at.X]-before.Wet[at.Y][at.X]))
	return changed
}

func (l *ledger) stroke() bool {
	s, b, code := impl.StrokePath(l.sheet, l.brush, randomPath(l.r, l.sheet))
	l.brush = b
	return l.become(s, code)
}

func (l *ledger) lift() bool {
	load := impl.LoadOf(l.brush)
	before := l.sheet
	s, b, code := impl.LiftCell(l.sheet, l.brush, l.anyCell(), int64(l.r.Intn(17)))
	l.brush = b
	off, _ := impl.DifferBy(before, s)
	l.expect("lift", impl.LoadOf(b)-load, off)
	return l.become(s, code)
}

func (l *ledger) dip() bool {
	ink, amount, water := l.r.Intn(3), int64(l.r.Intn(500)), int64(l.r.Intn(100))
	b, code := impl.DipBrush(l.brush, int64(ink), amount, water)
	if code != impl.OK {
		return false
	}
	l.brush = b
	l.came[ink] += amount
	l.poured += water
	return amount > 0
}

func (l *ledger) mix() bool {
	a, b, code := impl.MixBrushes(l.brush, l.spare)
	if code != impl.OK {
		return false
	}
	changed := a != l.brush
	l.spare, l.brush = a, b
	return changed
}

func (l *ledger) rinseBrush() bool {
	b, dyes, _ := impl.RinseBrush(l.brush)
	account(&l.gone, dyes)
	l.dried += int64(l.brush.Water)
	l.brush = b
	return dyes != [3]int64{}
}

func (l *ledger) press() bool {
	folds, _ := impl.FoldsOf(l.sheet)
	if len(folds) == 0 {
		return false
	}
	f := folds[l.r.Intn(len(folds))]
	f.Press = int8(1 + l.r.Intn(impl.MaxPress))
	s, moved, code := impl.PressOnce(l.sheet, f)
	off, _ := impl.DifferBy(l.sheet, s)
	l.expect("press", 2*moved, off) // it goes out of one cell, and into another one
	return l.become(s, code)
}

func (l *ledger) evenOut() bool {
	f, _, code := impl.BestFold(l.sheet)
	if code != impl.OK || l.r.Intn(3) > 0 {
		return false
	}
	return l.become(impl.EvenOut(l.sheet, f))
}

func (l *ledger) turn() bool {
	turned, _ := impl.TurnSheet(l.sheet)
	back, _ := impl.MirrorSheet(turned)
	return l.become(impl.TurnSheet(back)) // the size is as before
}

func (l *ledger) blot() bool {
	s, other, gone, code := impl.BlotOnto(l.sheet, l.other, int64(1+l.r.Intn(impl.MaxPress)))
	out, _ := impl.DifferBy(l.sheet, s)
	into, _ := impl.DifferBy(l.other, other)
	l.expect("blot", gone, out)
	l.expect("blot", gone, into)
	l.other = other
	return l.become(s, code)
}

func (l *ledger) beBlotted() bool {
	wet, _ := impl.SoakCell(l.other, l.anyCell(), 1) // water that stays behind
	before, _ := impl.WaterIn(l.other)
	after, code := impl.WaterIn(wet)
	if code == impl.OK {
		l.other = wet
		l.poured += after - before
	}
	other, s, _, code := impl.BlotRounds(l.other, l.sheet, int64(1+l.r.Intn(impl.MaxPress)), int64(l.r.Intn(3)))
	l.other = other
	return l.become(s, code)
}

// inPile puts the sheet into the pile, lets something be done to this, and takes the sheet out again, from where it is then.
func (l *ledger) inPile(do func(st impl.Stack, at int64) (impl.Stack, int64)) bool {
	at := int64(l.r.Intn(len(l.pile) + 1))
	st, code := impl.PutSheet(l.pile, at, l.sheet)
	if code != impl.OK {
		l.t.Fatalf("put into %d sheets: code %d", len(l.pile), code)
	}
	st, at = do(st, at)
	rest, s, code := impl.TakeSheet(st, at)
	l.pile = rest
	return l.become(s, code)
}

func (l *ledger) passDown() bool {
	return l.inPile(func(st impl.Stack, at int64) (impl.Stack, int64) {
		st, dyes, water, _ := impl.PassTimes(st, int64(1+l.r.Intn(impl.MaxGiven)), int64(l.r.Intn(4)))
		account(&l.gone, dyes)
		l.dried += water
		return st, at
	})
}

func (l *ledger) dryInStack() bool {
	return l.inPile(func(st impl.Stack, at int64) (impl.Stack, int64) {
		st, gone, _ := impl.DryStack(st, int64(1+l.r.Intn(20)))
		l.dried += gone
		return st, at
	})
}

func (l *ledger) turnInStack() bool {
	return l.inPile(func(st impl.Stack, at int64) (impl.Stack, int64) {
		st, _ = impl.TurnStack(st)
		return st, int64(len(st)) - 1 - at
	})
}

func (l *ledger) rinse() bool {
	share := int64(1 + l.r.Intn(impl.MaxGiven))
	baths, _ := impl.BathsFor(l.sheet, share, 1)
	s, dyes, code := impl.RinseOnce(l.sheet, share)
	off, _ := impl.DifferBy(l.sheet, s)
	l.expect("rinse", inkSum(dyes), off)
	l.expect("rinse", inkSum(baths[0]), off)
	account(&l.gone, dyes)
	return l.become(s, code)
}

func (l *ledger) rinseUntil() bool {
	_, dark, code := impl.DarkestCell(l.sheet)
	if code != impl.OK {
		return false
	}
	s, _, dyes, code := impl.RinseUntil(l.sheet, int64(1+l.r.Intn(impl.MaxGiven)), max(0, dark-int64(l.r.Intn(50))))
	account(&l.gone, dyes)
	return l.become(s, code)
}

// write reads the sheet and the pile from their texts; it tells that there was something to write.
func (l *ledger) write() bool {
	dark, _ := impl.DyedCells(l.sheet, 1)
	s, code := impl.ReadSheet(impl.SheetText(l.sheet))
	if l.become(s, code) || code != impl.OK {
		l.t.Fatalf("read another sheet: code %d", code)
	}
	pile, code := impl.ReadStack(impl.StackText(l.pile))
	if !impl.SameStack(pile, l.pile) || code != impl.OK {
		l.t.Fatalf("read another stack: code %d", code)
	}
	l.pile = pile
	return len(dark) > 0
}

// check fails the test if any ink or water has come out of nothing, or has been lost.
func (l *ledger) check(name string) {
	l.t.Helper()
	dyes, _ := impl.DyeIn(l.sheet)
	others, _ := impl.DyeIn(l.other)
	below, _ := impl.DyeOf(l.pile)
	account(&dyes, l.gone)
	account(&dyes, others)
	account(&dyes, below)
	for ink := range dyes {
		dyes[ink] += int64(l.brush.Dye[ink]) + int64(l.spare.Dye[ink])
	}
	water, _ := impl.WaterIn(l.sheet)
	beside, _ := impl.WaterIn(l.other)
	water += beside + l.dried + int64(l.brush.Water) + int64(l.spare.Water)
	for _, s := range l.pile {
		n, _ := impl.WaterIn(s)
		water += n
	}
	if dyes != l.came || water != l.poured {
		l.t.Fatalf("%s: %v and %d water, but %v and %d have come", name, dyes, water, l.came, l.poured)
	}
	if !impl.ValidSheet(l.sheet) || !impl.ValidSheet(l.other) || !impl.ValidStack(l.pile) || !impl.ValidBrush(l.brush) || !impl.ValidBrush(l.spare) {
		l.t.Fatalf("%s: not valid any more: %+v", name, l)
	}
}

// newLedger begins with sheets that are plain, or have ink, water and wax already, and with brushes that have neither.
func newLedger(t *testing.T, r *rand.Rand) *ledger {
	l := &ledger{t: t, r: r, brush: brush(1+r.Intn(16), 0), spare: brush(1+r.Intn(16), 0)}
	size := impl.Sheet{Wide: int8(1 + r.Intn(4)), High: int8(1 + r.Intn(4))}
	plain := r.Intn(2) == 0
	begin := func() impl.Sheet {
		s := size
		if !plain {
			s = sheetLike(r, size)
		}
		dyes, water := totals(s)
		account(&l.came, dyes)
		l.poured += water
		return s
	}
	l.sheet, l.other = begin(), begin()
	for range r.Intn(impl.MaxSheets) {
		l.pile = append(l.pile, begin())
	}
	return l
}

// TestP18AllStepsOnOneSheet makes steps of all chapters at random, and counts all ink and water behind each one.
func TestP18AllStepsOnOneSheet(t *testing.T) {
	r := rand.New(rand.NewSource(310))
	changed := map[string]int{}
	for range 200 {
		l := newLedger(t, r)
		for range 150 {
			s := inkSteps[r.Intn(len(inkSteps))]
			if s.do(l) {
				changed[s.name]++
			}
			l.check(s.name)
		}
	}
	for _, s := range inkSteps {
		if changed[s.name] < 50 {
			t.Errorf("%s has changed something only %d times", s.name, changed[s.name])
		}
	}
}

// TestP18EachStepAlone makes each kind of step alone, between drops.
func TestP18EachStepAlone(t *testing.T) {
	for i, s := range inkSteps {
		r := rand.New(rand.NewSource(int64(320 + i)))
		for range 20 {
			l := newLedger(t, r)
			for range 20 {
				l.drop()
				l.dip()
				l.check("drop and dip")
				s.do(l)
				l.check(s.name)
			}
		}
	}
}

// TestP18OneSheetByHand goes through all chapters on one sheet; all numbers have been worked out from the document.
func TestP18OneSheetByHand(t *testing.T) {
	is := func(name, want string, s impl.Sheet, told ...any) {
		t.Helper()
		same(t, name, list(impl.SheetText(s)+fmt.Sprint(told...)), list(want))
	}
	s, _ := impl.PlainSheet(2, 1)
	s, code := impl.DropInk(s, spot(0, 0), 0, 40, 8)
	is("dropped", "8:40,0,0 0:0,0,0\n0", s, code)
	s, given, code := impl.RunOnce(s)
	is("run once", "7:35,0,0 1:5,0,0\n1 0", s, given, code)
	s, rounds, code := impl.RunUntil(s)
	is("run until it is calm", "4:20,0,0 4:20,0,0\n3 0", s, rounds, code)
	s, dried, code := impl.DryStep(s)
	is("dried", "3:20,0,0 3:20,0,0\n2 0", s, dried, code)
	s, b, code := impl.TouchCell(s, brush(4, 16, 0, 32), spot(1, 0))
	is("touched", "3:20,0,0 7:20,8,0\n{[0 24 0] 12 4} 0", s, b, code)
	s, b, code = impl.LiftCell(s, b, spot(0, 0), 8)
	is("lifted", "3:10,0,0 7:20,8,0\n{[10 24 0] 12 4} 0", s, b, code)
	s, moved, code := impl.PressOnce(s, impl.Fold{Axis: 1, Press: 8})
	is("pressed", "5:15,4,0 5:15,4,0\n9 0", s, moved, code)
	other, _ := impl.PlainSheet(2, 1)
	s, other, gone, code := impl.BlotOnto(s, other, 8)
	is("blotted", "5:8,2,0 5:8,2,0\n0:7,2,0 0:7,2,0\n18 0", s, impl.SheetText(other), gone, code)
	st, table, water, code := impl.PassTimes(impl.Stack{s, other}, 8, 1)
	is("passed down", "3:4,1,0 3:4,1,0\n2:11,3,0 2:11,3,0\n[0 0 0] 0 0", st[0], impl.SheetText(st[1]), table, water, code)
	st, table, water, code = impl.PassDown(st, 8)
	is("passed down again", "2:2,1,0 2:2,1,0\n2:8,2,0 2:8,2,0\n[10 2 0] 2 0", st[0], impl.SheetText(st[1]), table, water, code)
	s, out, code := impl.RinseOnce(st[0], 8)
	is("rinsed", "2:1,0,0 2:1,0,0\n[2 2 0] 0", s, out, code)
	all := [3]int64{}
	for _, dyes := range [][3]int64{{2, 0, 0}, {16, 4, 0}, table, out, {10, 24, 0}} { // on both sheets, on the table, in the bath, in the brush
		account(&all, dyes)
	}
	same(t, "all together", list(all), list([3]int64{40, 32, 0}))
}
