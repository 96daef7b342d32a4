package tests

import (
	"fmt"
	"math/rand"
	"slices"
	"strings"
	"sync"
	"testing"

	"loop.example/g01360/impl"
)

// originCalls has all functions of chapter 6 that return a code, which is their last result.
var originCalls = []call{
	{"OriginsOf", func(in input) []any {
		l, c := impl.OriginsOf(in.a, in.cells, in.ink, in.amount, in.water)
		return list(l, c)
	}},
	{"LeastWater", func(in input) []any {
		n, c := impl.LeastWater(in.a, in.at, in.ink, in.amount, in.cells)
		return list(n, c)
	}},
	{"LeastDye", func(in input) []any {
		n, c := impl.LeastDye(in.a, in.at, in.ink, in.water, in.cells)
		return list(n, c)
	}},
	{"SpreadCells", func(in input) []any { l, c := impl.SpreadCells(in.a, in.cells); return list(l, c) }},
	{"SpreadSteps", func(in input) []any { l, c := impl.SpreadSteps(in.a, in.cells, in.steps); return list(l, c) }},
	{"InnerCells", func(in input) []any { l, c := impl.InnerCells(in.a, in.cells); return list(l, c) }},
	{"HasForerunner", func(in input) []any { b, c := impl.HasForerunner(in.a, in.cells); return list(b, c) }},
	{"Forerunners", func(in input) []any { l, c := impl.Forerunners(in.a, in.cells); return list(l, c) }},
	{"LeastForerunner", func(in input) []any { l, c := impl.LeastForerunner(in.a, in.cells); return list(l, c) }},
	{"LongestPast", func(in input) []any { n, c := impl.LongestPast(in.a, in.cells); return list(n, c) }},
	{"PaintMarks", func(in input) []any { l, c := impl.PaintMarks(in.a, in.marks, in.order); return list(l, c) }},
	{"OrderFor", func(in input) []any { l, c := impl.OrderFor(in.a, in.marks, in.picture); return list(l, c) }},
	{"CountOrders", func(in input) []any { n, c := impl.CountOrders(in.a, in.marks, in.picture); return list(n, c) }},
	{"SurelyBefore", func(in input) []any {
		b, c := impl.SurelyBefore(in.a, in.marks, in.picture, in.under, in.over)
		return list(b, c)
	}},
	{"ForgedMark", func(in input) []any { i, c := impl.ForgedMark(in.a, in.marks, in.picture); return list(i, c) }},
	{"ReadMark", func(in input) []any { m, c := impl.ReadMark(in.markText); return list(m, c) }},
}

// plainOriginCalls has the functions of chapter 6 without a code.
var plainOriginCalls = []call{
	{"ValidMarks", func(in input) []any { return list(impl.ValidMarks(in.a, in.marks)) }},
	{"MarkText", func(in input) []any { return list(impl.MarkText(in.mark)) }},
}

// withMarks has the functions that take marks, and return a code.
var withMarks = []string{"PaintMarks", "OrderFor", "CountOrders", "SurelyBefore", "ForgedMark"}

// someCells returns cells of a sheet, some of them several times, or what is not quite a set of them.
func someCells(r *rand.Rand, s impl.Sheet) []impl.Spot {
	if !impl.ValidSheet(s) {
		s = randomSheet(r)
	}
	cells := wildly(r, randomSet(r, s, oneOf(r, 1, 3, impl.MaxTarget, impl.MaxTarget+2)))
	switch r.Intn(10) {
	case 0:
		return append(cells, someSpot(r))
	case 1:
		return wildly(r, places(s))
	case 2:
		return nil
	}
	return cells
}

// someMarks returns marks of which most are valid for a sheet, if this is; there are seldom many, because of all their orders.
func someMarks(r *rand.Rand, s impl.Sheet) []impl.Mark {
	var marks []impl.Mark
	for range oneOf(r, 0, 1, 2, 2, 3, 3, 3, oneOf(r, 4, 5, 7, 100)) {
		marks = append(marks, someMark(r, s))
	}
	return marks
}

func someOrder(r *rand.Rand, marks int) []int64 {
	order := shuffled(r, marks)
	if len(order) > 0 && r.Intn(4) == 0 {
		order[r.Intn(len(order))] = someNumber(r, 0, int64(marks))
	}
	return order[:len(order)-r.Intn(min(len(order), 1)+1)*r.Intn(2)]
}

// somePicture returns a picture that marks may make, if they are valid for a sheet.
func somePicture(r *rand.Rand, s impl.Sheet, marks []impl.Mark) []string {
	if !impl.ValidMarks(s, marks) {
		return []string{"ab.", "w"}
	}
	return smudged(r, paintByHand(s, marks, shuffled(r, len(marks))))
}

// wholeMark returns a mark with the room behind its cells, which belongs to the caller as well.
func wholeMark(m impl.Mark) impl.Mark {
	m.Cells = m.Cells[:cap(m.Cells)]
	return m
}

func wholeMarks(marks []impl.Mark) []impl.Mark {
	marks = marks[:cap(marks)]
	for i := range marks {
		marks[i] = wholeMark(marks[i])
	}
	return marks
}

func cloneMark(m impl.Mark) impl.Mark {
	m = wholeMark(m)
	m.Cells = slices.Clone(m.Cells)
	return m
}

func cloneMarks(marks []impl.Mark) []impl.Mark {
	marks = slices.Clone(marks[:cap(marks)])
	for i := range marks {
		marks[i] = cloneMark(marks[i])
	}
	return marks
}

func TestP1InvalidMarksComeFirst(t *testing.T) {
	r := rand.New(rand.NewSource(13))
	for range 1000 {
		in := someInput(r)
		in.a = paperForMarks(r)
		in.marks = marksOn(r, in.a, 1+r.Intn(impl.MaxMarks))
		m := &in.marks[r.Intn(len(in.marks))]
		switch r.Intn(5) {
		case 0:
			m.Colour = int8(oneOf(r, -1, 3, 127, -128))
		case 1:
			m.Cells = oneOfLists(r, nil, append(m.Cells, m.Cells[0]), append(m.Cells, spot(in.a.Wide, 0)), append(m.Cells, spot(0, -1)))
		case 2:
			for len(in.marks) <= impl.MaxMarks {
				in.marks = append(in.marks, in.marks...)
			}
		case 3:
			in.a.Wax[m.Cells[0].Y] |= 1 << m.Cells[0].X
			in.a.Wet, in.a.Dye = impl.Sheet{}.Wet, impl.Sheet{}.Dye
		case 4:
			in.a = brokenSheet(r)
		}
		for _, c := range originCalls {
			if !slices.Contains(withMarks, c.name) {
				continue
			}
			if out := c.run(in); out[len(out)-1] != any(int64(impl.ErrInvalid)) {
				t.Fatalf("%s: got %v for marks that are not valid: %+v on %+v", c.name, out, in.marks, in.a)
			}
		}
		if impl.ValidMarks(in.a, in.marks) {
			t.Fatalf("%+v are valid on %+v", in.marks, in.a)
		}
	}
}

func oneOfLists(r *rand.Rand, lists ...[]impl.Spot) []impl.Spot { return lists[r.Intn(len(lists))] }

func TestP1HugeMarkTextsEnd(t *testing.T) {
	for _, unit := range []string{"a", "a ", "a 0,0", " 0,0", "0,0 ", " ", ",", "0", "\n", "\x00", "\xff"} {
		long := strings.Repeat(unit, 1000000/len(unit))
		for _, text := range []string{long, "a" + long, "a 0,0 " + long, "a 0," + long, "a " + long + ",0"} {
			if m, c := impl.ReadMark(text); len(m.Cells) > 0 || c != impl.ErrSyntax {
				t.Errorf("%d bytes of %q: %v, code %d", len(text), unit, m, c)
			}
		}
	}
}

func TestP1HugeSetsEnd(t *testing.T) {
	s := impl.Sheet{Wide: 2, High: 1}
	cells := make([]impl.Spot, 1000000)
	for i := range cells {
		cells[i].X = int8(i % 2)
	}
	in := input{a: s, cells: cells, amount: 2, water: 2, steps: 16}
	for name, want := range map[string]string{
		"OriginsOf": "[[{0 0} {1 0}] 0]", "LeastWater": "[2 0]", "LeastDye": "[2 0]", "SpreadCells": "[[{0 0} {1 0}] 0]", "SpreadSteps": "[[{0 0} {1 0}] 0]",
		"InnerCells": "[[{0 0} {1 0}] 0]", "HasForerunner": "[true 0]", "Forerunners": "[[[{0 0}] [{1 0}] [{0 0} {1 0}]] 0]", "LeastForerunner": "[[{0 0}] 0]", "LongestPast": "[16 0]",
	} {
		for _, c := range originCalls {
			if c.name == name {
				same(t, name, list(fmt.Sprint(c.run(in))), list(want))
			}
		}
	}
	cells[999999] = spot(0, 1)
	for _, c := range originCalls {
		if !slices.Contains(withMarks, c.name) && c.name != "ReadMark" {
			out := c.run(in)
			same(t, c.name, out[len(out)-1:], list(impl.ErrRange))
		}
	}
}

func TestP1HugeMarksEnd(t *testing.T) {
	s := impl.Sheet{Wide: 2, High: 1}
	many := impl.Mark{Cells: make([]impl.Spot, 1000000)}
	one := impl.Mark{Cells: many.Cells[:1]}
	same(t, "many cells", list(impl.ValidMarks(s, []impl.Mark{one, many}), impl.MarkText(many)), list(false, ""))
	marks := slices.Repeat([]impl.Mark{one}, 300000)
	in := input{a: s, marks: marks, order: make([]int64, 1000000), picture: make([]string, 1000000), over: 1}
	same(t, "many marks", list(impl.ValidMarks(s, marks)), list(false))
	for _, c := range originCalls {
		if slices.Contains(withMarks, c.name) {
			out := c.run(in)
			same(t, c.name, out[len(out)-1:], list(impl.ErrInvalid))
		}
	}
	in.marks = marks[:2]
	wants := map[string]int64{"PaintMarks": impl.ErrState, "OrderFor": impl.ErrNotFound, "CountOrders": impl.OK, "SurelyBefore": impl.ErrNotFound, "ForgedMark": impl.ErrNotFound}
	for _, picture := range [][]string{in.picture, {strings.Repeat("a", 1000000)}} {
		in.picture = picture
		for _, c := range originCalls {
			if slices.Contains(withMarks, c.name) {
				out := c.run(in)
				same(t, c.name, out[len(out)-1:], list(wants[c.name]))
			}
		}
	}
}

// TestP1SetsAndMarksAreNotKept changes lists behind a call, and those that were returned before another call.
func TestP1SetsAndMarksAreNotKept(t *testing.T) {
	r := rand.New(rand.NewSource(14))
	for range 200 {
		s := paperForMarks(r)
		marks := marksOn(r, s, r.Intn(4))
		order := shuffled(r, len(marks))
		picture, _ := impl.PaintMarks(s, marks, order)
		want := slices.Clone(picture)
		first, _ := impl.OrderFor(s, marks, picture)
		kept := slices.Clone(first)
		cells := randomSet(r, s, 9)
		all, code := impl.Forerunners(s, cells)
		text := fmt.Sprint(all, code)
		again, _ := impl.Forerunners(s, cells)
		scribble(list(again, cells, order))
		same(t, "forerunners", list(fmt.Sprint(all, code)), list(text))
		for _, m := range marks {
			back, _ := impl.ReadMark(impl.MarkText(m))
			scribble(list(m))
			same(t, "mark that was read", list(len(back.Cells) > 0 && slices.Contains(back.Cells, spot(-7, -7))), list(false))
		}
		same(t, "picture and order", list(picture, first), list(want, kept))
	}
}

// TestP1ForerunnersAtTheSameTime looks for the forerunners of one set from several goroutines, which must not be seen in any result.
func TestP1ForerunnersAtTheSameTime(t *testing.T) {
	r := rand.New(rand.NewSource(15))
	for range 40 {
		s := sheetLike(r, impl.Sheet{Wide: 6, High: 6})
		set := randomSet(r, s, 1+r.Intn(impl.MaxTarget))
		var group sync.WaitGroup
		results := make([]string, 16)
		for i := range results {
			group.Add(1)
			go func() {
				defer group.Done()
				all, one := impl.Forerunners(s, set)
				least, two := impl.LeastForerunner(s, set)
				results[i] = fmt.Sprint(all, one, least, two)
			}()
		}
		group.Wait()
		if kinds := slices.Compact(results); len(kinds) != 1 {
			t.Fatalf("%d results of %v on %+v", len(kinds), set, s)
		}
	}
}
