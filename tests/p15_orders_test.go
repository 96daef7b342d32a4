package tests

import (
	"fmt"
	"math"
	"math/rand"
	"slices"
	"strings"
	"testing"

	"loop.example/g01360/impl"
)

// ink keeps the tables of the tests short: a mark with the cells that are marked by "x" in rows.
func ink(colour int8, rows ...string) impl.Mark {
	return impl.Mark{Colour: colour, Cells: drawn(rows...)}
}

// paintByHand looks at each cell for the last one of the marks that has it.
func paintByHand(s impl.Sheet, marks []impl.Mark, order []int64) []string {
	rows := make([]string, s.High)
	for _, at := range places(s) {
		letter := "."
		if waxedAt(s, at) {
			letter = "w"
		}
		for i := len(order) - 1; i >= 0; i-- {
			if m := marks[order[i]]; slices.Contains(m.Cells, at) {
				letter = "abc"[m.Colour : m.Colour+1]
				break
			}
		}
		rows[at.Y] += letter
	}
	return rows
}

// allOrders returns all orders of so many marks, in the order of lists.
func allOrders(marks int) [][]int64 {
	orders := [][]int64{{}}
	for range marks {
		var longer [][]int64
		for _, order := range orders {
			for i := range int64(marks) {
				if !slices.Contains(order, i) {
					longer = append(longer, append(slices.Clone(order), i))
				}
			}
		}
		orders = longer
	}
	return orders
}

// makersByHand returns all orders in which marks make a picture.
func makersByHand(s impl.Sheet, marks []impl.Mark, picture []string) [][]int64 {
	return slices.DeleteFunc(allOrders(len(marks)), func(order []int64) bool {
		return !slices.Equal(paintByHand(s, marks, order), picture)
	})
}

// marksOn returns so many valid marks for a sheet that has a cell without wax; most of them lie upon each other.
func marksOn(r *rand.Rand, s impl.Sheet, count int) []impl.Mark {
	marks := []impl.Mark{}
	colours := oneOf(r, 1, 2, 3, 3)
	for range count {
		m := impl.Mark{Colour: int8(r.Intn(colours)), Cells: randomSet(r, s, oneOf(r, 1, 2, 5, 64))}
		r.Shuffle(len(m.Cells), func(i, j int) { m.Cells[i], m.Cells[j] = m.Cells[j], m.Cells[i] })
		marks = append(marks, m)
	}
	return marks
}

// paperForMarks returns a sheet that has a cell without wax; marks do not care for water and dye.
func paperForMarks(r *rand.Rand) impl.Sheet {
	for {
		s := randomSheet(r)
		if r.Intn(2) == 0 {
			s = impl.Sheet{Wide: int8(1 + r.Intn(3)), High: int8(1 + r.Intn(2))}
		}
		if _, some := unwaxedPlace(r, s); some {
			return s
		}
	}
}

// smudged returns a picture with one letter changed, or as it is.
func smudged(r *rand.Rand, picture []string) []string {
	rows := slices.Clone(picture)
	y := r.Intn(len(rows))
	if row := []byte(rows[y]); r.Intn(3) == 0 {
		row[r.Intn(len(row))] = "abc.w"[r.Intn(5)]
		rows[y] = string(row)
	}
	return rows
}

func shuffled(r *rand.Rand, marks int) []int64 {
	order := []int64{}
	for _, i := range r.Perm(marks) {
		order = append(order, int64(i))
	}
	return order
}

func TestP15PicturesOfManyMarks(t *testing.T) {
	r := rand.New(rand.NewSource(240))
	for range 1500 {
		s := paperForMarks(r)
		marks := marksOn(r, s, r.Intn(impl.MaxMarks+1))
		order := shuffled(r, len(marks))
		got, code := impl.PaintMarks(s, marks, order)
		if want := paintByHand(s, marks, order); !slices.Equal(got, want) || code != impl.OK {
			t.Fatalf("%v of %v on %+v: %q, code %d, want %q", order, marks, s, got, code, want)
		}
	}
}

// TestP15OrdersOfManyMarks asks for pictures that have been made, and for such with a letter changed.
func TestP15OrdersOfManyMarks(t *testing.T) {
	r := rand.New(rand.NewSource(241))
	counts := map[string]int{}
	for range 600 {
		s := paperForMarks(r)
		marks := marksOn(r, s, oneOf(r, 0, 1, 2, 3, 3, 4, 4, 5))
		picture := smudged(r, paintByHand(s, marks, shuffled(r, len(marks))))
		makers := makersByHand(s, marks, picture)
		checkOrders(t, s, marks, picture, makers)
		switch all := len(allOrders(len(marks))); {
		case len(makers) == 0:
			counts["none"]++
		case len(makers) == all && all > 1:
			counts["all"]++
		case len(makers) == 1:
			counts["one"]++
		default:
			counts["several"]++
		}
	}
	for _, kind := range []string{"none", "one", "several", "all"} {
		if counts[kind] < 30 {
			t.Errorf("only %v of the pictures", counts)
		}
	}
}

// checkOrders fails the test if the program does not tell what follows from all orders that make a picture.
func checkOrders(t *testing.T, s impl.Sheet, marks []impl.Mark, picture []string, makers [][]int64) {
	t.Helper()
	none := int64(impl.OK)
	var first []int64
	if len(makers) == 0 {
		none = impl.ErrNotFound
	} else {
		first = makers[0]
	}
	order, c1 := impl.OrderFor(s, marks, picture)
	count, c2 := impl.CountOrders(s, marks, picture)
	if !slices.Equal(order, first) || c1 != none || count != int64(len(makers)) || c2 != impl.OK {
		t.Fatalf("%v for %q on %+v: %v, code %d, want %v; %d orders, code %d, want %d", marks, picture, s, order, c1, first, count, c2, len(makers))
	}
	if made, code := impl.PaintMarks(s, marks, order); c1 == impl.OK && (!slices.Equal(made, picture) || code != impl.OK) {
		t.Fatalf("%v makes %q, code %d, not %q", order, made, code, picture)
	}
	for a := range int64(len(marks)) {
		for b := range int64(len(marks)) {
			late := slices.ContainsFunc(makers, func(order []int64) bool { return slices.Index(order, a) > slices.Index(order, b) })
			sure, code := impl.SurelyBefore(s, marks, picture, a, b)
			want := list(!late && none == impl.OK, none)
			if a == b {
				want = list(false, impl.ErrRange)
			}
			same(t, fmt.Sprint("surely ", a, " before ", b), list(sure, code), want)
		}
	}
	if t.Failed() {
		t.Fatalf("%v for %q on %+v", marks, picture, s)
	}
}

// TestP15ForgedMarks leaves out each mark in turn. Never would two of them do: a mark that is forged has a cell of its own with a
// wrong letter, or it could be made first of all; and this cell stays wrong if another mark is left out.
func TestP15ForgedMarks(t *testing.T) {
	r := rand.New(rand.NewSource(242))
	counts := map[string]int{}
	for range 600 {
		s := paperForMarks(r)
		marks := marksOn(r, s, 1+r.Intn(5))
		honest := slices.Clone(marks)
		for range r.Intn(3) {
			if len(honest) > 0 {
				i := r.Intn(len(honest))
				honest = slices.Delete(honest, i, i+1)
			}
		}
		picture := smudged(r, paintByHand(s, honest, shuffled(r, len(honest))))
		var want []int64 // all that would do
		for i := range marks {
			others := slices.Concat(marks[:i], marks[i+1:])
			if len(makersByHand(s, others, picture)) > 0 {
				want = append(want, int64(i))
			}
		}
		got, code := impl.ForgedMark(s, marks, picture)
		kind := "none"
		switch {
		case len(makersByHand(s, marks, picture)) > 0:
			kind = "true"
			same(t, "no mark is forged", list(got, code), list(0, impl.ErrState))
		case len(want) == 0:
			same(t, "no mark alone is forged", list(got, code), list(0, impl.ErrNotFound))
		default:
			kind = "one"
			same(t, "forged", list(got, code, len(want)), list(want[0], 0, 1))
		}
		if t.Failed() {
			t.Fatalf("%v for %q on %+v", marks, picture, s)
		}
		counts[kind]++
	}
	for _, kind := range []string{"true", "none", "one"} {
		if counts[kind] < 20 {
			t.Errorf("only %v of the pictures", counts)
		}
	}
}

// TestP15MostMarks has MaxMarks of which only one order makes the picture, all do, and a single one has to come before another.
func TestP15MostMarks(t *testing.T) {
	s := inked("0000000")
	chain := []impl.Mark{ink(0, ".....xx"), ink(1, "....xx"), ink(2, "...xx"), ink(0, "..xx"), ink(1, ".xx"), ink(2, "xx")}
	apart := []impl.Mark{ink(0, "x"), ink(1, ".x"), ink(2, "..x"), ink(0, "...x"), ink(1, "....x"), ink(2, ".....x")}
	for _, c := range []struct {
		name    string
		marks   []impl.Mark
		picture string
		order   string
		count   int64
	}{
		{"forward", chain, "ccbacba", "[0 1 2 3 4 5] 0", 1},
		{"backward", chain, "cbacbaa", "[5 4 3 2 1 0] 0", 1},
		{"apart", apart, "abcabc.", "[0 1 2 3 4 5] 0", 720},
		{"one letter other", apart, "abcabb.", "[] 6", 0},
	} {
		picture := []string{c.picture}
		order, code := impl.OrderFor(s, c.marks, picture)
		count, none := impl.CountOrders(s, c.marks, picture)
		same(t, c.name, list(fmt.Sprint(order, code), count, none), list(c.order, c.count, 0))
		checkOrders(t, s, c.marks, picture, makersByHand(s, c.marks, picture))
	}
	count, code := impl.CountOrders(s, append(slices.Clone(apart), ink(0, "x")), []string{"abcabc."})
	same(t, "one mark more", list(count, code), list(0, impl.ErrInvalid))
}

func TestP15SmallPictures(t *testing.T) {
	s := inked("00w", "000")
	both := []impl.Mark{ink(0, "xx"), ink(1, ".x.", ".x.")}
	for _, c := range []struct {
		name    string
		marks   []impl.Mark
		picture []string
		order   string
		count   int64
		forged  string
	}{
		{"in this order", both, []string{"abw", ".b."}, "[0 1] 0", 1, "0 4"},
		{"in the other one", both, []string{"aaw", ".b."}, "[1 0] 0", 1, "0 4"},
		{"without the first one", both, []string{".bw", ".b."}, "[] 6", 0, "0 0"},
		{"without the second one", both, []string{"aaw", "..."}, "[] 6", 0, "1 0"},
		{"without both", both, []string{"..w", "..."}, "[] 6", 0, "0 6"},
		{"without marks", nil, []string{"..w", "..."}, "[] 0", 1, "0 4"},
		{"without marks, but with a letter", nil, []string{"a.w", "..."}, "[] 6", 0, "0 6"},
		{"no wax", both, []string{"ab.", ".b."}, "[] 6", 0, "0 6"},
		{"more wax", both, []string{"abw", ".bw"}, "[] 6", 0, "0 6"},
		{"a row too few", both, []string{"abw"}, "[] 6", 0, "0 6"},
		{"a row too many", both, []string{"abw", ".b.", "..."}, "[] 6", 0, "0 6"},
		{"an empty row too many", both, []string{"abw", ".b.", ""}, "[] 6", 0, "0 6"},
		{"no rows", both, nil, "[] 6", 0, "0 6"},
		{"no rows and no marks", nil, nil, "[] 6", 0, "0 6"},
		{"a letter too few", both, []string{"abw", ".b"}, "[] 6", 0, "0 6"},
		{"a letter too many", both, []string{"abw", ".b.."}, "[] 6", 0, "0 6"},
		{"a newline", both, []string{"abw\n", ".b.\n"}, "[] 6", 0, "0 6"},
		{"all in one string", both, []string{"abw\n.b.\n"}, "[] 6", 0, "0 6"},
		{"rows that are exchanged", both, []string{".b.", "abw"}, "[] 6", 0, "0 6"},
		{"a great letter", both, []string{"aBw", ".b."}, "[] 6", 0, "0 6"},
		{"a blank", both, []string{"abw", " b "}, "[] 6", 0, "0 6"},
		{"a letter beyond c", both, []string{"adw", ".b."}, "[] 6", 0, "0 6"},
		{"the colour 3", both, []string{"amw", ".m."}, "[] 6", 0, "0 6"},
		{"a byte that is no letter", both, []string{"a\x00w", ".b."}, "[] 6", 0, "0 6"},
		{"the same twice", []impl.Mark{ink(2, "xx"), ink(2, "xx")}, []string{"ccw", "..."}, "[0 1] 0", 2, "0 4"},
		{"the same twice, and one forged", []impl.Mark{ink(2, "xx"), ink(0, "", "x"), ink(2, "xx")}, []string{"ccw", "..."}, "[] 6", 0, "1 0"},
		{"several would do", []impl.Mark{ink(1, "xx"), ink(0, ".x"), ink(2, ".x")}, []string{"bbw", "..."}, "[1 2 0] 0", 2, "0 4"},
		{"each one would do", []impl.Mark{ink(0, "x"), ink(0, ".x"), ink(0, "xx")}, []string{"aaw", "..."}, "[0 1 2] 0", 6, "0 4"},
		{"the second or the third one", []impl.Mark{ink(1, "xx"), ink(0, ".x", ".x"), ink(2, ".x", "x")}, []string{"bbw", ".a."}, "[] 6", 0, "2 0"},
		{"covered wholly", []impl.Mark{ink(0, "xx", "xxx"), ink(1, "x")}, []string{"aaw", "aaa"}, "[1 0] 0", 1, "0 4"},
	} {
		order, code := impl.OrderFor(s, c.marks, c.picture)
		count, none := impl.CountOrders(s, c.marks, c.picture)
		forged, why := impl.ForgedMark(s, c.marks, c.picture)
		same(t, c.name, list(fmt.Sprint(order, code), count, none, fmt.Sprint(forged, why)), list(c.order, c.count, 0, c.forged))
		checkOrders(t, s, c.marks, c.picture, makersByHand(s, c.marks, c.picture))
	}
}

func TestP15OrdersThatAreNone(t *testing.T) {
	s := inked("000")
	marks := []impl.Mark{ink(0, "xx"), ink(1, ".xx"), ink(2, "x")}
	for _, order := range [][]int64{
		nil, {0}, {0, 1}, {0, 1, 2, 0}, {0, 1, 2, 3}, {0, 0, 1}, {1, 1, 1}, {2, 2, 0}, {0, 1, 3}, {1, 2, 3}, {-1, 0, 1}, {0, 1, -1},
		{0, 1, math.MaxInt64}, {math.MinInt64, 0, 1}, {256, 1, 2}, {1 << 32, 1, 2}, {0, 1, 2, 0, 1, 2},
	} {
		picture, code := impl.PaintMarks(s, marks, order)
		same(t, fmt.Sprint(order), list(len(picture), code), list(0, impl.ErrState))
	}
	for order, want := range map[[3]int64]string{{0, 1, 2}: "cbb", {0, 2, 1}: "cbb", {1, 0, 2}: "cab", {1, 2, 0}: "aab", {2, 0, 1}: "abb", {2, 1, 0}: "aab"} {
		picture, code := impl.PaintMarks(s, marks, order[:])
		same(t, fmt.Sprint(order), list(picture, code), list([]string{want}, 0))
	}
	picture, code := impl.PaintMarks(inked("0w", "w0"), nil, nil)
	same(t, "no marks", list(picture, code), list([]string{".w", "w."}, 0))
	picture, code = impl.PaintMarks(s, nil, []int64{0})
	same(t, "no marks, but an order", list(len(picture), code), list(0, impl.ErrState))
}

func TestP15CodesOfMarks(t *testing.T) {
	s := inked("00w", "000")
	bad := s
	bad.Dye[0][2][1] = 1
	good := []impl.Mark{ink(0, "x"), ink(1, ".x")}
	fine, other := []string{"abw", "..."}, []string{"bbw"}
	waxed := []impl.Mark{ink(0, "..x")}
	for _, c := range []struct {
		name    string
		s       impl.Sheet
		marks   []impl.Mark
		order   []int64
		picture []string
		a, b    int64
		want    [5]int64 // PaintMarks, OrderFor, CountOrders, SurelyBefore, ForgedMark
	}{
		{"fine", s, good, []int64{0, 1}, fine, 0, 1, [5]int64{0, 0, 0, 0, 4}},
		{"fine, the other way", s, good, []int64{1, 0}, fine, 1, 0, [5]int64{0, 0, 0, 0, 4}},
		{"another picture, and no order", s, good, []int64{1}, other, 1, 0, [5]int64{4, 6, 0, 6, 6}},
		{"the same mark", s, good, []int64{0, 1}, fine, 1, 1, [5]int64{0, 0, 0, 2, 4}},
		{"the same mark, and another picture", s, good, []int64{0, 1}, other, 1, 1, [5]int64{0, 6, 0, 2, 6}},
		{"an index too great", s, good, []int64{0, 1}, other, 0, 2, [5]int64{0, 6, 0, 2, 6}},
		{"the first index too great", s, good, []int64{0, 1}, fine, 2, 0, [5]int64{0, 0, 0, 2, 4}},
		{"an index less than 0", s, good, []int64{0, 1}, other, -1, 0, [5]int64{0, 6, 0, 2, 6}},
		{"the second index less than 0", s, good, []int64{0, 1}, fine, 0, -1, [5]int64{0, 0, 0, 2, 4}},
		{"no marks", s, nil, nil, fine, 0, 1, [5]int64{0, 6, 0, 2, 6}},
		{"waxed, and no order", s, waxed, []int64{5}, other, 0, 0, [5]int64{1, 1, 1, 1, 1}},
		{"sheet that is not valid", bad, good, []int64{0}, other, 7, 7, [5]int64{1, 1, 1, 1, 1}},
		{"sheet that is not valid, without marks", bad, nil, nil, fine, 0, 1, [5]int64{1, 1, 1, 1, 1}},
	} {
		var got [5]int64
		_, got[0] = impl.PaintMarks(c.s, c.marks, c.order)
		_, got[1] = impl.OrderFor(c.s, c.marks, c.picture)
		_, got[2] = impl.CountOrders(c.s, c.marks, c.picture)
		_, got[3] = impl.SurelyBefore(c.s, c.marks, c.picture, c.a, c.b)
		_, got[4] = impl.ForgedMark(c.s, c.marks, c.picture)
		if got != c.want {
			t.Errorf("%s: codes %v, want %v", c.name, got, c.want)
		}
	}
	for _, n := range wild {
		_, c1 := impl.SurelyBefore(s, good, fine, n, 0)
		_, c2 := impl.SurelyBefore(s, good, fine, 0, n)
		_, c3 := impl.SurelyBefore(s, good, fine, n, n)
		same(t, "wild", list(n, c1, c2, c3), list(n, 2, 2, 2))
	}
}

func TestP15ValidMarks(t *testing.T) {
	s := inked("00w", "000")
	bad := s
	bad.High = 9
	whole := impl.Sheet{Wide: 8, High: 8}
	full := strings.Split(strings.Repeat("xxxxxxxx ", 8), " ")
	six := slices.Repeat([]impl.Mark{ink(0, "x")}, 6)
	twice := ink(0, "xx", "xxx")
	twice.Cells = append(twice.Cells, spot(1, 0))
	tooMany := ink(2, full...)
	tooMany.Cells = append(tooMany.Cells, spot(0, 0))
	for _, c := range []struct {
		name  string
		s     impl.Sheet
		marks []impl.Mark
		want  bool
	}{
		{"no marks", s, nil, true},
		{"one mark", s, []impl.Mark{ink(0, "x")}, true},
		{"most marks", s, six, true},
		{"one mark more", s, append(slices.Clone(six), ink(0, "x")), false},
		{"most cells", whole, []impl.Mark{ink(2, full...)}, true},
		{"one cell more", whole, []impl.Mark{tooMany}, false},
		{"no cells", s, []impl.Mark{ink(0)}, false},
		{"no cells, behind others", s, []impl.Mark{ink(0, "x"), ink(1)}, false},
		{"a cell twice", s, []impl.Mark{twice}, false},
		{"a cell twice, side by side", s, []impl.Mark{{Cells: []impl.Spot{spot(1, 1), spot(1, 1)}}}, false},
		{"the same cells in two marks", s, []impl.Mark{ink(0, "xx"), ink(0, "xx")}, true},
		{"any order", s, []impl.Mark{{Cells: []impl.Spot{spot(2, 1), spot(0, 0), spot(1, 1)}}}, true},
		{"a waxed cell", s, []impl.Mark{ink(1, ".xx")}, false},
		{"a cell outside", s, []impl.Mark{ink(1, "x", "", "x")}, false},
		{"a cell far outside", s, []impl.Mark{{Cells: []impl.Spot{spot(-128, 127)}}}, false},
		{"a cell less than 0", s, []impl.Mark{{Cells: []impl.Spot{spot(0, -1)}}}, false},
		{"the last colour", s, []impl.Mark{ink(2, "x")}, true},
		{"a colour too great", s, []impl.Mark{ink(3, "x")}, false},
		{"a colour less than 0", s, []impl.Mark{ink(-1, "x")}, false},
		{"a colour far off", s, []impl.Mark{ink(127, "x"), ink(-128, "x")}, false},
		{"a wet sheet", paper(t, "9:9,9,9 0:0,0,0"), []impl.Mark{ink(0, "xx")}, true},
		{"sheet that is not valid", bad, []impl.Mark{ink(0, "x")}, false},
		{"sheet that is not valid, without marks", bad, nil, false},
	} {
		if got := impl.ValidMarks(c.s, c.marks); got != c.want {
			t.Errorf("%s: %v", c.name, got)
		}
		_, code := impl.CountOrders(c.s, c.marks, nil)
		if (code == impl.OK) != c.want || (code == impl.ErrInvalid) == c.want {
			t.Errorf("%s: code %d", c.name, code)
		}
	}
}
