package tests

import (
	"fmt"
	"math"
	"math/rand"
	"reflect"
	"strings"
	"testing"

	"loop.example/g01360/impl"
)

// spot keeps the tables of the tests short.
func spot(x, y int8) impl.Spot { return impl.Spot{X: x, Y: y} }

// paper builds a sheet from rows of words by hand, so that tests of other functions do not depend on ReadSheet.
// It takes numbers beyond their limits as well.
func paper(t testing.TB, rows ...string) impl.Sheet {
	t.Helper()
	s := impl.Sheet{High: int8(len(rows))}
	for y, row := range rows {
		words := strings.Fields(row)
		s.Wide = int8(len(words))
		for x, word := range words {
			if word == "w" {
				s.Wax[y] += 1 << x
				continue
			}
			d := &s.Dye[y][x]
			if n, err := fmt.Sscanf(word, "%d:%d,%d,%d", &s.Wet[y][x], &d[0], &d[1], &d[2]); n != 4 || err != nil {
				t.Fatalf("paper: %q is no word of a sheet", word)
			}
		}
	}
	return s
}

// inked builds a sheet from rows of digits, each one the dye of a cell, with the inks in turn; "w" is wax.
func inked(rows ...string) impl.Sheet {
	s := impl.Sheet{Wide: int8(len(rows[0])), High: int8(len(rows))}
	for y, row := range rows {
		for x, c := range []byte(row) {
			if c == 'w' {
				s.Wax[y] += 1 << x
			} else {
				s.Dye[y][x][(x+y)%3] = int16(c - '0')
			}
		}
	}
	return s
}

// randomSheet returns a valid sheet; few of its numbers are at their limits, some of its cells are waxed.
func randomSheet(r *rand.Rand) impl.Sheet {
	return sheetLike(r, impl.Sheet{Wide: int8(1 + r.Intn(impl.Side)), High: int8(1 + r.Intn(impl.Side))})
}

// sheetLike returns such a sheet with the size of another one.
func sheetLike(r *rand.Rand, size impl.Sheet) impl.Sheet {
	s := impl.Sheet{Wide: size.Wide, High: size.High}
	most := []int{1, 2, 9, 300, impl.MaxDye}[r.Intn(5)]
	bare := r.Intn(4)
	for y := 0; y < int(s.High); y++ {
		for x := 0; x < int(s.Wide); x++ {
			if r.Intn(7) == 0 {
				s.Wax[y] += 1 << x
				continue
			}
			s.Wet[y][x] = int16(oneOf(r, 0, 0, r.Intn(impl.MaxWet+1), impl.MaxWet))
			for ink := range s.Dye[y][x] {
				if r.Intn(4) >= bare {
					s.Dye[y][x][ink] = int16(r.Intn(most + 1))
				}
			}
		}
	}
	return s
}

// brokenSheet returns a sheet that is not valid, in one of the ways that the chapter names.
func brokenSheet(r *rand.Rand) impl.Sheet {
	s := randomSheet(r)
	x, y := r.Intn(int(s.Wide)), r.Intn(int(s.High))
	switch r.Intn(6) {
	case 0:
		s.Wide = int8(oneOf(r, 0, -1, 9, 127, -128))
	case 1:
		s.High = int8(oneOf(r, 0, -1, 9, 127, -128))
	case 2:
		s.Wet[y][x] = int16(oneOf(r, -1, impl.MaxWet+1, math.MaxInt16, math.MinInt16))
	case 3:
		s.Dye[y][x][r.Intn(3)] = int16(oneOf(r, -1, impl.MaxDye+1, math.MaxInt16, math.MinInt16))
	case 4:
		s.Wet[y][x], s.Wax[y] = 1, s.Wax[y]|1<<x
	case 5:
		s.Dye[y][x][r.Intn(3)], s.Wax[y] = 1, s.Wax[y]|1<<x
	}
	return s
}

// waxOf returns a sheet with the wax of s alone.
func waxOf(s impl.Sheet) impl.Sheet { return impl.Sheet{Wide: s.Wide, High: s.High, Wax: s.Wax} }

// pools builds a sheet from rows of words, each one the water of a cell; "w" is wax.
func pools(t testing.TB, rows ...string) impl.Sheet {
	t.Helper()
	var full []string
	for _, row := range rows {
		words := strings.Fields(row)
		for i, word := range words {
			if word != "w" {
				words[i] = word + ":0,0,0"
			}
		}
		full = append(full, strings.Join(words, " "))
	}
	return paper(t, full...)
}

// waters returns the water of a sheet as pools takes it, a row behind the other.
func waters(s impl.Sheet) string {
	var words []string
	for _, at := range places(s) {
		word := fmt.Sprint(s.Wet[at.Y][at.X])
		if waxedAt(s, at) {
			word = "w"
		}
		words = append(words, word)
	}
	return strings.Join(words, " ")
}

// pile builds a stack of sheets of one row each, from the top one down.
func pile(t testing.TB, rows ...string) impl.Stack {
	t.Helper()
	var st impl.Stack
	for _, row := range rows {
		st = append(st, paper(t, row))
	}
	return st
}

// randomStack returns a valid stack with 0 to MaxSheets sheets.
func randomStack(r *rand.Rand) impl.Stack { return stackOf(r, r.Intn(impl.MaxSheets+1)) }

// stackOf returns a list of so many valid sheets with the same size.
func stackOf(r *rand.Rand, sheets int) impl.Stack {
	st, size := impl.Stack{}, randomSheet(r)
	for range sheets {
		st = append(st, sheetLike(r, size))
	}
	return st
}

// brokenStack returns a stack that is not valid, in one of the ways that the chapter names.
func brokenStack(r *rand.Rand) impl.Stack {
	st := stackOf(r, 2+r.Intn(impl.MaxSheets-1))
	at := r.Intn(len(st))
	switch r.Intn(3) {
	case 0:
		for len(st) <= impl.MaxSheets {
			st = append(st, st...)
		}
	case 1:
		st[at] = brokenSheet(r)
	case 2:
		for was := st[at]; st[at].Wide == was.Wide && st[at].High == was.High; {
			st[at] = randomSheet(r)
		}
	}
	return st
}

// brush keeps the tables of the tests short: a share, water, and the dyes of the first inks.
func brush(share, water int, dyes ...int) impl.Brush {
	b := impl.Brush{Share: int8(share), Water: int16(water)}
	for ink, dye := range dyes {
		b.Dye[ink] = int16(dye)
	}
	return b
}

// randomBrush returns a valid brush; some are full, some have no load, and some nothing at all.
func randomBrush(r *rand.Rand) impl.Brush {
	b := brush(oneOf(r, 1, impl.MostShare, 1+r.Intn(impl.MostShare)), oneOf(r, 0, r.Intn(20), r.Intn(impl.MaxWet+1), impl.MaxWet))
	room := oneOf(r, 0, 3, 40, impl.MaxLoad, impl.MaxLoad)
	for _, ink := range r.Perm(3) {
		dye := oneOf(r, 0, r.Intn(room+1), room)
		b.Dye[ink] = int16(dye)
		room -= dye
	}
	return b
}

// brokenBrush returns a brush that is not valid, in one of the ways that the chapter names.
func brokenBrush(r *rand.Rand) impl.Brush {
	b := randomBrush(r)
	switch r.Intn(4) {
	case 0:
		b.Dye[r.Intn(3)] = int16(oneOf(r, -1, impl.MaxLoad+1, math.MaxInt16, math.MinInt16))
	case 1:
		b.Dye = [3]int16{300, 301, 300}
	case 2:
		b.Water = int16(oneOf(r, -1, impl.MaxWet+1, math.MaxInt16, math.MinInt16))
	case 3:
		b.Share = int8(oneOf(r, 0, -1, impl.MostShare+1, math.MaxInt8, math.MinInt8))
	}
	return b
}

// walk builds the path with a text by hand, so that tests of other functions do not depend on ReadPath.
// It goes beyond sheets as well, and stands still at a dot.
func walk(x, y int8, letters string) []impl.Spot {
	path := []impl.Spot{spot(x, y)}
	for _, letter := range letters {
		switch letter {
		case 'n':
			y--
		case 'e':
			x++
		case 's':
			y++
		case 'w':
			x--
		}
		path = append(path, spot(x, y))
	}
	return path
}

// randomPath returns a valid path of a sheet, most of which are short; waxed cells may be on it.
func randomPath(r *rand.Rand, s impl.Sheet) []impl.Spot {
	bare := impl.Sheet{Wide: s.Wide, High: s.High}
	cells := places(s)
	at := cells[r.Intn(len(cells))]
	path := []impl.Spot{at}
	for range oneOf(r, r.Intn(6), r.Intn(impl.MaxPath), impl.MaxPath-1) {
		next := besides(bare, at)
		if len(next) == 0 {
			break
		}
		at = next[r.Intn(len(next))]
		path = append(path, at)
	}
	return path
}

// besides returns the neighbours of a cell by hand, in their order.
func besides(s impl.Sheet, at impl.Spot) []impl.Spot {
	var list []impl.Spot
	for _, step := range [][2]int{{0, -1}, {1, 0}, {0, 1}, {-1, 0}} {
		x, y := int(at.X)+step[0], int(at.Y)+step[1]
		if x < 0 || y < 0 || x >= int(s.Wide) || y >= int(s.High) {
			continue
		}
		if next := spot(int8(x), int8(y)); !waxedAt(s, next) {
			list = append(list, next)
		}
	}
	return list
}

func oneOf(r *rand.Rand, list ...int) int { return list[r.Intn(len(list))] }

// places returns the spots of all cells of a sheet, ordered.
func places(s impl.Sheet) []impl.Spot {
	var list []impl.Spot
	for y := int8(0); y < s.High; y++ {
		for x := int8(0); x < s.Wide; x++ {
			list = append(list, spot(x, y))
		}
	}
	return list
}

func waxedAt(s impl.Sheet, at impl.Spot) bool { return s.Wax[at.Y]&(1<<at.X) != 0 }

func darkOf(s impl.Sheet, at impl.Spot) int64 {
	d := s.Dye[at.Y][at.X]
	return int64(d[0]) + int64(d[1]) + int64(d[2])
}

func totals(s impl.Sheet) (dye [3]int64, water int64) {
	for y := range s.Wet {
		for x := range s.Wet[y] {
			water += int64(s.Wet[y][x])
			for ink := range dye {
				dye[ink] += int64(s.Dye[y][x][ink])
			}
		}
	}
	return dye, water
}

// same fails the test if two lists of results differ; nil slices and empty ones are alike.
func same(t *testing.T, name string, got, want []any) {
	t.Helper()
	if g, w := fmt.Sprintf("%v", got), fmt.Sprintf("%v", want); g != w {
		t.Errorf("%s: got %s, want %s", name, g, w)
	}
}

func list(v ...any) []any { return v }

// empty reports whether a result is its zero value, or a slice without elements.
func empty(v any) bool {
	r := reflect.ValueOf(v)
	return !r.IsValid() || r.IsZero() || r.Kind() == reflect.Slice && r.Len() == 0
}
