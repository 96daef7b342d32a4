package tests

import (
	"fmt"
	"math/rand"
	"reflect"
	"regexp"
	"slices"
	"strings"
	"testing"

	"loop.example/g01360/impl"
)

// handMark writes the text of a mark in another way than the program, whether it has one or not.
func handMark(m impl.Mark) string {
	text := fmt.Sprintf("%c", 'a'+rune(m.Colour))
	for _, at := range m.Cells {
		text += fmt.Sprintf(" %d,%d", at.X, at.Y)
	}
	return text
}

var markForm = regexp.MustCompile(`^[abc]( [0-7],[0-7]){1,64}$`)

// checkMarkText fails the test if a text is not read as its form tells; it reports whether it is that of a mark.
func checkMarkText(t *testing.T, text string) bool {
	t.Helper()
	m, code := impl.ReadMark(text)
	if !markForm.MatchString(text) {
		if code != impl.ErrSyntax || !reflect.DeepEqual(m, impl.Mark{}) {
			t.Fatalf("%q: %v, code %d", text, m, code)
		}
		return false
	}
	want := impl.Mark{Colour: int8(text[0] - 'a')}
	for i := 1; i < len(text); i += len(" 0,0") {
		want.Cells = append(want.Cells, spot(int8(text[i+1]-'0'), int8(text[i+3]-'0')))
	}
	if code != impl.OK || !reflect.DeepEqual(m, want) || impl.MarkText(m) != text {
		t.Fatalf("%q: %v, code %d, want %v", text, m, code, want)
	}
	return true
}

// someMark returns a mark that is valid for a sheet, if this is, or one that is not quite.
func someMark(r *rand.Rand, s impl.Sheet) impl.Mark {
	if !impl.ValidSheet(s) {
		s = impl.Sheet{Wide: 8, High: 8}
	}
	m := impl.Mark{Colour: int8(r.Intn(3)), Cells: wildly(r, randomSet(r, s, oneOf(r, 1, 3, 9, 64)))}
	if r.Intn(4) > 0 {
		m.Cells = ordered(m.Cells)
	}
	switch r.Intn(20) {
	case 0:
		m.Colour = int8(oneOf(r, 3, -1, 127, -128))
	case 1:
		m.Cells = nil
	case 2:
		m.Cells = append(m.Cells, someSpot(r))
	}
	return m
}

func TestMarksAreRead(t *testing.T) {
	r := rand.New(rand.NewSource(250))
	none := 0
	for range 2000 {
		m := someMark(r, impl.Sheet{Wide: 8, High: 8})
		text := impl.MarkText(m)
		if !markForm.MatchString(handMark(m)) {
			same(t, handMark(m), list(text), list(""))
			none++
			continue
		}
		if back, code := impl.ReadMark(text); text != handMark(m) || !reflect.DeepEqual(back, m) || code != impl.OK {
			t.Fatalf("%v: %q, read as %v, code %d", m, text, back, code)
		}
	}
	if none < 50 || none > 1000 {
		t.Errorf("%d of 2000 marks had no text", none)
	}
}

func TestMarkTextsWithSomeBytesChanged(t *testing.T) {
	r := rand.New(rand.NewSource(251))
	read := 0
	for range 5000 {
		if checkMarkText(t, spoilt(r, handMark(someMark(r, randomSheet(r))))) {
			read++
		}
	}
	if read < 500 || read > 4500 {
		t.Errorf("%d of 5000 texts were read", read)
	}
}

// TestEachByteOfAMarkText leaves out, adds and changes each byte of a text in turn.
func TestEachByteOfAMarkText(t *testing.T) {
	for _, text := range []string{"a 0,0", "b 7,7 0,1", "c 1,0 0,0 1,0"} {
		for i := range len(text) + 1 {
			for b := range 256 {
				checkMarkText(t, text[:i]+string([]byte{byte(b)})+text[i:])
				if i < len(text) {
					checkMarkText(t, text[:i]+string([]byte{byte(b)})+text[i+1:])
				}
			}
			checkMarkText(t, text[:i])
			checkMarkText(t, text[i:])
			if i < len(text) {
				checkMarkText(t, text[:i]+text[i+1:])
			}
		}
	}
}

func TestTextsOfNoMark(t *testing.T) {
	for _, text := range []string{
		"", " ", "a", "a ", " a", "a  ", "0,0", " 0,0", "d 0,0", ". 0,0", "m 0,0", "w 0,0", "A 0,0", "aa 0,0", "ab 0,0", "0 0,0", "a0,0", "a,0,0",
		" a 0,0", "a  0,0", "a 0,0 ", "a 0,0  1,0", "a 0, 0", "a 0 ,0", "a 0 0", "a 0,0\n", "a 0,0\n1,0", "a\t0,0", "a 0,0\t1,0", "a\n0,0", "a 0,0\x00", "a\u00a00,0",
		"a 00,0", "a 0,00", "a 01,0", "a 0,07", "a +1,0", "a 0,+1", "a -1,0", "a 0,-1", "a -0,0", "a 0,-0", "a 8,0", "a 0,8", "a 9,9", "a 10,0", "a 0,256", "a 256,0", "a 65536,0", "a 18446744073709551616,0",
		"a ,", "a 0,", "a ,0", "a 0", "a 0,0,0", "a 0,0,", "a ,0,0", "a x,0", "a 0,x", "a 0x1,0", "a 1e0,0", "a 1_0,0", "a 0.0", "a 0;0", "a ٣,0", "a 0,0b 1,0", "a 0,0 b 1,0", "a 0,0 a",
		"a" + strings.Repeat(" 0,0", 65), "a" + strings.Repeat(" 0,0", 66), "b" + strings.Repeat(" 3,4", 1000), "c" + strings.Repeat(" 0,0", 64) + " ", "c" + strings.Repeat(" 0,0", 64) + " x",
	} {
		if markForm.MatchString(text) {
			t.Fatalf("%q is the text of a mark", text)
		}
		checkMarkText(t, text)
	}
}

func TestTextsOfMarks(t *testing.T) {
	s := impl.Sheet{Wide: 8, High: 8}
	full := impl.Mark{Colour: 2, Cells: places(s)}
	for text, m := range map[string]impl.Mark{
		"a 0,0 1,0":     {Colour: 0, Cells: []impl.Spot{spot(0, 0), spot(1, 0)}},
		"b 1,0 2,0":     {Colour: 1, Cells: []impl.Spot{spot(1, 0), spot(2, 0)}},
		"c 7,7":         {Colour: 2, Cells: []impl.Spot{spot(7, 7)}},
		"a 3,5":         {Colour: 0, Cells: []impl.Spot{spot(3, 5)}},
		handMark(full):  full,
		"b 2,0 1,0 0,7": {Colour: 1, Cells: []impl.Spot{spot(2, 0), spot(1, 0), spot(0, 7)}},
		// A cell twice makes a mark that is valid for no sheet; but it has a text, as told.
		"a 1,1 1,1":                      {Colour: 0, Cells: []impl.Spot{spot(1, 1), spot(1, 1)}},
		"a" + strings.Repeat(" 0,0", 64): {Colour: 0, Cells: slices.Repeat([]impl.Spot{spot(0, 0)}, 64)},
	} {
		back, code := impl.ReadMark(text)
		same(t, text, list(back, code, impl.MarkText(m)), list(m, 0, text))
	}
}

func TestMarksWithoutText(t *testing.T) {
	for name, m := range map[string]impl.Mark{
		"nothing":                    {},
		"no cells":                   {Colour: 1, Cells: []impl.Spot{}},
		"a colour too great":         {Colour: 3, Cells: []impl.Spot{{}}},
		"a colour less than 0":       {Colour: -1, Cells: []impl.Spot{{}}},
		"a colour far off":           {Colour: -128, Cells: []impl.Spot{{}}},
		"a cell too far east":        {Cells: []impl.Spot{spot(8, 0)}},
		"a cell too far south":       {Cells: []impl.Spot{{}, spot(0, 8)}},
		"X less than 0":              {Cells: []impl.Spot{spot(-1, 0), {}}},
		"Y less than 0":              {Cells: []impl.Spot{spot(0, -1)}},
		"a cell far off":             {Cells: []impl.Spot{spot(127, -128)}},
		"one cell more than 64":      {Cells: make([]impl.Spot, 65)},
		"a cell far off behind many": {Cells: append(make([]impl.Spot, 63), spot(0, 100))},
	} {
		same(t, name, list(impl.MarkText(m)), list(""))
	}
}
