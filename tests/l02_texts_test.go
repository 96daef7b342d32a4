package tests

import (
	"math"
	"math/rand"
	"regexp"
	"strconv"
	"strings"
	"testing"

	"loop.example/g01360/impl"
)

// someRings returns rings, mostly those of a sheet of this size, with some numbers changed.
func someRings(r *rand.Rand, s impl.Sheet) impl.Rings {
	rings := blankRings()
	for y := range rings {
		for x := range rings[y] {
			if x < int(s.Wide) && y < int(s.High) {
				rings[y][x] = int16(oneOf(r, -1, 0, impl.MaxRounds, r.Intn(impl.MaxRounds), r.Intn(20)))
			}
		}
	}
	if r.Intn(3) == 0 {
		rings[r.Intn(8)][r.Intn(8)] = int16(oneOf(r, -2, -1, 0, 1, impl.MaxRounds+1, math.MaxInt16, math.MinInt16))
	}
	return rings
}

func blankRings() impl.Rings {
	rings := impl.Rings{}
	for y := range rings {
		for x := range rings[y] {
			rings[y][x] = -1
		}
	}
	return rings
}

// handRings writes the text of rings in another way than the program; sizes beyond their limits are cut.
func handRings(s impl.Sheet, rings impl.Rings) string {
	text := ""
	for y := range min(int(s.High), 8) {
		for x := range min(int(s.Wide), 8) {
			if x > 0 {
				text += " "
			}
			if rings[y][x] == -1 {
				text += "-"
			} else {
				text += strconv.FormatInt(int64(rings[y][x]), 10)
			}
		}
		text += "\n"
	}
	return text
}

func someRingsText(r *rand.Rand, s impl.Sheet) string {
	return spoilt(r, handRings(s, someRings(r, s))+"-")
}

var ringForm = regexp.MustCompile(`^(-|0|[1-9][0-9]{0,2})$`)

// isRingsText tells by the form of a text whether it is one of rings of a sheet.
func isRingsText(s impl.Sheet, text string) bool {
	lines := strings.SplitAfter(text, "\n")
	if len(lines) != int(s.High)+1 || lines[s.High] != "" {
		return false
	}
	for _, line := range lines[:s.High] {
		words := strings.Split(strings.TrimSuffix(line, "\n"), " ")
		if len(words) != int(s.Wide) {
			return false
		}
		for _, word := range words {
			if n, _ := strconv.Atoi(word); !ringForm.MatchString(word) || n > 500 {
				return false
			}
		}
	}
	return true
}

// areRings tells by hand whether rings have a text for a valid sheet.
func areRings(s impl.Sheet, rings impl.Rings) bool {
	for y := range rings {
		for x := range rings[y] {
			most := int16(-1)
			if x < int(s.Wide) && y < int(s.High) {
				most = 500
			}
			if rings[y][x] < -1 || rings[y][x] > most {
				return false
			}
		}
	}
	return true
}

func TestRingsAreRead(t *testing.T) {
	r := rand.New(rand.NewSource(82))
	none := 0
	for range 2000 {
		s := randomSheet(r)
		rings := someRings(r, s)
		if r.Intn(3) == 0 {
			rings, _ = impl.RingsOf(s)
		}
		text := impl.RingsText(s, rings)
		if !areRings(s, rings) {
			none++
			same(t, "no text", list(text), list(""))
			continue
		}
		if want := handRings(s, rings); text != want {
			t.Fatalf("got %q, want %q", text, want)
		}
		back, code := impl.ReadRings(s, text)
		if back != rings || code != impl.OK {
			t.Fatalf("%q: got %v, code %d", text, back, code)
		}
	}
	if none < 100 {
		t.Errorf("only %d of 2000 rings had no text", none)
	}
}

// TestRingsWithOneNumberChanged puts one number into each place of rings of a sheet with wax.
func TestRingsWithOneNumberChanged(t *testing.T) {
	s := pools(t, "1 w 0 5 w", "0 0 w w 2", "3 3 3 3 3")
	base, _ := impl.RingsOf(s)
	for y := range 8 {
		for x := range 8 {
			for _, n := range []int16{-1, 0, 1, 499, 500, -2, -500, 501, math.MaxInt16, math.MinInt16} {
				rings, want := base, ""
				rings[y][x] = n
				if areRings(s, rings) {
					want = handRings(s, rings)
				}
				if got := impl.RingsText(s, rings); got != want {
					t.Errorf("%d at %d, %d: got %q, want %q", n, x, y, got, want)
				}
			}
		}
	}
}

func checkRingsText(t *testing.T, s impl.Sheet, text string) bool {
	t.Helper()
	rings, code := impl.ReadRings(s, text)
	if !isRingsText(s, text) {
		if code != impl.ErrSyntax || rings != (impl.Rings{}) {
			t.Fatalf("%q: %v, code %d", text, rings, code)
		}
		return false
	}
	if code != impl.OK || !areRings(s, rings) || handRings(s, rings) != text {
		t.Fatalf("%q: %v, code %d", text, rings, code)
	}
	return true
}

func TestRingsTextsWithSomeBytesChanged(t *testing.T) {
	r := rand.New(rand.NewSource(83))
	read := 0
	for range 20000 {
		s := randomSheet(r)
		rings, _ := impl.RingsOf(s)
		if checkRingsText(t, s, spoilt(r, handRings(s, rings))) {
			read++
		}
	}
	if read < 1000 || read > 19000 {
		t.Errorf("%d of 20000 texts were read", read)
	}
}

// TestEachByteOfARingsText leaves out, adds and changes each byte of a text in turn.
func TestEachByteOfARingsText(t *testing.T) {
	s := pools(t, "0 w 1", "2 0 w")
	text := "0 - 10\n50 499 9\n"
	for i := range len(text) + 1 {
		for b := range 256 {
			checkRingsText(t, s, text[:i]+string([]byte{byte(b)})+text[i:])
			if i < len(text) {
				checkRingsText(t, s, text[:i]+string([]byte{byte(b)})+text[i+1:])
			}
		}
		if i < len(text) {
			checkRingsText(t, s, text[:i]+text[i+1:])
		}
	}
}

func TestTextsOfNoRings(t *testing.T) {
	s := pools(t, "0 w", "5 0")
	for _, text := range []string{
		"", "\n", "\n\n", "0 0", "0 0\n", "0 0\n0 0", "0 0\n0 0\n\n", "\n0 0\n0 0\n", "0 0\n\n0 0\n", "0 0\n0 0\n0 0\n", "0 0\n0 0\n0",
		"0\n0\n", "0 0\n0\n", "0\n0 0\n", "0 0 0\n0 0 0\n", "0 0 0\n0 0\n", "0 0\n0 0 0\n", "0 0 0 0\n", "0\n0\n0\n0\n",
		"00 0\n0 0\n", "0 01\n0 0\n", "0 0\n007 0\n", "0 0\n0 0500\n", "0 0\n0 000\n",
		"+0 0\n0 0\n", "+1 0\n0 0\n", "-1 0\n0 0\n", "-0 0\n0 0\n", "0 0\n0 -5\n", "0 0\n0 --\n", "0 0\n0 -1\n",
		"501 0\n0 0\n", "0 0\n0 501\n", "1000 0\n0 0\n", "32767 0\n0 0\n", "32768 0\n0 0\n", "65535 0\n0 0\n", "65536 0\n0 0\n", "4294967296 0\n0 0\n", "18446744073709551616 0\n0 0\n",
		"0  0\n0 0\n", " 0 0\n0 0\n", "0 0 \n0 0\n", "0 0\n 0 0\n", "0 0\n0 0 \n", "0\t0\n0 0\n", "0 0\r\n0 0\r\n", "0 0\r0 0\n", "0\u00a00\n0 0\n", "0,0\n0,0\n", "0 0;0 0\n", "0 0 0 0\n",
		"w 0\n0 0\n", "0 w\n5 0\n", "x 0\n0 0\n", "1e1 0\n0 0\n", "0x1 0\n0 0\n", "1_0 0\n0 0\n", "1.0 0\n0 0\n", "٣ 0\n0 0\n", "− 0\n0 0\n", "0:0 0\n0 0\n",
	} {
		if rings, code := impl.ReadRings(s, text); code != impl.ErrSyntax || rings != (impl.Rings{}) || isRingsText(s, text) {
			t.Errorf("%q: %v, code %d", text, rings, code)
		}
	}
}

func TestTextsOfRings(t *testing.T) {
	line := strings.Repeat("500 ", 7) + "500\n"
	for _, c := range []struct {
		s    impl.Sheet
		text string
	}{
		{pools(t, "0"), "0\n"}, {pools(t, "0"), "500\n"}, {pools(t, "0"), "-\n"}, {pools(t, "w"), "-\n"}, {pools(t, "w"), "7\n"},
		{impl.Sheet{Wide: 8, High: 8}, strings.Repeat(line, 8)}, {impl.Sheet{Wide: 8, High: 1}, line},
		{impl.Sheet{Wide: 1, High: 8}, strings.Repeat("-\n", 8)},
	} {
		rings, code := impl.ReadRings(c.s, c.text)
		if code != impl.OK || impl.RingsText(c.s, rings) != c.text || handRings(c.s, rings) != c.text {
			t.Errorf("%q: %v, code %d", c.text, rings, code)
		}
		for _, at := range places(impl.Sheet{Wide: 8, High: 8}) {
			if (at.X >= c.s.Wide || at.Y >= c.s.High) && rings[at.Y][at.X] != -1 {
				t.Errorf("%q: %d at %v", c.text, rings[at.Y][at.X], at)
			}
		}
	}
}

func TestRingsOfSheetsThatAreNotValid(t *testing.T) {
	r := rand.New(rand.NewSource(84))
	for range 1000 {
		s := brokenSheet(r)
		_, c1 := impl.ReadRings(s, handRings(s, blankRings()))
		_, c2 := impl.ReadRings(s, "no text")
		same(t, "rings", list(impl.RingsText(s, blankRings()), c1, c2), list("", 1, 1))
	}
}
