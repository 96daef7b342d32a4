package tests

import (
	"fmt"
	"math/rand"
	"regexp"
	"strconv"
	"strings"
	"testing"

	"loop.example/g01360/impl"
)

// handText writes the text of a sheet in another way than the program.
func handText(s impl.Sheet) string {
	var lines string
	for y := range int(s.High) {
		var words []string
		for x := range int(s.Wide) {
			d := s.Dye[y][x]
			word := fmt.Sprintf("%d:%d,%d,%d", s.Wet[y][x], d[0], d[1], d[2])
			if s.Wax[y]&(1<<x) != 0 {
				word = "w"
			}
			words = append(words, word)
		}
		lines += strings.Join(words, " ") + "\n"
	}
	return lines
}

var wordForm = regexp.MustCompile(`^(w|(0|[1-9][0-9]{0,2}):(0|[1-9][0-9]{0,3}),(0|[1-9][0-9]{0,3}),(0|[1-9][0-9]{0,3}))$`)

// isSheetText tells by the form of a text whether it is one of a valid sheet.
func isSheetText(text string) bool {
	lines := strings.Split(text, "\n")
	if len(lines) < 2 || len(lines) > 9 || lines[len(lines)-1] != "" {
		return false
	}
	wide := len(strings.Split(lines[0], " "))
	for _, line := range lines[:len(lines)-1] {
		words := strings.Split(line, " ")
		if len(words) != wide || wide > 8 {
			return false
		}
		for _, word := range words {
			m := wordForm.FindStringSubmatch(word)
			if m == nil {
				return false
			}
			for i, most := range []int{0, 0, 200, 1000, 1000, 1000} {
				if n, _ := strconv.Atoi(m[i]); i > 1 && n > most {
					return false
				}
			}
		}
	}
	return true
}

func TestTextsAreRead(t *testing.T) {
	r := rand.New(rand.NewSource(50))
	for range 1000 {
		s := randomSheet(r)
		text := impl.SheetText(s)
		if text != handText(s) {
			t.Fatalf("got %q, want %q", text, handText(s))
		}
		back, code := impl.ReadSheet(text)
		if back != s || code != impl.OK {
			t.Fatalf("%q: got %+v, code %d", text, back, code)
		}
	}
}

func TestTextsWithSomeBytesChanged(t *testing.T) {
	r := rand.New(rand.NewSource(51))
	read := 0
	for range 20000 {
		text := someText(r)
		s, code := impl.ReadSheet(text)
		if want := isSheetText(text); (code == impl.OK) != want {
			t.Fatalf("%q: code %d, want it read: %v", text, code, want)
		}
		if code == impl.OK {
			read++
			if handText(s) != text {
				t.Fatalf("%q was read as %q", text, handText(s))
			}
		} else if code != impl.ErrSyntax || s != (impl.Sheet{}) {
			t.Fatalf("%q: %+v, code %d", text, s, code)
		}
	}
	if read < 1000 || read > 19000 {
		t.Errorf("%d of 20000 texts were read", read)
	}
}

// TestEachByteOfAText leaves out, adds and changes each byte of a text in turn.
func TestEachByteOfAText(t *testing.T) {
	text := "0:0,0,0 w 20:100,9,0\nw 200:1000,0,1 1:10,0,0\n"
	check := func(text string) {
		t.Helper()
		s, code := impl.ReadSheet(text)
		if want := isSheetText(text); (code == impl.OK) != want || want && handText(s) != text {
			t.Errorf("%q: code %d", text, code)
		}
	}
	for i := range len(text) + 1 {
		for b := range 256 {
			check(text[:i] + string([]byte{byte(b)}) + text[i:])
			if i < len(text) {
				check(text[:i] + string([]byte{byte(b)}) + text[i+1:])
			}
		}
		if i < len(text) {
			check(text[:i] + text[i+1:])
		}
	}
}

func TestTextsOfNoSheet(t *testing.T) {
	row := "w w w w w w w w"
	for _, text := range []string{
		"", "\n", "\n\n", " ", "w", "0:0,0,0", "w\n\n", "\nw\n", "w\nw", "ww\n", "W\n", "w \n", " w\n", "w  w\n", "w\tw\n", "w\r\n", "w\rw\n", "w\u00a0w\n",
		"00:0,0,0\n", "0:00,0,0\n", "0:0,01,0\n", "0:0,0,000\n", "007:0,0,0\n",
		"+1:0,0,0\n", "-1:0,0,0\n", "-0:0,0,0\n", "0:+1,0,0\n", "0:0,-1,0\n", "0:0,0,-0\n",
		"201:0,0,0\n", "0:1001,0,0\n", "0:0,1001,0\n", "0:0,0,1001\n",
		"32768:0,0,0\n", "65536:0,0,0\n", "0:65536,0,0\n", "4294967296:0,0,0\n", "18446744073709551616:0,0,0\n", "-65536:0,0,0\n",
		":0,0,0\n", "0:,0,0\n", "0:0,,0\n", "0:0,0,\n", "0:0,0\n", "0:0,0,0,0\n", "0:0,0,0,\n", "0,0,0\n", "0:0:0,0,0\n", "0:0,0,0:0\n", "::\n", "0::0,0,0\n",
		"0 :0,0,0\n", "0: 0,0,0\n", "0:0, 0,0\n", "0:0,0,0 \n", "0x1:0,0,0\n", "1e2:0,0,0\n", "1_0:0,0,0\n", "1.0:0,0,0\n", "٣:0,0,0\n",
		"w w\nw\n", "w\nw w\n", "w\n\nw\n",
		row + " w\n", strings.Repeat("w\n", 9), strings.Repeat(row+"\n", 9), strings.Repeat(row+" w\n", 8),
	} {
		if s, code := impl.ReadSheet(text); code != impl.ErrSyntax || s != (impl.Sheet{}) {
			t.Errorf("%q: %+v, code %d", text, s, code)
		}
	}
}

func TestTextsOfLimits(t *testing.T) {
	cell := "200:1000,1000,1000"
	line := strings.Repeat(cell+" ", 7) + cell + "\n"
	for _, text := range []string{
		"w\n", "0:0,0,0\n", cell + "\n", strings.Repeat(line, 8), strings.Repeat("w\n", 8), "w w w w w w w w\n",
	} {
		s, code := impl.ReadSheet(text)
		if code != impl.OK || !impl.ValidSheet(s) || handText(s) != text || impl.SheetText(s) != text {
			t.Errorf("%q: code %d, text %q", text, code, impl.SheetText(s))
		}
	}
}
