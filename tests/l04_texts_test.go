package tests

import (
	"fmt"
	"math/rand"
	"regexp"
	"slices"
	"strings"
	"testing"

	"loop.example/g01360/impl"
)

// handPath writes the text of a path in another way than the program, whether it has one or not.
func handPath(path []impl.Spot) string {
	if len(path) == 0 {
		return ""
	}
	text := fmt.Sprintf("%d,%d", path[0].X, path[0].Y)
	for i := 1; i < len(path); i++ {
		if i == 1 {
			text += " "
		}
		east, south := int(path[i].X)-int(path[i-1].X), int(path[i].Y)-int(path[i-1].Y)
		letter := map[[2]int]string{{0, -1}: "n", {1, 0}: "e", {0, 1}: "s", {-1, 0}: "w"}[[2]int{east, south}]
		if letter == "" {
			letter = "?"
		}
		text += letter
	}
	return text
}

// isPath tells by hand whether a path has a text.
func isPath(path []impl.Spot) bool {
	for _, at := range path {
		if at.X < 0 || at.X > 7 || at.Y < 0 || at.Y > 7 {
			return false
		}
	}
	return len(path) >= 1 && len(path) <= 80 && !strings.Contains(handPath(path), "?")
}

var pathForm = regexp.MustCompile(`^([0-7]),([0-7])( [nesw]{1,79})?$`)

func checkPathText(t *testing.T, text string) bool {
	t.Helper()
	path, code := impl.ReadPath(text)
	var want []impl.Spot
	if parts := pathForm.FindStringSubmatch(text); parts != nil {
		want = walk(int8(parts[1][0]-'0'), int8(parts[2][0]-'0'), strings.TrimSpace(parts[3]))
	}
	if !isPath(want) {
		if code != impl.ErrSyntax || len(path) > 0 {
			t.Fatalf("%q: %v, code %d", text, path, code)
		}
		return false
	}
	if code != impl.OK || !slices.Equal(path, want) || impl.PathText(path) != text {
		t.Fatalf("%q: %v, code %d", text, path, code)
	}
	return true
}

func TestPathsAreRead(t *testing.T) {
	r := rand.New(rand.NewSource(160))
	none := 0
	for range 3000 {
		path := somePath(r, randomSheet(r))
		want := ""
		if isPath(path) {
			want = handPath(path)
			checkPathText(t, want)
		} else {
			none++
		}
		if got := impl.PathText(path); got != want {
			t.Fatalf("%v: got %q, want %q", path, got, want)
		}
	}
	if none < 300 || none > 2700 {
		t.Errorf("%d of 3000 lists had no text", none)
	}
}

func TestPathsFromAnywhere(t *testing.T) {
	for x := -128; x < 128; x++ {
		for y := -128; y < 128; y++ {
			at := spot(int8(x), int8(y))
			for _, path := range [][]impl.Spot{{at}, {at, spot(at.X+1, at.Y)}, {at, spot(at.X, at.Y-1)}, {spot(7, 7), at}, {spot(3, 3), spot(3, 4), at}} {
				want := ""
				if isPath(path) {
					want = handPath(path)
				}
				if got := impl.PathText(path); got != want {
					t.Fatalf("%v: got %q, want %q", path, got, want)
				}
			}
		}
	}
}

func TestNumbersOfCellsInATextAreLimited(t *testing.T) {
	letters := ""
	for n := 1; n <= 100; n++ {
		path := walk(7, 7, letters)
		text := strings.TrimSuffix("7,7 "+letters, " ")
		want, code, cells := text, int64(impl.OK), path
		if n > impl.MaxPath {
			want, code, cells = "", impl.ErrSyntax, nil
		}
		back, got := impl.ReadPath(text)
		same(t, "number of cells", list(n, impl.PathText(path), got, back), list(n, want, code, cells))
		letters += string("enws"[n%4])
	}
}

func TestPathTextsWithSomeBytesChanged(t *testing.T) {
	r := rand.New(rand.NewSource(161))
	read := 0
	for range 20000 {
		if checkPathText(t, spoilt(r, handPath(randomPath(r, randomSheet(r))))) {
			read++
		}
	}
	if read < 1000 || read > 19000 {
		t.Errorf("%d of 20000 texts were read", read)
	}
}

// TestEachByteOfAPathText leaves out, adds and changes each byte of a text in turn.
func TestEachByteOfAPathText(t *testing.T) {
	for _, text := range []string{"0,0 essw", "7,7", "6,1 n"} {
		for i := range len(text) + 1 {
			for b := range 256 {
				checkPathText(t, text[:i]+string([]byte{byte(b)})+text[i:])
				if i < len(text) {
					checkPathText(t, text[:i]+string([]byte{byte(b)})+text[i+1:])
				}
			}
			checkPathText(t, text[:i])
			checkPathText(t, text[i:])
			if i < len(text) {
				checkPathText(t, text[:i]+text[i+1:])
			}
		}
	}
}

func TestTextsOfNoPaths(t *testing.T) {
	for _, text := range []string{
		"", " ", ",", "0", "0,", ",0", "0 0", "00", "0,0,", ",0,0", "0,0,0", "0,,0", "0;0", "0.0", "0:0", "e", " e", "0,0e", "0, 0", "0 ,0", "e 0,0",
		"0,0 ", " 0,0", "0,0  ", "0,0  e", "0,0 e ", "0,0 e e", "0,0\te", "0,0\ne", "0,0 e\n", "0,0\n", "0,0 \n", "0,0 e\r", "0,0\u00a0e", "\x000,0", "0,0\x00", "0,0 e\x00",
		"0,0 E", "0,0 N", "0,0 S", "0,0 W", "0,0 x", "0,0 ex", "0,0 u", "0,0 d", "0,0 .", "0,0 0", "0,0 east", "0,0 e,s", "0,0 é", "0,0 \xff", "0,0 e0,1",
		"0,0 n", "0,0 w", "0,0 en", "0,0 sw", "7,7 e", "7,7 s", "7,0 n", "7,0 e", "0,7 s", "0,7 w", "0,0 ns", "0,0 we", "7,7 ew", "7,7 sn", "0,0 eeeeeeee", "0,0 ssssssss", "7,7 wwwwwwww", "7,7 nnnnnnnn",
		"8,0", "0,8", "8,8", "9,0", "10,0", "0,10", "-1,0", "0,-1", "8,0 w", "0,8 n", "-1,0 e", "0,-1 s",
		"00,0", "0,00", "01,0", "0,01", "007,0", "+0,0", "0,+0", "+1,1", "-0,0", "0,-0", "1,+1 e",
		"256,0", "0,257", "65536,0", "0,65537", "4294967296,0", "18446744073709551616,0", "0,-65535",
		"1.0,0", "1e0,0", "0x1,0", "1_,0", "١,0", "1,１", "a,0", "0,a", "0,0 nesw",
	} {
		if path, code := impl.ReadPath(text); code != impl.ErrSyntax || len(path) > 0 {
			t.Errorf("%q: %v, code %d", text, path, code)
		}
	}
}

func TestTextsOfPaths(t *testing.T) {
	for _, c := range []struct {
		text string
		path []impl.Spot
	}{
		{"0,0 es", []impl.Spot{{}, {X: 1}, {X: 1, Y: 1}}},
		{"0,0", []impl.Spot{{}}},
		{"7,7", []impl.Spot{{X: 7, Y: 7}}},
		{"3,5", []impl.Spot{{X: 3, Y: 5}}},
		{"7,0 w", []impl.Spot{{X: 7}, {X: 6}}},
		{"0,7 n", []impl.Spot{{Y: 7}, {Y: 6}}},
		{"1,1 nesw", []impl.Spot{{X: 1, Y: 1}, {X: 1}, {X: 2}, {X: 2, Y: 1}, {X: 1, Y: 1}}},
		{"6,6 esnwesnw", []impl.Spot{{X: 6, Y: 6}, {X: 7, Y: 6}, {X: 7, Y: 7}, {X: 7, Y: 6}, {X: 6, Y: 6}, {X: 7, Y: 6}, {X: 7, Y: 7}, {X: 7, Y: 6}, {X: 6, Y: 6}}},
		{"0,0 eeeeeeesssssss", walk(0, 0, "eeeeeeesssssss")},
	} {
		path, code := impl.ReadPath(c.text)
		same(t, c.text, list(path, code, impl.PathText(c.path)), list(c.path, 0, c.text))
	}
}

func TestPathsWithoutText(t *testing.T) {
	for _, path := range [][]impl.Spot{
		nil, {}, {{X: 8}}, {{Y: 8}}, {{X: -1}}, {{Y: -1}}, {{X: 127, Y: 127}}, {{X: -128}},
		{{}, {}}, {{}, {X: 1, Y: 1}}, {{}, {X: 2}}, {{}, {Y: 2}}, {{X: 7}, {X: 8}}, {{Y: 7}, {Y: 8}}, {{}, {X: -1}}, {{}, {Y: -1}},
		{{X: 8}, {X: 7}}, {{X: 127}, {X: -128}}, {{}, {X: 1}, {X: 1}}, {{}, {X: 1}, {X: 3}}, {{X: 7}, {Y: 1}}, {{X: 1}, {Y: 1}},
	} {
		same(t, fmt.Sprint(path), list(impl.PathText(path)), list(""))
	}
}

func TestTurnedPaths(t *testing.T) {
	for _, c := range []struct {
		name       string
		path, want []impl.Spot
	}{
		{"none", nil, nil},
		{"no cells", []impl.Spot{}, nil},
		{"one", []impl.Spot{{X: 1, Y: 2}}, []impl.Spot{{X: 1, Y: 2}}},
		{"two", []impl.Spot{{}, {X: 1}}, []impl.Spot{{X: 1}, {}}},
		{"three", walk(0, 0, "es"), []impl.Spot{{X: 1, Y: 1}, {X: 1}, {}}},
		{"no path", []impl.Spot{{X: -128, Y: 127}, {}, {}, {X: 99}}, []impl.Spot{{X: 99}, {}, {}, {X: -128, Y: 127}}},
	} {
		same(t, c.name, list(impl.TurnPath(c.path)), list(c.want))
	}
	r := rand.New(rand.NewSource(162))
	for range 1000 {
		path := somePath(r, randomSheet(r))
		turned := impl.TurnPath(path)
		if len(turned) != len(path) {
			t.Fatalf("%d cells have become %d", len(path), len(turned))
		}
		for i := range path {
			if turned[len(path)-1-i] != path[i] {
				t.Fatalf("%v has become %v", path, turned)
			}
		}
		if again := impl.TurnPath(turned); !slices.Equal(again, path) {
			t.Fatalf("%v has become %v", path, again)
		}
		// A path that is turned is one, and has the letters of the opposite steps, from the last one on.
		if isPath(path) {
			same(t, "turned text", list(impl.PathText(turned)), list(handPath(turned)))
		}
	}
}
