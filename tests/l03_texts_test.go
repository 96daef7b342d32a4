package tests

import (
	"fmt"
	"math/rand"
	"regexp"
	"strings"
	"testing"

	"loop.example/g01360/impl"
)

// handFolds writes the text of folds in another way than the program, whether they have one or not.
func handFolds(folds []impl.Fold) string {
	text := ""
	for i, f := range folds {
		if i > 0 {
			text += " "
		}
		text += fmt.Sprintf("%c%d/%d", map[bool]rune{false: 'v', true: 'h'}[f.Down], f.Axis, f.Press)
	}
	return text
}

var foldsForm = regexp.MustCompile(`^([vh][1-7]/[1-8]( [vh][1-7]/[1-8]){0,29})?$`)

// areFolds tells by hand whether folds have a text.
func areFolds(folds []impl.Fold) bool {
	good := len(folds) <= 30
	for _, f := range folds {
		good = good && f.Axis >= 1 && f.Axis <= 7 && f.Press >= 1 && f.Press <= 8
	}
	return good
}

func checkFoldsText(t *testing.T, text string) bool {
	t.Helper()
	folds, code := impl.ReadFolds(text)
	if !foldsForm.MatchString(text) {
		if code != impl.ErrSyntax || len(folds) > 0 {
			t.Fatalf("%q: %v, code %d", text, folds, code)
		}
		return false
	}
	if code != impl.OK || !areFolds(folds) || handFolds(folds) != text || impl.FoldsText(folds) != text {
		t.Fatalf("%q: %v, code %d", text, folds, code)
	}
	return true
}

func TestFoldsAreRead(t *testing.T) {
	r := rand.New(rand.NewSource(110))
	none := 0
	for range 3000 {
		folds := someFolds(r, randomSheet(r))
		want := ""
		if areFolds(folds) {
			want = handFolds(folds)
			checkFoldsText(t, want)
		} else {
			none++
		}
		if got := impl.FoldsText(folds); got != want {
			t.Fatalf("%v: got %q, want %q", folds, got, want)
		}
	}
	if none < 300 || none > 2700 {
		t.Errorf("%d of 3000 lists had no text", none)
	}
}

func TestFoldsWithAnyNumbers(t *testing.T) {
	for axis := -128; axis < 128; axis++ {
		for press := -128; press < 128; press++ {
			folds := []impl.Fold{{Axis: 7, Down: true, Press: 8}, {Axis: int8(axis), Down: axis%2 == 0, Press: int8(press)}}
			want := ""
			if areFolds(folds) {
				want = handFolds(folds)
			}
			if got := impl.FoldsText(folds); got != want {
				t.Fatalf("%v: got %q, want %q", folds, got, want)
			}
		}
	}
}

func TestNumbersOfFoldsInATextAreLimited(t *testing.T) {
	word := impl.Fold{Axis: 7, Down: true, Press: 8}
	var folds []impl.Fold
	text := ""
	for n := range 33 {
		want, code := text, int64(impl.OK)
		if n > impl.MaxFolds {
			want, code = "", impl.ErrSyntax
		}
		back, got := impl.ReadFolds(text)
		same(t, "number of folds", list(n, impl.FoldsText(folds), got, got == 0 && len(back) != n), list(n, want, code, false))
		folds = append(folds, word)
		text = strings.TrimPrefix(text+" h7/8", " ")
	}
}

func TestFoldsTextsWithSomeBytesChanged(t *testing.T) {
	r := rand.New(rand.NewSource(111))
	read := 0
	for range 20000 {
		text := spoilt(r, handFolds(someFolds(r, randomSheet(r)))+" v1/1")
		if checkFoldsText(t, strings.TrimPrefix(text, " ")) {
			read++
		}
	}
	if read < 1000 || read > 19000 {
		t.Errorf("%d of 20000 texts were read", read)
	}
}

// TestEachByteOfAFoldsText leaves out, adds and changes each byte of a text in turn.
func TestEachByteOfAFoldsText(t *testing.T) {
	text := "v1/8 h7/1 v4/5"
	for i := range len(text) + 1 {
		for b := range 256 {
			checkFoldsText(t, text[:i]+string([]byte{byte(b)})+text[i:])
			if i < len(text) {
				checkFoldsText(t, text[:i]+string([]byte{byte(b)})+text[i+1:])
			}
		}
		checkFoldsText(t, text[:i])
		checkFoldsText(t, text[i:])
		if i < len(text) {
			checkFoldsText(t, text[:i]+text[i+1:])
		}
	}
}

func TestTextsOfNoFolds(t *testing.T) {
	for _, text := range []string{
		" ", "\n", "v", "h", "/", "v/", "v1", "v1/", "v/8", "1/8", "/8", "v18", "v1 8", "v1//8", "v1/8/", "v1/8/8", "/v1/8",
		"v1/8 ", " v1/8", "v1/8  v1/8", "v1/8\n", "v1/8\tv1/8", "v1/8\nv1/8", "v1/8,v1/8", "v1/8v1/8", "v1/8\u00a0v1/8", "v 1/8", "v1 /8", "v1/ 8", "v1/8\r",
		"V1/8", "H1/8", "x1/8", "vv1/8", "hv1/8", "vh1/8", "d1/8", "1v/8", "v1/8 x", "v1/8 h", "v1/8 v1", "v1/8 v1/",
		"v0/8", "v8/8", "v9/8", "v10/8", "v11/8", "v1/0", "v1/9", "v1/10", "v1/11", "h0/1", "h8/1", "h7/9", "v1/8 v0/1", "v1/8 v1/9",
		"v01/8", "v1/08", "v00/1", "v001/8", "v+1/8", "v-1/8", "v1/+8", "v1/-8", "v-0/8", "v1/-0",
		"v257/8", "v1/257", "v1/264", "v-255/8", "v65537/8", "v1/65544", "v4294967297/8", "v18446744073709551617/8", "v1/18446744073709551624",
		"v1.0/8", "v1e0/8", "v0x1/8", "v1_/8", "v١/8", "v1/８", "v1\\8", "v1:8", "v1/8\x00", "\x00v1/8",
	} {
		if folds, code := impl.ReadFolds(text); code != impl.ErrSyntax || len(folds) > 0 {
			t.Errorf("%q: %v, code %d", text, folds, code)
		}
	}
}

func TestTextsOfFolds(t *testing.T) {
	for _, c := range []struct {
		text  string
		folds []impl.Fold
	}{
		{"", nil},
		{"v1/1", []impl.Fold{{Axis: 1, Press: 1}}},
		{"h7/8", []impl.Fold{{Axis: 7, Down: true, Press: 8}}},
		{"v7/1 h1/8", []impl.Fold{{Axis: 7, Press: 1}, {Axis: 1, Down: true, Press: 8}}},
		{"h2/3 h2/3", []impl.Fold{{Axis: 2, Down: true, Press: 3}, {Axis: 2, Down: true, Press: 3}}},
	} {
		folds, code := impl.ReadFolds(c.text)
		same(t, c.text, list(folds, code, impl.FoldsText(c.folds)), list(c.folds, 0, c.text))
	}
	same(t, "no folds", list(impl.FoldsText([]impl.Fold{})), list(""))
}
