package tests

import (
	"math/rand"
	"strings"
	"testing"

	"loop.example/g01360/impl"
)

// handStack writes the text of a stack in another way than the program, whether it has one or not.
func handStack(st impl.Stack) string {
	text := ""
	for i, s := range st {
		if i > 0 {
			text += "\n"
		}
		text += handText(s)
	}
	return text
}

// blocksOf cuts a text at its empty lines, line by line; an empty line behind another one, or at an end, makes an empty block.
func blocksOf(text string) []string {
	blocks := []string{""}
	for _, line := range strings.SplitAfter(text, "\n") {
		if line == "\n" {
			blocks = append(blocks, "")
		} else {
			blocks[len(blocks)-1] += line
		}
	}
	return blocks
}

// isStackText tells by the form of a text whether it is one of a valid stack.
func isStackText(text string) bool {
	if text == "" {
		return true
	}
	blocks := blocksOf(text)
	for _, block := range blocks {
		first := blocks[0]
		alike := strings.Count(block, " ") == strings.Count(first, " ") && strings.Count(block, "\n") == strings.Count(first, "\n")
		if !isSheetText(block) || !alike {
			return false
		}
	}
	return len(blocks) <= 6
}

func checkStackText(t *testing.T, text string) bool {
	t.Helper()
	st, code := impl.ReadStack(text)
	if !isStackText(text) {
		if code != impl.ErrSyntax || len(st) > 0 {
			t.Fatalf("%q: %v, code %d", text, st, code)
		}
		return false
	}
	if code != impl.OK || handStack(st) != text || impl.StackText(st) != text || !isStack(st) {
		t.Fatalf("%q: %v, code %d", text, st, code)
	}
	return true
}

func TestStacksAreRead(t *testing.T) {
	r := rand.New(rand.NewSource(170))
	for range 1000 {
		st := randomStack(r)
		back, code := impl.ReadStack(handStack(st))
		if code != impl.OK || !impl.SameStack(back, st) || impl.StackText(st) != handStack(st) {
			t.Fatalf("%q: read as %q, code %d", handStack(st), handStack(back), code)
		}
		broken := brokenStack(r)
		if got := impl.StackText(broken); got != "" {
			t.Fatalf("%+v has the text %q", broken, got)
		}
	}
}

func TestStackTextsWithSomeBytesChanged(t *testing.T) {
	r := rand.New(rand.NewSource(171))
	read := 0
	for range 5000 {
		if checkStackText(t, spoilt(r, handStack(stackOf(r, 1+r.Intn(6))))) {
			read++
		}
	}
	if read < 500 || read > 4500 {
		t.Errorf("%d of 5000 texts were read", read)
	}
}

// TestEachByteOfAStackText leaves out, adds and changes each byte of a text in turn.
func TestEachByteOfAStackText(t *testing.T) {
	for _, text := range []string{"0:1,0,0 w\n\n9:0,2,3 0:0,0,0\n", "w\nw\n\nw\nw\n\nw\nw\n", "w\n\nw\n\nw\n\nw\n\nw\n\nw\n"} {
		for i := range len(text) + 1 {
			for b := range 256 {
				checkStackText(t, text[:i]+string([]byte{byte(b)})+text[i:])
				if i < len(text) {
					checkStackText(t, text[:i]+string([]byte{byte(b)})+text[i+1:])
				}
			}
			checkStackText(t, text[:i])
			checkStackText(t, text[i:])
			if i < len(text) {
				checkStackText(t, text[:i]+text[i+1:])
			}
		}
	}
}

func TestTextsOfNoStack(t *testing.T) {
	a, b := "0:1,0,0 w\n", "5:0,2,0 w\n"
	for _, text := range []string{
		"\n", "\n\n", "\n\n\n", " ", "w", "x", "x\n", " \n", "w\n\n", "\nw\n", "w\n\n\n", "\n\nw\n", "w\n\nw", "w\n\nw\n\n", "w\n\n\nw\n", "\nw\n\nw\n", "w\n\n\n\nw\n",
		"w\n \nw\n", "w\n\n w\n", "w\r\n\r\nw\r\n", "w\n\r\nw\n", "w\n\n\tw\n", "w\n\x00\nw\n", "w\n-\nw\n", "w\n\nx\n", "x\n\nw\n", "w\n\n201:0,0,0\n", "w\n\n0:0,0,1001\n", "w\n\n00:0,0,0\n",
		a + "\n" + "w\n", "w\n" + "\n" + a, a + "\n" + b + "\n" + "w w w\n", a + "\n" + a + b, a + b + "\n" + a, a + "\n" + "w\nw\n", "w w\nw w\n\nw w w w\n",
		a + "\n" + b + "\n", a + "\n\n" + b, "\n" + a + "\n" + b, a + "\n" + b + " ", a + " \n" + b,
		strings.Repeat("w\n\n", 6) + "w\n", strings.Repeat("w\n\n", 7) + "w\n", strings.Repeat("w\n\n", 6), strings.Repeat("w\n", 9), strings.Repeat("w\n\n", 5) + "w\n\n\n",
		strings.Repeat("w\n\n", 5) + "w\nw\n", strings.Repeat("w\n\n", 5) + "w w\n", strings.Repeat("w ", 8) + "w\n",
	} {
		if st, code := impl.ReadStack(text); code != impl.ErrSyntax || len(st) > 0 || isStackText(text) {
			t.Errorf("%q: %v, code %d", text, st, code)
		}
	}
}

func TestTextsOfStacks(t *testing.T) {
	for _, c := range []struct {
		text string
		st   impl.Stack
	}{
		{"", nil},
		{"8:16,0,0\n\n0:0,0,0\n", pile(t, "8:16,0,0", "0:0,0,0")},
		{"w\n", pile(t, "w")},
		{"200:1000,999,1 0:0,0,0\n", pile(t, "200:1000,999,1 0:0,0,0")},
		{"1:2,3,4\nw\n", impl.Stack{paper(t, "1:2,3,4", "w")}},
		{"1:2,3,4 w\n\nw 5:6,7,8\n\nw w\n", pile(t, "1:2,3,4 w", "w 5:6,7,8", "w w")},
		{"w w\n0:0,0,0 w\n\nw 1:0,0,0\nw w\n", impl.Stack{paper(t, "w w", "0:0,0,0 w"), paper(t, "w 1:0,0,0", "w w")}},
		{"1:0,0,0\n\n2:0,0,0\n\n3:0,0,0\n\n4:0,0,0\n\n5:0,0,0\n\n6:0,0,0\n", pile(t, "1:0,0,0", "2:0,0,0", "3:0,0,0", "4:0,0,0", "5:0,0,0", "6:0,0,0")},
	} {
		st, code := impl.ReadStack(c.text)
		same(t, c.text, list(st, code, impl.StackText(c.st)), list(c.st, 0, c.text))
	}
	same(t, "no sheets", list(impl.StackText(impl.Stack{})), list(""))
}

func TestStacksWithoutText(t *testing.T) {
	for name, st := range map[string]impl.Stack{
		"no sheet at all":   {{}},
		"a sheet too many":  pile(t, "w", "w", "w", "w", "w", "w", "w"),
		"a wider sheet":     pile(t, "w", "w w"),
		"a higher sheet":    {paper(t, "w"), paper(t, "w", "w")},
		"too much water":    pile(t, "201:0,0,0"),
		"too much dye, low": pile(t, "0:0,0,0", "0:0,1001,0"),
	} {
		same(t, name, list(impl.StackText(st)), list(""))
	}
}
