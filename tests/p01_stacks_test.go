package tests

import (
	"fmt"
	"math/rand"
	"runtime"
	"slices"
	"strings"
	"sync"
	"testing"

	"loop.example/g01360/impl"
)

// stackCalls has all functions of chapter 5 that return a code, which is their last result.
var stackCalls = []call{
	{"PutSheet", func(in input) []any { st, c := impl.PutSheet(in.stack, in.place, in.b); return list(st, c) }},
	{"TakeSheet", func(in input) []any { st, s, c := impl.TakeSheet(in.stack, in.place); return list(st, s, c) }},
	{"TurnStack", func(in input) []any { st, c := impl.TurnStack(in.stack); return list(st, c) }},
	{"DyeOf", func(in input) []any { n, c := impl.DyeOf(in.stack); return list(n, c) }},
	{"PassDown", func(in input) []any {
		st, d, n, c := impl.PassDown(in.stack, in.share)
		return list(st, d, n, c)
	}},
	{"PassTimes", func(in input) []any {
		st, d, n, c := impl.PassTimes(in.stack, in.share, in.passes)
		return list(st, d, n, c)
	}},
	{"TimesUntil", func(in input) []any { n, c := impl.TimesUntil(in.stack, in.share, in.level); return list(n, c) }},
	{"ReachedBy", func(in input) []any { l, c := impl.ReachedBy(in.stack, in.ink); return list(l, c) }},
	{"SeenThrough", func(in input) []any { text, c := impl.SeenThrough(in.stack, in.least); return list(text, c) }},
	{"RinseOnce", func(in input) []any { s, d, c := impl.RinseOnce(in.a, in.share); return list(s, d, c) }},
	{"RinseUntil", func(in input) []any {
		s, n, d, c := impl.RinseUntil(in.a, in.share, in.level)
		return list(s, n, d, c)
	}},
	{"BathsFor", func(in input) []any { l, c := impl.BathsFor(in.a, in.share, in.passes); return list(l, c) }},
	{"CleanestBath", func(in input) []any {
		n, c := impl.CleanestBath(in.a, in.share, in.passes, in.off)
		return list(n, c)
	}},
	{"DryStack", func(in input) []any { st, n, c := impl.DryStack(in.stack, in.rate); return list(st, n, c) }},
	{"DryTimes", func(in input) []any { n, c := impl.DryTimes(in.stack, in.rate); return list(n, c) }},
	{"WettestSheet", func(in input) []any { i, n, c := impl.WettestSheet(in.stack); return list(i, n, c) }},
	{"ReadStack", func(in input) []any { st, c := impl.ReadStack(in.stackText); return list(st, c) }},
}

// plainStackCalls has the functions of chapter 5 without a code.
var plainStackCalls = []call{
	{"ValidStack", func(in input) []any { return list(impl.ValidStack(in.stack)) }},
	{"SameStack", func(in input) []any {
		return list(impl.SameStack(in.stack, in.pile), impl.SameStack(in.stack, in.stack))
	}},
	{"StackText", func(in input) []any { return list(impl.StackText(in.stack)) }},
}

// withStack has the functions that take a stack, and return a code.
var withStack = []string{
	"PutSheet", "TakeSheet", "TurnStack", "DyeOf", "PassDown", "PassTimes", "TimesUntil", "ReachedBy", "SeenThrough",
	"DryStack", "DryTimes", "WettestSheet",
}

// someStack returns a stack, most of which are valid; sheets that do not belong to it lie in the room behind it.
func someStack(r *rand.Rand) impl.Stack {
	if r.Intn(6) == 0 {
		return brokenStack(r)
	}
	return stackOf(r, impl.MaxSheets)[:r.Intn(impl.MaxSheets+1)]
}

func TestP1InvalidStacksComeFirst(t *testing.T) {
	r := rand.New(rand.NewSource(9))
	for range 2000 {
		in := someInput(r)
		in.stack = brokenStack(r)
		for _, c := range stackCalls {
			if !slices.Contains(withStack, c.name) {
				continue
			}
			if out := c.run(in); out[len(out)-1] != any(int64(impl.ErrInvalid)) {
				t.Fatalf("%s: got %v for a stack that is not valid: %+v", c.name, out, in.stack)
			}
		}
		if impl.StackText(in.stack) != "" {
			t.Fatalf("there is a text for a stack that is not valid: %+v", in.stack)
		}
		_, code := impl.PutSheet(randomStack(r), in.place, brokenSheet(r))
		same(t, "a sheet that is not valid", list(code), list(1))
	}
}

func TestP1HugeStackTextsEnd(t *testing.T) {
	for _, unit := range []string{"\n", "\n\n", "w", "w\n", "w\n\n", "w\n\n\n", "0:0,0,0\n\n", "0:0,0,0\n", "w ", ":", "0", "\x00", "\xff"} {
		long := strings.Repeat(unit, 1000000/len(unit))
		for _, text := range []string{long, "w\n\n" + long, long + "\n\nw\n"} {
			if st, c := impl.ReadStack(text); len(st) > 0 || c != impl.ErrSyntax {
				t.Errorf("%d bytes of %q: %d sheets, code %d", len(text), unit, len(st), c)
			}
		}
	}
}

func TestP1HugeStacksEnd(t *testing.T) {
	st := make(impl.Stack, 20000)
	for i := range st {
		st[i] = impl.Sheet{Wide: 1, High: 1}
	}
	other := slices.Clone(st)
	same(t, "many sheets", list(impl.ValidStack(st), impl.SameStack(st, other), impl.StackText(st)), list(false, true, ""))
	other[19999].Dye[7][7][2] = 1
	same(t, "many sheets, the last one another", list(impl.SameStack(st, other), impl.SameStack(st, other[:19999])), list(false, false))
	in := input{stack: st, b: st[0], share: 1, least: 1, rate: 1}
	for _, c := range stackCalls {
		if slices.Contains(withStack, c.name) {
			out := c.run(in)
			same(t, c.name, out[len(out)-1:], list(impl.ErrInvalid))
		}
	}
}

// TestP1StacksAreNotKept changes stacks behind a call, and those that were returned before another call.
func TestP1StacksAreNotKept(t *testing.T) {
	r := rand.New(rand.NewSource(10))
	for range 300 {
		st := stackOf(r, 1+r.Intn(impl.MaxSheets-1))
		want := handStack(st)
		back, _ := impl.ReadStack(want)
		again, _, _, _ := impl.PassTimes(st, 5, 0)
		put, _ := impl.PutSheet(st, int64(len(st)), st[0])
		taken, _, _ := impl.TakeSheet(put, int64(len(st)))
		scribble(list(st, put))
		same(t, "stacks", list(handStack(back), handStack(again), handStack(taken)), list(want, want, want))
	}
}

// TestP1PassesAtTheSameTime lets one stack be passed down by several goroutines, which must not be seen in any result.
func TestP1PassesAtTheSameTime(t *testing.T) {
	r := rand.New(rand.NewSource(11))
	for range 20 {
		st := stackOf(r, impl.MaxSheets)
		var group sync.WaitGroup
		results := make([]string, 16)
		for i := range results {
			group.Add(1)
			go func() {
				defer group.Done()
				after, dyes, water, code := impl.PassTimes(st, 7, 20)
				times, none := impl.TimesUntil(st, 7, 40)
				results[i] = fmt.Sprint(after, dyes, water, code, times, none)
			}()
		}
		group.Wait()
		if kinds := slices.Compact(results); len(kinds) != 1 {
			t.Fatalf("%d results of %+v", len(kinds), st)
		}
	}
}

func TestP1NoGoroutineIsLeft(t *testing.T) {
	r := rand.New(rand.NewSource(12))
	before := runtime.NumGoroutine()
	for range 200 {
		in := someInput(r)
		for _, c := range slices.Concat(stackCalls, originCalls) {
			c.run(in)
		}
	}
	// A goroutine that has done its work may need a moment to end.
	for range 1000000 {
		if runtime.NumGoroutine() <= before {
			return
		}
		runtime.Gosched()
	}
	t.Errorf("%d goroutines before, and %d behind", before, runtime.NumGoroutine())
}
