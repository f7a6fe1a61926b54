package msg_test

import (
	"math"
	"slices"
	"testing"

	"tenancy/api"
	"tenancy/msg"
)

// mustBeSame holds SameAsk of a and b, both ways round.
func mustBeSame(t *testing.T, a, b api.Ask, want bool) {
	t.Helper()
	if msg.SameAsk(a, b) != want || msg.SameAsk(b, a) != want {
		t.Fatalf("%v and %v: not %v", a, b, want)
	}
}

// turnedAsks are a with one thing turned, to what may be and to what may not.
func turnedAsks(a api.Ask) []api.Ask {
	var l []api.Ask
	for _, n := range []int{1, -1, 256, -256, 1 << 32, math.MinInt} {
		b := slices.Repeat([]api.Ask{a}, 6)
		b[0].Kind += n
		b[1].From += n
		b[2].Epoch += n
		b[3].Seq += n
		b[4].File += n
		b[5].Mode += n
		l = append(l, b...)
	}
	for _, name := range []string{a.Name + "x", a.Name + "\x00", "x" + a.Name, "y"} {
		b := a
		b.Name = name
		l = append(l, b)
	}
	return l
}

// TestSameAskByEachThing: whether it may be asked or not.
func TestSameAskByEachThing(t *testing.T) {
	for _, a := range append(someAsks(), api.Ask{}, api.Ask{Kind: -1, Name: "a b", Writes: fullWrites()[:3]}) {
		b := a
		b.Writes = slices.Clone(a.Writes)
		mustBeSame(t, a, b, true)
		for _, x := range turnedAsks(a) {
			mustBeSame(t, x, x, true)
			mustBeSame(t, a, x, false)
		}
		for i, w := range a.Writes {
			for _, x := range []api.Write{write(w.Off+1, w.B), write(w.Off-1, w.B), write(w.Off+256, w.B), write(w.Off, w.B+"\x00"), write(w.Off, w.B[1:]), write(w.Off, "\x7f"+w.B[1:])} {
				b.Writes = slices.Clone(a.Writes)
				b.Writes[i] = x
				mustBeSame(t, a, b, false)
			}
			b.Writes = slices.Delete(slices.Clone(a.Writes), i, i+1)
			mustBeSame(t, a, b, false)
		}
		b.Writes = append(slices.Clone(a.Writes), api.Write{})
		mustBeSame(t, a, b, false)
		if len(a.Writes) > 1 {
			b.Writes = slices.Clone(a.Writes)
			slices.Reverse(b.Writes)
			mustBeSame(t, a, b, false)
		}
	}
}

func TestSameAskOfEachTwo(t *testing.T) {
	l := append(someAsks(), api.Ask{})
	throw := dice(3)
	for range 500 {
		l = append(l, throw.ask())
	}
	for _, a := range l {
		for _, b := range l {
			mustBeSame(t, a, b, alike(a, b))
		}
	}
}

// TestSameAskOfNoWrites: nil and an empty list are one.
func TestSameAskOfNoWrites(t *testing.T) {
	for _, a := range someAsks() {
		var l []api.Ask
		for _, writes := range [][]api.Write{nil, {}, fullWrites()[:0]} {
			a.Writes = writes
			l = append(l, a)
		}
		for _, x := range l {
			for _, y := range l {
				mustBeSame(t, x, y, true)
			}
		}
	}
}
