package server_test

import (
	"slices"
	"testing"

	"tenancy/api"
	"tenancy/disk"
	"tenancy/server"
	"tenancy/state"
)

const sector = 32

// crashed is d behind a crash, by which of what waits so much lasts as it comes by chance.
func crashed(throw *dice, d api.Disk) api.Disk {
	return disk.Crash(d, throw.keep(len(d.Wait)))
}

// keep is how much of n writes lasts, of some too little or too much.
func (d *dice) keep(n int) []int {
	row := make([]int, n)
	for k := range row {
		row[k] = d.of(0, sector, sector, d.below(sector+9)-4)
	}
	return row
}

// keeps are lists of how much of n writes lasts: all, nothing, of each alone some; and by chance.
func (d *dice) keeps(n int) [][]int {
	l := [][]int{nil, slices.Repeat([]int{sector}, n)}
	for k := range n {
		for _, b := range []int{1, 2, 16, 31, 32} {
			for _, rest := range []int{0, sector} {
				row := slices.Repeat([]int{rest}, n)
				row[k] = b
				l = append(l, row)
			}
		}
	}
	for range 8 {
		l = append(l, d.keep(n))
	}
	return l
}

// TestAllOrNothing (W2): at whichever write the power goes while something is done, whatever of each write lasts: behind a Boot there is what was there last, or what was under way, whole; and that was not told as done.
func TestAllOrNothing(t *testing.T) {
	throw := dice(20)
	base := desked(some(), leases(held(1, 1, wrote, 130), held(1, 4, wrote, 130), held(2, 6, wrote, 130)), nil)
	for _, a := range []api.Ask{open(1, 9, "new"), open(3, 9, "a"), flush(1, 9, 1, write(0, "xy"), write(4, "z")), flush(2, 9, 6, write(0, "all of it is others now.")), give(1, 9, 4, write(2, "x")), gone(1, 9, 1), gone(2, 9, 3)} {
		a = in(3, a)
		was, whole := clone(base), clone(base)
		told := asks(t, &whole, a)
		lasted := map[bool]int{}
		for arm := 1; ; arm++ {
			s := clone(base)
			s.Store.D.Arm = arm
			if l := asks(t, &s, a); s.Live {
				if !slices.Equal(l, told) {
					t.Errorf("%+v: %+v, not %+v", a, l, told)
				}
				break
			}
			for _, keep := range throw.keeps(len(s.Store.D.Wait)) {
				x, ok := server.Boot(disk.Crash(s.Store.D, keep), 200)
				old, now := state.Same(x.Store.S, state.Boot(was.Store.S)), state.Same(x.Store.S, state.Boot(whole.Store.S))
				if !ok || !old && !now {
					t.Fatalf("%+v at write %d, %v kept: %v %+v", a, arm, keep, ok, x)
				}
				lasted[now]++
				mustEndOnce(t, x, a, told[0], now)
			}
		}
		if lasted[true] == 0 || lasted[false] == 0 {
			t.Errorf("%+v: %v", a, lasted)
		}
	}
}

// mustEndOnce: a, asked again in the new epoch, is told as done where it is; else it is fresh.
func mustEndOnce(t *testing.T, s api.Server, a api.Ask, told api.Tell, done bool) {
	t.Helper()
	told.Epoch++
	was := clone(s)
	l := asks(t, &s, in(a.Epoch+1, a))
	if done && (len(l) != 1 || l[0] != told || !alike(s, was)) {
		t.Fatalf("%+v, which is done, asked again: %+v", a, l)
	}
	if !done && (len(l) != 1 || l[0].Err != hushy || s.Seen[a.From-1] != a.Seq) {
		t.Fatalf("%+v, which is not done, asked again: %+v", a, l)
	}
}

// TestWhatWasToldIsThere (W2): whenever it crashes behind that, once or again and again, also where the power goes in Boot.
func TestWhatWasToldIsThere(t *testing.T) {
	throw := dice(21)
	s := server.Start(0)
	for n := range 400 {
		a := in(s.Store.S.Epoch, one(&throw, open(1, 1+n, one(&throw, "a", "b", "c", "d")), gone(2, 1+n, 1+throw.below(files)), open(3, 1+n, "e")))
		l := asks(t, &s, a)
		if len(l) != 1 || l[0].Err == hushy || !s.Live {
			t.Fatalf("%+v: %+v", a, l)
		}
		d := crashed(&throw, s.Store.D)
		for range throw.below(3) {
			d.Arm = 1 + throw.below(9)
			if x, ok := server.Boot(d, s.Now); ok {
				d = x.Store.D
			}
			d = crashed(&throw, d)
		}
		x, ok := server.Boot(d, s.Now)
		want := copied(s.Store.S)
		want.Epoch = x.Store.S.Epoch
		if !ok || !state.Same(x.Store.S, want) || want.Epoch <= s.Store.S.Epoch {
			t.Fatalf("%+v, then a crash: %v %+v", a, ok, x)
		}
		told := l[0]
		told.Epoch = want.Epoch
		if l := asks(t, &x, in(want.Epoch, a)); !slices.Equal(l, []api.Tell{told}) {
			t.Fatalf("%+v, then a crash: %+v, then %+v", a, told, l)
		}
		s = x
		s.Now += quiet
	}
}
