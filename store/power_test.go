package store_test

import (
	"slices"
	"testing"

	"tenancy/api"
	"tenancy/disk"
	"tenancy/jrnl"
	"tenancy/state"
	"tenancy/store"
)

// kept are lists of how much of n writes lasts: of each alone each number of bytes, with none or all of the others; and mixed.
func kept(throw *dice, n int) [][]int {
	l := [][]int{nil, slices.Repeat([]int{sector}, n), slices.Repeat([]int{-1}, n)}
	for k := range n {
		for b := range sector + 1 {
			for _, rest := range []int{0, sector} {
				row := slices.Repeat([]int{rest}, n)
				row[k] = b
				l = append(l, row)
			}
		}
	}
	for range 20 {
		l = append(l, throw.keep(n))
	}
	return l
}

// keep is how much of n writes lasts, of some too little or too much.
func (d *dice) keep(n int) []int {
	row := make([]int, n)
	for k := range row {
		row[k] = []int{0, sector, d.below(sector+9) - 4}[d.below(3)]
	}
	return row
}

// mustHold says where d is opened as another state than want, or not at all, or is not flushed, or is another one when it is opened again.
func mustHold(t *testing.T, what string, d api.Disk, want ...api.State) api.Store {
	t.Helper()
	st, ok := store.Open(d)
	if !ok || !slices.ContainsFunc(want, func(s api.State) bool { return alike(st.S, s) }) || len(st.D.Wait) > 0 || st.D.Down {
		t.Fatalf("%s: %v %v, not one of %v", what, ok, st, want)
	}
	if again, ok := store.Open(st.D); !ok || !asOne(again, st) {
		t.Fatalf("%s: %v, then %v %v", what, st, ok, again)
	}
	return st
}

// TestAllOrNothing (W2): at whichever write the power goes, whatever of each write lasts, there is what was committed last, or the one that was under way; this one, if the journal's head was whole by then.
func TestAllOrNothing(t *testing.T) {
	throw := dice(20)
	for _, p := range pairs()[:10] {
		a, b := p[0], p[1]
		n := len(changes(a, b))
		st, ok := store.Commit(store.Make(), a)
		if !ok {
			t.Fatal("it is not committed")
		}
		for arm := 1; n > 0 && arm <= 2*n+2; arm++ {
			x, _ := store.Commit(api.Store{D: armed(st.D, arm), S: st.S}, b)
			if !x.D.Down || !alike(x.S, a) {
				t.Fatalf("at write %d: %v", arm, x)
			}
			for _, keep := range kept(&throw, len(x.D.Wait)) {
				want := a
				if arm > n+2 || arm == n+2 && len(keep) > 0 && keep[0] >= sector {
					want = b
				}
				got := mustHold(t, "behind a crash", disk.Crash(x.D, keep), want)
				if next, ok := store.Commit(got, some()); !ok || !alike(next.S, some()) {
					t.Fatalf("at write %d, %v kept: no more is committed", arm, keep)
				} else {
					mustHold(t, "behind the next", next.D, some())
				}
			}
		}
	}
}

// TestWhatWasToldLasts (W2): whatever of what waits lasts behind a yes.
func TestWhatWasToldLasts(t *testing.T) {
	throw := dice(21)
	st := store.Make()
	for range 300 {
		s := throw.next(st.S)
		var ok bool
		if st, ok = store.Commit(st, s); !ok || len(st.D.Wait) != 0 {
			t.Fatalf("%v: %v %v", s, ok, st)
		}
		mustHold(t, "as it is", st.D, s)
		mustHold(t, "behind a crash", disk.Crash(st.D, throw.keep(3)), s)
		// What waits behind it belongs to none that was told, but for the head that calls it off.
		torn, _ := disk.Write(st.D, 9, string(make([]byte, sector)))
		mustHold(t, "behind a torn head", disk.Crash(torn, throw.keep(1)), s)
	}
}

// TestPowerInOpen (W2): when the power goes in Open too, once and again, the next one that comes to its end tells the same.
func TestPowerInOpen(t *testing.T) {
	throw := dice(22)
	for _, p := range pairs()[:30] {
		n := len(changes(p[0], p[1]))
		st, _ := store.Commit(store.Make(), p[0])
		for arm := n + 3; n > 0 && arm <= 2*n+2; arm++ {
			x, _ := store.Commit(api.Store{D: armed(st.D, arm), S: st.S}, p[1])
			d := x.D
			for range 10 {
				d = armed(disk.Crash(d, throw.keep(n)), 1+throw.below(n))
				mustBeNone(t, "its power goes", d)
				// Open does not tell the disk by then; it is as the journal leaves it.
				if d, _ = jrnl.Mend(d, 9); !d.Down {
					t.Fatalf("at write %d: its power is there", arm)
				}
			}
			mustHold(t, "behind all that", disk.Crash(d, throw.keep(n)), p[1])
		}
	}
}

// ask changes s as a server does: a file that is opened, written to or gone, or one more beginning.
func (d *dice) ask(s api.State, seq int) api.State {
	client, file := 1+d.below(clients), 1+d.below(files)
	switch d.below(8) {
	case 0:
		s = state.Boot(s)
	case 1:
		s, _ = state.Gone(s, client, seq, file)
	case 2, 3, 4:
		s, _ = state.Open(s, client, seq, d.text(1, 'a', 'h'))
	default:
		s, _ = state.Flush(s, client, seq, file, []api.Write{{Off: d.below(20), B: d.text(1+d.below(4), 0, 255)}, {Off: d.below(4), B: "x"}})
	}
	return s
}

// TestLongRuns (W2): one thing behind the other, with the power going now and then, also in Open; a record is held beside.
func TestLongRuns(t *testing.T) {
	for run := range 8 {
		throw, count := dice(100+run), map[string]int{}
		st := store.Make()
		is := st.S
		for turn := range 300 {
			s := throw.ask(is, turn+1)
			st.D.Arm = throw.below(2) * throw.below(24)
			next, ok := store.Commit(st, s)
			if ok {
				if st, is = next, s; !alike(st.S, s) || st.D.Down {
					t.Fatalf("turn %d: %v, not %v", turn, st, s)
				}
				count["done"]++
				continue
			}
			st = reopened(t, &throw, next.D)
			switch {
			case alike(st.S, s):
				count["new"]++
			case alike(st.S, is):
				count["old"]++
			default:
				t.Fatalf("turn %d: %v, neither %v nor %v", turn, st.S, is, s)
			}
			is = st.S
		}
		if count["done"] < 100 || count["new"] < 10 || count["old"] < 10 {
			t.Errorf("run %d: %v: too few of one kind", run, count)
		}
	}
}

// reopened is d behind a crash, opened; the power may go in that, too.
func reopened(t *testing.T, throw *dice, d api.Disk) api.Store {
	t.Helper()
	for {
		d = armed(disk.Crash(d, throw.keep(len(d.Wait))), throw.below(6))
		if st, ok := store.Open(d); ok {
			return st
		}
		if d, _ = jrnl.Mend(d, 9); !d.Down {
			t.Fatalf("it is none: %v", d)
		}
	}
}
