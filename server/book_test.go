package server_test

import (
	"fmt"
	"slices"
	"testing"

	"tenancy/api"
	"tenancy/lease"
	"tenancy/server"
	"tenancy/state"
	"tenancy/store"
)

// tally counts what comes about, by a word for it.
type tally map[string]int

// mustHave says where one of these came about less than n times.
func (y tally) mustHave(t *testing.T, n int, words ...string) {
	t.Helper()
	for _, w := range words {
		if y[w] < n {
			t.Errorf("%q came about %d times: %v", w, y[w], y)
		}
	}
}

// word is what came of a.
func word(a api.Ask, l []api.Tell, live bool) string {
	switch {
	case !live:
		return fmt.Sprint(a.Kind, ": down")
	case len(l) == 0:
		return fmt.Sprint(a.Kind, ": nothing")
	case l[0].Kind == 1:
		return fmt.Sprint(a.Kind, ": done ", l[0].Err)
	}
	return fmt.Sprint(a.Kind, ": told ", l[0].Kind)
}

// TestAllKinds: whatever is asked of servers of all kinds, the server is as the book, and tells as that; also where the power goes.
func TestAllKinds(t *testing.T) {
	throw, seen := dice(1), tally{}
	for range 6000 {
		s := throw.server()
		s.Store.D.Arm = throw.of(0, 1+throw.below(16))
		for range 6 {
			a := throw.ask(s)
			b := bookOf(s)
			want := b.hear(a)
			got, l := server.Comes(s, bytesOf(t, a))
			if !slices.Equal(l, want) {
				t.Fatalf("%+v asked of %+v: %+v, not %+v", a, s, l, want)
			}
			if how := b.is(got); how != "" {
				t.Fatalf("%+v asked of %+v: %s", a, s, how)
			}
			seen[word(a, l, got.Live || !s.Live)]++
		}
		b := bookOf(s)
		want := b.run()
		got, l := server.Run(s)
		if how := b.is(got); how != "" || !slices.Equal(l, want) {
			t.Fatalf("Run of %+v: %+v, not %+v; %s", s, l, want, how)
		}
		for _, x := range l {
			seen[fmt.Sprint("run: ", x.Kind)]++
		}
	}
	seen.mustHave(t, 50, "1: down", "3: down", "4: down", "5: down", "1: nothing", "2: nothing", "3: nothing", "4: nothing", "5: nothing", "1: told 3", "2: told 3", "2: told 2",
		"1: done 0", "2: done 0", "3: done 0", "4: done 0", "5: done 0", "1: done 3", "2: done 2", "5: done 2", "5: done 4", "3: done 6", "4: done 6", "1: done 7", "2: done 7", "run: 1", "run: 2")
}

// yard is a server, a book beside it, and what may have come to last by now: one thing, or two, where the power went.
type yard struct {
	t     *testing.T
	s     api.Server
	b     *book
	seen  tally
	throw dice
	seq   [clients + 1]int
	lasts []api.State
}

func newYard(t *testing.T, throw int) *yard {
	s := server.Start(0)
	return &yard{t: t, s: s, b: bookOf(s), seen: tally{}, throw: dice(throw), lasts: []api.State{s.Store.S}}
}

// ask is one of all kinds, under its client's next number, or one of the last.
func (y *yard) ask() api.Ask {
	a := y.throw.ask(y.s)
	y.seq[a.From] += y.throw.of(0, 1, 1, 1, 1, 2)
	a.Seq = max(1, y.seq[a.From]-y.throw.of(0, 0, 0, 0, 0, 1))
	return a
}

// step is one thing that happens to both.
func (y *yard) step() {
	if !y.s.Live {
		y.boot()
		return
	}
	switch n := y.throw.below(20); {
	case n < 2:
		y.s.Now += y.throw.of(1, 1, 5, 20, 61)
		y.b.now = y.s.Now
	case n < 5:
		y.run()
	case n < 6:
		y.s.Store.D.Arm = y.throw.below(3) * y.throw.below(30)
		y.b.st.D.Arm = y.s.Store.D.Arm
	case n < 7:
		y.noise()
	default:
		y.comes(y.ask())
	}
}

func (y *yard) run() {
	want, l := y.b.run(), runs(&y.s)
	if !slices.Equal(l, want) {
		y.t.Fatalf("Run: %+v, not %+v", l, want)
	}
	y.seen["runs"] += len(l)
}

func (y *yard) comes(a api.Ask) {
	was := y.s.Store.S
	want, l := y.b.hear(a), asks(y.t, &y.s, a)
	if !slices.Equal(l, want) {
		y.t.Fatalf("%+v: %+v, not %+v", a, l, want)
	}
	y.seen[word(a, l, y.s.Live)]++
	y.lasts = []api.State{y.s.Store.S}
	if !y.s.Live {
		y.lasts = []api.State{was, y.underWay(was, a)}
	}
}

// underWay is what would last if a had come to a server whose power stays.
func (y *yard) underWay(was api.State, a api.Ask) api.State {
	whole := bookOf(y.s)
	whole.st, _ = store.Commit(store.Make(), was)
	whole.live = true
	whole.seen[a.From] = a.Seq
	switch a.Kind {
	case 1:
		whole.commit(a.From, whole.opened(a))
	case 3, 4:
		whole.flushed(a)
	case 5:
		whole.gone(a)
	}
	return whole.st.S
}

// noise is what is no message.
func (y *yard) noise() {
	b := bytesOf(y.t, y.ask())
	b[y.throw.below(len(b))] ^= byte(1 + y.throw.below(255))
	s, l := server.Comes(y.s, b)
	y.b.bad++
	if y.s = s; len(l) != 0 {
		y.t.Fatalf("%v: %+v", b, l)
	}
}

// boot begins a server again behind a crash: all that was told was done is there, and what was under way whole or not at all (W2).
func (y *yard) boot() {
	s, ok := server.Boot(crashed(&y.throw, y.s.Store.D), y.s.Now)
	i := slices.IndexFunc(y.lasts, func(x api.State) bool { return state.Same(state.Boot(x), s.Store.S) })
	if !ok || i < 0 || s.Hush != y.s.Now+quiet || !s.Live || len(s.Desk.Leases)+len(s.Desk.Line) != 0 {
		y.t.Fatalf("Boot: %v %+v, none of %+v", ok, s, y.lasts)
	}
	y.seen[fmt.Sprint("boots to ", i)]++
	y.s, y.b, y.lasts = s, bookOf(s), []api.State{s.Store.S}
	// So that not each run is hushed for long.
	y.s.Now += y.throw.of(0, 73, 74, 80)
	y.b.now = y.s.Now
}

// TestLongRuns: one thing behind the other, the server is as the book all along, and such as may be.
func TestLongRuns(t *testing.T) {
	seen := tally{}
	for run := range 150 {
		y := newYard(t, 1000+run)
		y.seen = seen
		for range 400 {
			y.step()
			if how := y.b.is(y.s); how != "" {
				t.Fatalf("run %d: %s", run, how)
			}
			if y.mustBeSound(); y.throw.below(150) == 0 {
				y.s.Live = false
			}
		}
	}
	seen.mustHave(t, 20, "1: down", "3: down", "4: down", "5: down", "1: nothing", "2: nothing", "3: nothing", "2: told 3", "2: told 2", "runs", "boots to 0", "boots to 1",
		"1: done 0", "2: done 0", "3: done 0", "4: done 0", "5: done 0", "2: done 2", "5: done 2", "5: done 4", "3: done 6", "4: done 6", "1: done 7", "2: done 7")
}

// mustBeSound: nobody writes beside another one, no lease is for longer than Term, each waits once, what is in memory is what lasts.
func (y *yard) mustBeSound() {
	l, line := y.s.Desk.Leases, y.s.Desk.Line
	for i, w := range line {
		if slices.ContainsFunc(line[:i], func(x api.Wait) bool { return x.Client == w.Client }) {
			y.t.Fatalf("it waits twice: %+v", y.s)
		}
	}
	for _, x := range l {
		clash := lease.Clash(l, y.s.Now, x.Client, x.File, x.Mode)
		if x.Until > y.s.Now && len(clash) > 0 || x.Until > y.s.Now+term || x.Until > y.s.Now && y.s.Store.S.Files[x.File-1].Name == "" {
			y.t.Fatalf("%+v is held, in %+v", x, y.s)
		}
	}
	if !lease.May(l) || len(line) > room || !state.May(y.s.Store.S) {
		y.t.Fatalf("it may not be: %+v", y.s)
	}
	if !y.s.Live {
		return
	}
	d := y.s.Store.D
	d.Arm = 0
	if st, ok := store.Open(d); !ok || !state.Same(st.S, y.s.Store.S) || len(d.Wait) > 0 {
		y.t.Fatalf("%+v lasts, not %+v", st.S, y.s.Store.S)
	}
}
