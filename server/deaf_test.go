package server_test

import (
	"slices"
	"testing"

	"tenancy/api"
	"tenancy/server"
)

// once is something that was told as done, and what was told.
type once struct {
	a    api.Ask
	told api.Tell
}

// lasts says whether what was told stands in a mark.
func (x once) lasts() bool {
	switch x.a.Kind {
	case 1:
		return x.told.Err != hushy
	case 5:
		return x.told.Err == fine || x.told.Err == none
	}
	return x.told.Err == fine && len(x.a.Writes) > 0
}

// loud is a server to which noise comes, and a quiet one beside it, to which none does.
type loud struct {
	t        *testing.T
	s, quiet api.Server
	bad      int
	seq      [clients + 1]int
	waits    [clients + 1]bool
	was      []once
	heard    tally
	throw    dice
}

// comes has b come, which is noise: nothing is another one behind it but how many were no message.
func (y *loud) comes(b []byte, none int) []api.Tell {
	y.t.Helper()
	want := clone(y.s)
	want.Bad += none
	got, l := server.Comes(y.s, b)
	if !alike(got, want) {
		y.t.Fatalf("%v: %+v\nnot\n%+v", b, got, want)
	}
	y.s, y.bad = got, y.bad+none
	return l
}

// noise is what is no message, is of another epoch, or was told as done before.
func (y *loud) noise() {
	epoch := y.s.Store.S.Epoch
	a := y.throw.ask(y.s)
	switch y.throw.below(3) {
	case 0:
		b := bytesOf(y.t, a)
		b[y.throw.below(len(b))] ^= byte(1 + y.throw.below(255))
		if l := y.comes(b[:len(b)-y.throw.below(2)*y.throw.below(len(b))], 1); len(l) != 0 {
			y.t.Fatalf("%v is told %+v", b, l)
		}
		y.heard["no message"]++
	case 1:
		a.Epoch, a.Seq = epoch+y.throw.of(1, 2, -min(1, epoch), most-epoch), y.throw.of(1, y.seq[a.From], y.seq[a.From]+1, most)
		if a.Seq = max(a.Seq, 1); a.Epoch == epoch {
			return
		}
		if l := y.comes(bytesOf(y.t, a), 0); !slices.Equal(l, tells(epoch, api.Tell{Kind: 3, To: a.From})) {
			y.t.Fatalf("%+v of another epoch: %+v", a, l)
		}
		y.heard["another epoch"]++
	case 2:
		y.repeat(epoch)
	}
}

// repeat has something come once more that was told as done in this epoch, or, where it lasts, in the one ahead.
func (y *loud) repeat(epoch int) {
	if len(y.was) == 0 {
		return
	}
	x := y.was[max(0, len(y.was)-1-y.throw.below(9))]
	if x.a.Epoch == epoch-1 && x.lasts() {
		x.a.Epoch, x.told.Epoch = epoch, epoch
		y.heard["told in the epoch ahead"]++
	}
	l := y.comes(bytesOf(y.t, x.a), 0)
	switch {
	case x.a.Epoch != epoch:
	case len(l) == 0:
		y.heard["told before"]++
	case slices.Equal(l, []api.Tell{x.told}):
		y.heard["told last"]++
	default:
		y.t.Fatalf("%+v: %+v, then %+v", x.a, x.told, l)
	}
}

// hear is something that comes to both, and what both tell of it; no client asks anything more while it waits.
func (y *loud) hear() {
	a := y.throw.ask(y.quiet)
	if a.Epoch = y.quiet.Store.S.Epoch; y.waits[a.From] {
		return
	}
	y.seq[a.From] += y.throw.of(1, 1, 2)
	a.Seq = y.seq[a.From]
	l, other := asks(y.t, &y.quiet, a), asks(y.t, &y.s, a)
	y.tell(l, other)
	y.waits[a.From] = len(l) == 0 || l[0].Kind != 1
	if !y.waits[a.From] {
		y.was = append(y.was, once{a, l[0]})
	}
}

func (y *loud) tell(l, other []api.Tell) {
	if !slices.Equal(l, other) {
		y.t.Fatalf("%+v amid noise, %+v without", other, l)
	}
}

// run has both run: who is let waits no more.
func (y *loud) run() {
	l, other := runs(&y.quiet), runs(&y.s)
	y.tell(l, other)
	for _, x := range l {
		if x.Kind == 1 {
			y.waits[x.To] = false
			y.was = append(y.was, once{in(x.Epoch, lend(x.To, x.Seq, x.File, x.Mode)), x})
		}
	}
}

// boot begins both again.
func (y *loud) boot() {
	var ok, also bool
	y.quiet, ok = server.Boot(y.quiet.Store.D, y.quiet.Now)
	y.s, also = server.Boot(y.s.Store.D, y.s.Now)
	if !ok || !also {
		y.t.Fatalf("Boot: %v %v", ok, also)
	}
	y.waits, y.bad = [clients + 1]bool{}, 0
	y.quiet.Now += y.throw.of(0, quiet, quiet)
	y.s.Now = y.quiet.Now
}

// TestDeaf (W5): what is no message, is of another epoch, or was told as done before changes nothing but a count, whenever it comes; a server amid all that tells what it tells without.
func TestDeaf(t *testing.T) {
	heard := tally{}
	for run := range 300 {
		y := &loud{t: t, s: server.Start(0), quiet: server.Start(0), heard: heard, throw: dice(7000 + run)}
		for range 200 {
			switch n := y.throw.below(100); {
			case n < 45:
				y.noise()
			case n < 80:
				y.hear()
			case n < 92:
				y.run()
			case n < 98:
				y.quiet.Now += y.throw.of(1, 10, 61)
				y.s.Now = y.quiet.Now
			default:
				y.boot()
			}
			want := clone(y.quiet)
			want.Bad = y.bad
			if !alike(y.s, want) {
				t.Fatalf("run %d: %+v amid noise\n%+v without", run, y.s, y.quiet)
			}
		}
	}
	heard.mustHave(t, 300, "no message", "another epoch", "told before", "told last", "told in the epoch ahead")
}

// TestTermIsWaited (W4): just at Term behind its asking the first who waits is let, not ahead of that, where who held it asked then, and asks again and again since; whoever else waits.
func TestTermIsWaited(t *testing.T) {
	for _, mode := range []int{reads, wrote} {
		s := on(some())
		s.Now = 1000
		asks(t, &s, in(3, lend(1, 9, 2, wrote)))
		asks(t, &s, in(3, lend(2, 9, 2, mode)))
		asks(t, &s, in(3, lend(3, 9, 2, wrote)))
		for ; s.Now < 1000+term; s.Now++ {
			if l := runs(&s); !slices.Equal(l, tells(3, recall(1, 2))) {
				t.Fatalf("at %d: %+v", s.Now, l)
			}
			if l := asks(t, &s, in(3, lend(1, 10+s.Now, 2, wrote))); len(l) != 0 {
				t.Fatalf("at %d: %+v", s.Now, l)
			}
		}
		if l := runs(&s); !slices.Equal(l, tells(3, done(2, 9, 2, mode, 7, "body"), recall(2, 2))) || s.Recalled != term+1 {
			t.Errorf("at %d: %+v %+v", s.Now, l, s)
		}
	}
}
