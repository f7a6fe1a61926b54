package sess_test

import (
	"slices"
	"testing"

	"tenancy/api"
	"tenancy/mark"
	"tenancy/sess"
)

// shop is a server of a kind: what it knows, and beside it a record of what it did that lasts, which no crash takes.
type shop struct {
	book
	done [clients + 1][]int
	as   map[[2]int]api.Mark // by client and number
}

func newShop() *shop {
	s := &shop{book: bookOf(0, page{}, page{}, page{}), as: map[[2]int]api.Mark{}}
	s.marks = mark.New(clients)
	return s
}

// hear is what is told of what comes: one at most. Of what is Fresh each second asking to lend waits; all else is done, and nothing is told where the power goes behind it.
func (s *shop) hear(a api.Ask, powerGoes bool, throw *dice) []api.Tell {
	v := s.judge(a)
	switch v.kind {
	case stale:
		return []api.Tell{{Kind: api.TellEpoch, To: a.From, Epoch: s.epoch}}
	case again:
		return []api.Tell{v.t}
	case old:
		return nil
	}
	i := a.From - 1
	s.seen[i] = a.Seq
	t := api.Tell{Kind: api.TellDone, To: a.From, Epoch: s.epoch, Seq: a.Seq, Err: api.Errno(throw.below(4)), File: 1 + throw.below(6), Ver: throw.below(100)}
	if a.Kind == api.AskLease {
		t.Mode, t.Body = 1+throw.below(2), []string{"", "a body", "another"}[throw.below(3)]
		if throw.below(2) == 0 {
			return nil
		}
	} else {
		m := api.Mark{Seq: a.Seq, Err: t.Err, File: t.File, Ver: t.Ver}
		s.marks = mark.Put(s.marks, a.From, m)
		s.done[a.From] = append(s.done[a.From], a.Seq)
		s.as[[2]int{a.From, a.Seq}] = m
	}
	if powerGoes {
		s.begin()
		return nil
	}
	s.told[i] = t
	return []api.Tell{t}
}

// begin is when it begins anew: what lasts is there, and nothing else.
func (s *shop) begin() {
	s.epoch++
	for i, m := range s.marks {
		s.seen[i] = m.Seq
	}
	clear(s.told)
}

// guest is a client: its clock, its number, what it asked and was not told yet.
type guest struct {
	id, now, epoch, seq int
	out                 api.Out
}

// ask is what it asks when it may, or asks again when that is due.
func (g *guest) ask(throw *dice) (l []api.Ask) {
	if g.out.Is {
		if sess.Due(g.out, g.now) {
			g.out.Last = g.now
			l = append(l, g.out.Ask)
		}
		return l
	}
	g.seq += 1 + throw.below(2)
	kind := throw.of(api.AskLease, api.AskLease, api.AskFlush, api.AskGive, api.AskOpen, api.AskGone)
	g.out = api.Out{Is: true, Ask: api.Ask{Kind: kind, From: g.id, Epoch: g.epoch, Seq: g.seq}, First: g.now, Last: g.now}
	return append(l, g.out.Ask)
}

// hear is what it asks at once when it is told t; and whether what it asked is done by that.
func (g *guest) hear(t api.Tell) (l []api.Ask, done bool) {
	switch {
	case t.Kind == api.TellEpoch && t.Epoch > g.epoch:
		g.epoch = t.Epoch
		if g.out.Is {
			g.out.Ask.Epoch, g.out.Last = t.Epoch, g.now
			l = append(l, g.out.Ask)
		}
	case t.Kind == api.TellDone && t.Epoch == g.epoch && g.out.Is && t.Seq == g.out.Ask.Seq:
		g.out = api.Out{}
		done = true
	}
	return l, done
}

// inn is a shop, its guests, what is on its way; and what each was told in which epoch.
type inn struct {
	t      *testing.T
	s      *shop
	guests [clients + 1]guest
	asks   []api.Ask
	tells  []api.Tell
	told   map[[3]int]api.Tell
	dice   dice
	wild   bool // whether things are lost or come twice, and whether anyone crashes

	finished, twice, begun int
}

func newInn(t *testing.T, throw int) *inn {
	w := &inn{t: t, s: newShop(), told: map[[3]int]api.Tell{}, dice: dice(throw), wild: true}
	for id := range w.guests {
		w.guests[id].id = id
	}
	return w
}

// take is one of what is on its way, lost or not, gone from there or not; late, as it comes by chance.
func take[T any](w *inn, l *[]T) (x T, comes bool) {
	if len(*l) == 0 {
		return x, false
	}
	i := w.dice.below(len(*l))
	x = (*l)[i]
	if !w.wild || w.dice.below(3) > 0 {
		*l = slices.Delete(*l, i, i+1)
	}
	return x, !w.wild || w.dice.below(4) > 0
}

// askComes is when something that was asked comes to the shop, and its power goes at times.
func (w *inn) askComes() {
	a, ok := take(w, &w.asks)
	if !ok {
		return
	}
	was := len(w.s.done[a.From])
	l := w.s.hear(a, w.wild && w.dice.below(40) == 0, &w.dice)
	w.tells = append(w.tells, l...)
	if n := len(w.s.done[a.From]); n > was && n > 1 && w.s.done[a.From][n-1] <= w.s.done[a.From][n-2] {
		w.t.Fatalf("%d did %v, the last of which is done twice, or out of turn", a.From, w.s.done[a.From])
	}
	for _, t := range l {
		w.mustBeAsTold(a, t)
	}
}

// mustBeAsTold: of one number one is told the same in one epoch; by the mark, where it lasts, in each.
func (w *inn) mustBeAsTold(a api.Ask, t api.Tell) {
	if t.To != a.From || t.Epoch != w.s.epoch {
		w.t.Fatalf("asked %v it tells %v", a, t)
	}
	if t.Kind != api.TellDone {
		return
	}
	key := [3]int{t.To, t.Epoch, t.Seq}
	if was, ok := w.told[key]; ok {
		w.twice++
		if was != t {
			w.t.Fatalf("told %v, then %v", was, t)
		}
	}
	w.told[key] = t
	m, lasts := w.s.as[[2]int{t.To, t.Seq}]
	if t.Seq != a.Seq || lasts && (m != api.Mark{Seq: t.Seq, Err: t.Err, File: t.File, Ver: t.Ver}) {
		w.t.Fatalf("asked %v it tells %v, it did %v", a, t, m)
	}
}

// tellComes is when something that was told comes to a guest: what lasts is done when it is told as done.
func (w *inn) tellComes() {
	t, ok := take(w, &w.tells)
	if !ok {
		return
	}
	g := &w.guests[t.To]
	asked := g.out.Ask
	l, done := g.hear(t)
	w.asks = append(w.asks, l...)
	if !done {
		return
	}
	w.finished++
	if asked.Kind == api.AskLease {
		return
	}
	if n := slices.Index(w.s.done[g.id], asked.Seq); n < 0 || n != len(w.s.done[g.id])-1 {
		w.t.Fatalf("%d is told that %v is done; done are %v", g.id, asked, w.s.done[g.id])
	}
}

// step is whatever happens next.
func (w *inn) step() {
	id := 1 + w.dice.below(clients)
	g := &w.guests[id]
	g.now += w.dice.below(6)
	switch n := w.dice.below(100); {
	case n < 30:
		w.asks = append(w.asks, g.ask(&w.dice)...)
	case n < 60:
		w.askComes()
	case n < 95:
		w.tellComes()
	case n < 97 && w.wild:
		g.out = api.Out{} // it crashes: its number stays
	case n == 97 && w.wild:
		w.begun++
		w.s.begin()
	}
}

// TestWhatWasDoneIsDoneOnce: whatever is lost, comes twice or late, whoever crashes; and all that is asked is told as done in the end.
func TestWhatWasDoneIsDoneOnce(t *testing.T) {
	finished, twice, begun, did := 0, 0, 0, 0
	for n := range 300 {
		w := newInn(t, 100+n)
		for range 1500 {
			w.step()
		}
		finished, twice, begun = finished+w.finished, twice+w.twice, begun+w.begun
		for _, l := range w.s.done {
			did += len(l)
		}
		w.wild = false
		mustEnd(t, w)
	}
	if finished < 10000 || twice < 10000 || begun < 1000 || did < 10000 {
		t.Errorf("%d were told, %d twice, it began %d times, %d were done", finished, twice, begun, did)
	}
}

// mustEnd: when nothing is lost any more, each that asked something is told of it, since it asks again.
func mustEnd(t *testing.T, w *inn) {
	var wait [clients + 1]int
	for id := range w.guests {
		if w.guests[id].out.Is {
			wait[id] = w.guests[id].seq
		}
	}
	for range 20000 {
		w.step()
		for id, g := range w.guests {
			if !g.out.Is || g.seq > wait[id] {
				wait[id] = 0
			}
		}
		if wait == [clients + 1]int{} {
			return
		}
	}
	t.Fatalf("these wait still: %v", w.guests)
}

// TestDeaf (W5, as far as this layer has a part in it): what is of another epoch, or was told as done before, is never Fresh; amid all that a server comes to know and to do the same as without.
func TestDeaf(t *testing.T) {
	throw, heard := dice(6), [5]int{}
	for range 300 {
		quiet, loud := newShop(), newShop()
		var told []api.Ask
		seq := [clients + 1]int{}
		for n := range 60 {
			a := api.Ask{Kind: throw.of(api.AskLease, api.AskFlush), From: 1 + throw.below(clients), Epoch: quiet.epoch}
			seq[a.From] += 1 + throw.below(3)
			a.Seq = seq[a.From]
			one, other := dice(n), dice(n)
			x, y := quiet.hear(a, false, &one), loud.hear(a, false, &other)
			if len(x) > 0 {
				told = append(told, a)
			}
			if n%20 == 19 {
				quiet.begin()
				loud.begin()
			}
			for range throw.below(4) {
				noise := throw.noise(loud.epoch, a, told)
				kind := loud.judge(noise).kind
				heard[kind]++
				if loud.hear(noise, false, &other); kind == fresh {
					t.Fatalf("%+v is Fresh to %+v", noise, loud)
				}
			}
			if !slices.Equal(x, y) || !loud.same(quiet.book) || !slices.EqualFunc(loud.done[:], quiet.done[:], slices.Equal[[]int]) {
				t.Fatalf("%+v, %v; %+v, %v without", loud, y, quiet, x)
			}
		}
	}
	if heard[stale] < 1000 || heard[old] < 1000 || heard[again] < 1000 {
		t.Errorf("%v were heard", heard)
	}
}

// noise is what changes nothing in this epoch: what is of another one, or was told as done before: as it was asked then, or, of what lasts, as it is asked now.
func (d *dice) noise(epoch int, a api.Ask, told []api.Ask) api.Ask {
	n := d.below(3)
	if n == 0 || len(told) == 0 {
		a.Epoch, a.Seq = epoch+d.of(-2, -1, 1, 2, 1<<32), a.Seq+d.below(3)
		return a
	}
	a = told[max(0, len(told)-1-d.below(8))]
	if n == 1 && a.Kind != api.AskLease {
		a.Epoch = epoch
	}
	return a
}

// TestAskedAgainEachRetry: who is told nothing asks again when Retry has gone by since it did last, at the next look at the clock, and no sooner.
func TestAskedAgainEachRetry(t *testing.T) {
	throw := dice(7)
	for n := range 200 {
		g := guest{id: 1, now: throw.of(0, -1000, api.MaxTime-2000, least, most-2000)}
		g.ask(&throw)
		first, last := g.out, g.now
		for range 100 {
			was := g.now
			g.now += throw.below(1 + n%20)
			l := g.ask(&throw)
			if asks := len(l) == 1; asks != (g.now-last >= retry) {
				t.Fatalf("at %d, behind %d, it asks %v; it did at %d", g.now, was, l, last)
			}
			if len(l) == 1 {
				last = g.now
				if l[0].Seq != first.Ask.Seq || g.out.Last != last || g.out.First != first.First {
					t.Fatalf("it asks %v, %v; first it was %v", l, g.out, first)
				}
			}
		}
	}
}
