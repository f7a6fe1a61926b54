package server_test

import (
	"slices"
	"testing"

	"tenancy/api"
	"tenancy/clock"
	"tenancy/lease"
	"tenancy/msg"
	"tenancy/server"
)

// first is who waits first for a file, since when by the server's clock.
type first struct{ client, since int }

// inn is a server, its guests, and what is on its way between them, as bytes.
type inn struct {
	t      *testing.T
	s      api.Server
	guests [clients + 1]guest
	asks   [][]byte
	tells  [][]byte
	firsts [files + 1]first
	seen   tally
	throw  dice
}

func newInn(t *testing.T, throw int, seen tally) *inn {
	w := &inn{t: t, s: server.Start(0), seen: seen, throw: dice(throw)}
	for id := range w.guests {
		w.guests[id].id = id
	}
	return w
}

// pass lets real time go on; each clock gains as much as fits, mostly the least or the most.
func (w *inn) pass(by int) {
	w.s.Now += w.gain(by)
	for id := range w.guests {
		w.guests[id].now += w.gain(by)
	}
}

func (w *inn) gain(by int) int {
	var fit []int
	for gain := range 2*by + 1 {
		if clock.Fits(by, gain, api.Eps) {
			fit = append(fit, gain)
		}
	}
	return w.throw.of(fit[0], fit[0], fit[len(fit)-1], fit[len(fit)-1], w.throw.of(fit...))
}

// take is one of what is on its way, late as it comes by chance; it is lost, stays on its way to come twice, or is turned, at times.
func (w *inn) take(l *[][]byte) ([]byte, bool) {
	if len(*l) == 0 {
		return nil, false
	}
	i := w.throw.below(min(len(*l), 6))
	b := slices.Clone((*l)[i])
	if w.throw.below(5) > 0 {
		*l = slices.Delete(*l, i, i+1)
	}
	if w.throw.below(12) == 0 {
		b[w.throw.below(len(b))] ^= byte(1 + w.throw.below(255))
	}
	return b, w.throw.below(10) > 0
}

// tell sends what the server tells.
func (w *inn) tell(l []api.Tell) {
	for _, x := range l {
		b := msg.PutTell(x)
		if len(b) == 0 {
			w.t.Fatalf("%+v may not be told", x)
		}
		w.tells = append(w.tells, b)
	}
	w.look()
}

// look brings firsts to what the line is now; who was first ahead of that, and is, has been since then.
func (w *inn) look() {
	for file, was := range w.firsts {
		i := slices.IndexFunc(w.s.Desk.Line, func(x api.Wait) bool { return x.File == file })
		switch {
		case i < 0:
			w.firsts[file] = first{}
		case was.client != w.s.Desk.Line[i].Client:
			w.firsts[file] = first{w.s.Desk.Line[i].Client, w.s.Now}
		}
	}
}

// serves is one thing that the server does.
func (w *inn) serves() {
	switch n := w.throw.below(40); {
	case n == 0 && w.throw.below(4) == 0:
		w.crash()
	case n == 1:
		w.s.Store.D.Arm = w.throw.of(0, 0, 0, 0, 0, w.throw.below(40))
	case !w.s.Live && n < 10:
		w.crash()
	case n < 14:
		s, l := server.Run(w.s)
		w.s = s
		w.tell(l)
		for file, x := range w.firsts {
			if w.s.Live && x.client > 0 && w.s.Now-x.since >= term {
				w.t.Fatalf("at %d %d waits first for %d since %d: %+v", w.s.Now, x.client, file, x.since, w.s.Desk)
			}
		}
		w.seen["runs"] += len(l)
	default:
		if b, ok := w.take(&w.asks); ok {
			s, l := server.Comes(w.s, b)
			w.s = s
			w.tell(l)
			w.seen["comes"] += len(l)
		}
	}
}

// crash is when the server's power goes, and comes back, later or at once.
func (w *inn) crash() {
	d := crashed(&w.throw, w.s.Store.D)
	w.pass(w.throw.of(1, 1, 1, 10, 40))
	s, ok := server.Boot(d, w.s.Now)
	if !ok {
		w.t.Fatalf("it is not booted: %+v", d)
	}
	w.s = s
	w.look()
	w.seen["boots"]++
}

// acts is one thing that a guest does.
func (w *inn) acts(g *guest) {
	g.lapse()
	file := 1 + w.throw.below(2)
	switch n := w.throw.below(100); {
	case n < 4:
		g.ask(open(0, 0, one(&w.throw, "a", "b")))
	case n < 14:
		if g.valid(file) == free {
			g.ask(lend(0, 0, file, reads))
		}
	case n < 40:
		g.write(file, write(w.throw.below(20), one(&w.throw, "x", "yy", "zzz")))
	case n < 60:
		g.flush(file)
	case n < 64:
		if g.files[file].mode != free {
			g.give(file)
		}
	case n < 65:
		if !g.out.Is && len(g.files[file].dirty) == 0 {
			g.ask(gone(0, 0, file))
			g.reset(file)
		}
	case n < 66 && w.throw.below(4) == 0:
		g.crash()
	default:
		g.run()
	}
}

// hears is when something that is told comes to whom it is told.
func (w *inn) hears() {
	if b, ok := w.take(&w.tells); ok {
		if x, ok := msg.TakeTell(b); ok {
			w.guests[x.To].hear(x)
			w.send(&w.guests[x.To])
		}
	}
}

// send sends what a guest asks.
func (w *inn) send(g *guest) {
	for _, a := range g.asks {
		w.asks = append(w.asks, bytesOf(w.t, a))
	}
	g.asks = nil
}

// step is whatever happens next.
func (w *inn) step() {
	switch n := w.throw.below(15); {
	case n == 0:
		w.pass(w.throw.of(1, 1, 2, 5, 10, 10, 20))
	case n < 6:
		w.serves()
	case n < 10:
		w.hears()
	default:
		g := &w.guests[1+w.throw.below(clients)]
		w.acts(g)
		w.send(g)
	}
	for file := 1; file <= files; file++ {
		for id := range w.guests {
			if mode := w.guests[id].valid(file); mode != free {
				w.mustBeSo(id, file, mode)
			}
		}
	}
}

// mustBeSo: what one holds near is as the server has it, with its own writes behind that, and nobody else may have it against that, by the server or near.
func (w *inn) mustBeSo(id, file, mode int) {
	g, s := w.guests[id], w.s
	f, n := s.Store.S.Files[file-1], g.files[file]
	if sent := n.dirty[:n.sent]; f.Name == "" || f.Body != n.body && (mode != wrote || f.Body != written(n.body, sent)) {
		w.t.Fatalf("%d reads %q of %d near, and %v is sent: the server has %+v", id, n.body, file, sent, f)
	}
	for other := range w.guests {
		if x := w.guests[other].valid(file); other != id && (mode == wrote && x != free || x == wrote) {
			w.t.Fatalf("%d and %d have %d near, as %d and %d", id, other, file, mode, x)
		}
	}
	ahead := g.epoch < s.Store.S.Epoch
	switch {
	case !s.Live:
	case ahead && (s.Now >= s.Hush || len(s.Desk.Leases) > 0):
		w.t.Fatalf("%d has %d near from the epoch ahead, and at %d, hushed till %d, others are let: %+v", id, file, s.Now, s.Hush, s.Desk)
	case !ahead && lease.Holds(s.Desk.Leases, s.Now, id, file) < mode:
		w.t.Fatalf("%d has %d near, not by the server at %d: %+v", id, file, s.Now, s.Desk)
	case !ahead && len(lease.Clash(s.Desk.Leases, s.Now, id, file, mode)) > 0:
		w.t.Fatalf("%d has %d near, and others, too, by the server at %d: %+v", id, file, s.Now, s.Desk)
	}
	word := []string{"", "reads", "writes"}[mode]
	if w.seen[word]++; ahead {
		w.seen[word+" what was lent ahead of a crash"]++
	}
	if f.Body != n.body {
		w.seen["writes what the server has, and was not told so yet"]++
	}
}

// TestWhoMayHaveItStill ('Nobody is let have what another one may have still', W1, W4): whatever is lost, comes twice, late or turned, whoever crashes, however unlike clocks run within their bound.
func TestWhoMayHaveItStill(t *testing.T) {
	seen := tally{}
	for run := range 400 {
		w := newInn(t, 5000+run, seen)
		for range 2500 {
			w.step()
		}
	}
	seen.mustHave(t, 500, "reads", "writes", "boots", "runs", "comes", "reads what was lent ahead of a crash", "writes what was lent ahead of a crash", "writes what the server has, and was not told so yet")
}
