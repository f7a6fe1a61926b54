package server_test

import (
	"slices"

	"tenancy/api"
)

// What a guest counts on.
const (
	short = 49 // for so long, by its own clock from when it asked, it holds what it was let have
	early = 15
	retry = 10
	dirty = 5
)

// near is what a guest holds of a file.
type near struct {
	mode, until  int
	body         string
	dirty        []api.Write
	sent         int
	called, lost bool
}

// guest is one that borrows, of a clock of its own; what it asks it puts into asks.
type guest struct {
	id, now, epoch, seq int
	files               [files + 1]near
	out                 api.Out
	asks                []api.Ask
}

// valid is the mode in which it holds file near.
func (g *guest) valid(file int) int {
	if n := g.files[file]; g.now < n.until {
		return n.mode
	}
	return free
}

// drop lets go of a file, and keeps in mind that something that was written near is lost, or not.
func (g *guest) drop(file int, lost bool) { g.files[file] = near{lost: lost} }

func (g *guest) reset(file int) { g.drop(file, g.files[file].lost || len(g.files[file].dirty) > 0) }

// lapse lets go of what is over.
func (g *guest) lapse() {
	for file := range g.files {
		if g.files[file].mode != free && g.valid(file) == free {
			g.reset(file)
		}
	}
}

// ask asks a, if it waits for nothing else.
func (g *guest) ask(a api.Ask) {
	if g.out.Is {
		return
	}
	g.seq++
	a.From, a.Epoch, a.Seq = g.id, g.epoch, g.seq
	g.out = api.Out{Is: true, Ask: a, First: g.now, Last: g.now}
	g.asks = append(g.asks, a)
}

// again asks once more what it asked.
func (g *guest) again() {
	g.out.Last = g.now
	g.asks = append(g.asks, g.out.Ask)
}

// give gives file back, with what was written near.
func (g *guest) give(file int) {
	if g.out.Is {
		return
	}
	n := g.files[file]
	g.ask(give(0, 0, file, n.dirty...))
	g.drop(file, n.lost)
}

// write writes w near, or asks for what it needs for that.
func (g *guest) write(file int, w api.Write) {
	n := &g.files[file]
	switch {
	case g.valid(file) != wrote:
		g.ask(lend(0, 0, file, wrote))
	case !n.called && len(n.dirty) < dirty:
		n.dirty = append(slices.Clone(n.dirty), w)
	case n.called:
		g.give(file)
	default:
		g.flush(file)
	}
}

// flush asks for all that was written near to last.
func (g *guest) flush(file int) {
	n := &g.files[file]
	if g.out.Is || len(n.dirty) == 0 {
		return
	}
	g.ask(flush(0, 0, file, n.dirty...))
	n.sent = len(n.dirty)
}

// run asks again when that is due, and gives back what was called, or is over soon.
func (g *guest) run() {
	if g.lapse(); g.out.Is {
		if g.now-g.out.Last >= retry {
			g.again()
		}
		return
	}
	for file, n := range g.files {
		if n.mode != free && (n.called || len(n.dirty) > 0 && g.now >= n.until-early) {
			g.give(file)
			return
		}
	}
}

// crash leaves it its number, its clock and its epoch alone.
func (g *guest) crash() { *g = guest{id: g.id, now: g.now, epoch: g.epoch, seq: g.seq} }

// hear is when it is told t.
func (g *guest) hear(t api.Tell) {
	g.lapse()
	switch {
	case t.Kind == 3 && t.Epoch > g.epoch:
		g.epoch = t.Epoch
		for file := range g.files {
			g.reset(file)
		}
		if g.out.Is {
			g.out.Ask.Epoch = t.Epoch
			g.again()
		}
	case t.Kind == 2 && t.Epoch == g.epoch && g.files[t.File].mode != free:
		g.files[t.File].called = true
		g.give(t.File)
	case t.Kind == 1 && t.Epoch == g.epoch && g.out.Is && t.Seq == g.out.Ask.Seq:
		out := g.out
		g.out = api.Out{}
		g.done(out, t)
	}
}

// done is when what it asked is done.
func (g *guest) done(out api.Out, t api.Tell) {
	n := &g.files[out.Ask.File]
	switch {
	case out.Ask.Kind == 2 && t.Err == fine:
		if until := out.First + short; g.now < until && t.Mode != free {
			n.mode, n.until, n.body, n.called = t.Mode, until, t.Body, false
		}
	case out.Ask.Kind == 3 && t.Err == fine && n.mode == wrote:
		n.body, n.dirty, n.sent = written(n.body, n.dirty[:n.sent]), n.dirty[n.sent:], 0
	case out.Ask.Kind == 3 && t.Err != fine:
		g.reset(out.Ask.File)
	case out.Ask.Kind == 4 && t.Err != fine && len(out.Ask.Writes) > 0:
		n.lost = true
	}
}
