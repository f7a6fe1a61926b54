package server_test

import (
	"fmt"
	"math"
	"slices"
	"testing"

	"tenancy/api"
	"tenancy/msg"
	"tenancy/server"
	"tenancy/state"
	"tenancy/store"
)

// The limits, as the tests count on them.
const (
	files    = 6
	clients  = 3
	room     = 4
	body     = 24
	term     = 60
	quiet    = 74 // behind a Boot nothing is lent for so long
	most     = 1 << 30
	farthest = math.MaxInt
)

// Modes.
const (
	free  = 0
	reads = 1
	wrote = 2
)

// Why not.
const (
	fine  api.Errno = 0
	none  api.Errno = 2
	full  api.Errno = 3
	busy  api.Errno = 4
	lost  api.Errno = 6
	hushy api.Errno = 7
)

// dice is a row of numbers by a rule that mixes them, the same each time (splitmix64).
type dice uint64

func (d *dice) below(n int) int {
	*d += 0x9e3779b97f4a7c15
	x := uint64(*d)
	x = (x ^ x>>30) * 0xbf58476d1ce4e5b9
	x = (x ^ x>>27) * 0x94d049bb133111eb
	return int((x ^ x>>31) % uint64(n))
}

// of is one of l.
func (d *dice) of(l ...int) int { return l[d.below(len(l))] }

// one is one of l.
func one[T any](d *dice, l ...T) T { return l[d.below(len(l))] }

func open(from, seq int, name string) api.Ask {
	return api.Ask{Kind: 1, From: from, Seq: seq, Name: name}
}

func lend(from, seq, file, mode int) api.Ask {
	return api.Ask{Kind: 2, From: from, Seq: seq, File: file, Mode: mode}
}

func flush(from, seq, file int, l ...api.Write) api.Ask {
	return api.Ask{Kind: 3, From: from, Seq: seq, File: file, Writes: l}
}

func give(from, seq, file int, l ...api.Write) api.Ask {
	return api.Ask{Kind: 4, From: from, Seq: seq, File: file, Writes: l}
}

func gone(from, seq, file int) api.Ask {
	return api.Ask{Kind: 5, From: from, Seq: seq, File: file}
}

func in(epoch int, a api.Ask) api.Ask {
	a.Epoch = epoch
	return a
}

func write(off int, b string) api.Write { return api.Write{Off: off, B: b} }

// tells are what is told in an epoch.
func tells(epoch int, l ...api.Tell) []api.Tell {
	for i := range l {
		l[i].Epoch = epoch
	}
	return l
}

func done(to, seq, file, mode, ver int, body string) api.Tell {
	return api.Tell{Kind: 1, To: to, Seq: seq, File: file, Mode: mode, Ver: ver, Body: body}
}

func no(to, seq int, e api.Errno) api.Tell { return api.Tell{Kind: 1, To: to, Seq: seq, Err: e} }

func recall(to, file int) api.Tell { return api.Tell{Kind: 2, To: to, File: file} }

func held(client, file, mode, until int) api.Lease {
	return api.Lease{Client: client, File: file, Mode: mode, Until: until}
}

func wait(client, seq, file, mode int) api.Wait {
	return api.Wait{Client: client, Seq: seq, File: file, Mode: mode}
}

func leases(l ...api.Lease) []api.Lease { return l }

func waits(l ...api.Wait) []api.Wait { return l }

// bytesOf is a as bytes; the test ends where it may not be asked.
func bytesOf(t *testing.T, a api.Ask) []byte {
	t.Helper()
	b := msg.PutAsk(a)
	if len(b) == 0 {
		t.Fatalf("%+v may not be asked", a)
	}
	return b
}

// asks has a come to s; what is told.
func asks(t *testing.T, s *api.Server, a api.Ask) (l []api.Tell) {
	t.Helper()
	*s, l = server.Comes(*s, bytesOf(t, a))
	return l
}

// runs has s run; what is told.
func runs(s *api.Server) (l []api.Tell) {
	*s, l = server.Run(*s)
	return l
}

// on is a server at 100 that lives, on whose disk s lasts; who asked what it does not know beyond the marks.
func on(s api.State) api.Server {
	st, ok := store.Commit(store.Make(), s)
	if !ok {
		panic(fmt.Sprint("no such state: ", s))
	}
	x := api.Server{Store: st, Told: make([]api.Tell, clients), Now: 100, Live: true}
	for _, m := range s.Marks {
		x.Seen = append(x.Seen, m.Seq)
	}
	return x
}

// some is a state in epoch 3 with files 1, 2, 4 and 6, and marks of clients 1 and 3.
func some() api.State {
	s := state.New()
	s.Epoch = 3
	s.Files[0] = api.File{Name: "a", Ver: 1}
	s.Files[1] = api.File{Name: "bb", Ver: 7, Body: "body"}
	s.Files[3] = api.File{Name: "d", Ver: most, Body: "\xff\x00"}
	s.Files[5] = api.File{Name: "f", Ver: most - 1, Body: "twenty-four bytes of f.."}
	s.Marks[0] = api.Mark{Seq: 5, File: 2, Ver: 6}
	s.Marks[2] = api.Mark{Seq: 8, Err: none}
	return s
}

// packed is some() with a file of each number.
func packed() api.State {
	s := some()
	s.Files[2] = api.File{Name: "c", Ver: 2, Body: "c"}
	s.Files[4] = api.File{Name: "eeeeeeee", Ver: 3, Body: "ee"}
	return s
}

func copied(s api.State) api.State {
	s.Files, s.Marks = slices.Clone(s.Files), slices.Clone(s.Marks)
	return s
}

// clone is s in memory of its own, by no call of the program.
func clone(s api.Server) api.Server {
	s.Store.D.Last, s.Store.D.Wait = slices.Clone(s.Store.D.Last), slices.Clone(s.Store.D.Wait)
	s.Store.S = copied(s.Store.S)
	s.Desk.Leases, s.Desk.Line = slices.Clone(s.Desk.Leases), slices.Clone(s.Desk.Line)
	s.Seen, s.Told = slices.Clone(s.Seen), slices.Clone(s.Told)
	return s
}

// alike says whether a and b are the same server; of lists, nil is an empty one.
func alike(a, b api.Server) bool {
	x, y := a.Store, b.Store
	return slices.Equal(x.D.Last, y.D.Last) && slices.Equal(x.D.Wait, y.D.Wait) && slices.Equal(x.S.Files, y.S.Files) && slices.Equal(x.S.Marks, y.S.Marks) &&
		slices.Equal(a.Desk.Leases, b.Desk.Leases) && slices.Equal(a.Desk.Line, b.Desk.Line) && slices.Equal(a.Seen, b.Seen) && slices.Equal(a.Told, b.Told) && numbers(a) == numbers(b)
}

// numbers are all that is no list of s.
func numbers(s api.Server) [8]any {
	return [8]any{s.Store.D.Arm, s.Store.D.Down, s.Store.S.Epoch, s.Now, s.Hush, s.Bad, s.Live, s.Recalled}
}

// terms are how a file is held.
type terms struct{ mode, until int }

// book is what a server knows, each thing by its number: what the tests hold the servers against.
type book struct {
	st                             api.Store
	files                          [files + 1]api.File
	marks                          [clients + 1]api.Mark
	seen                           [clients + 1]int
	told                           [clients + 1]api.Tell
	held                           [files + 1][clients + 1]terms
	line                           []api.Wait
	epoch, now, hush, bad, recalls int
	live                           bool
}

func bookOf(s api.Server) *book {
	b := &book{st: s.Store, line: slices.Clone(s.Desk.Line), epoch: s.Store.S.Epoch, now: s.Now, hush: s.Hush, bad: s.Bad, recalls: s.Recalled, live: s.Live}
	copy(b.files[1:], s.Store.S.Files)
	copy(b.marks[1:], s.Store.S.Marks)
	copy(b.seen[1:], s.Seen)
	copy(b.told[1:], s.Told)
	for _, x := range s.Desk.Leases {
		b.held[x.File][x.Client] = terms{x.Mode, x.Until}
	}
	return b
}

// server is all of it.
func (b *book) server() api.Server {
	s := api.Server{Store: b.st, Seen: b.seen[1:], Told: b.told[1:], Now: b.now, Hush: b.hush, Bad: b.bad, Live: b.live, Recalled: b.recalls}
	s.Desk.Line = b.line
	for file := range b.held {
		for client, x := range b.held[file] {
			if x.mode != free {
				s.Desk.Leases = append(s.Desk.Leases, held(client, file, x.mode, x.until))
			}
		}
	}
	return s
}

// is says how the book is unlike s; nothing where it is not.
func (b *book) is(s api.Server) string {
	if want := b.server(); !alike(want, s) {
		return fmt.Sprintf("%+v\nnot\n%+v", s, want)
	}
	return ""
}

// hear is what is to be told when a comes.
func (b *book) hear(a api.Ask) []api.Tell {
	seen, told, m := &b.seen[a.From], b.told[a.From], b.marks[a.From]
	switch {
	case !b.live:
		return nil
	case a.Epoch != b.epoch:
		return tells(b.epoch, api.Tell{Kind: 3, To: a.From})
	case *seen > a.Seq:
		return nil
	case told.Seq == a.Seq:
		return []api.Tell{told}
	case m.Seq == a.Seq:
		return tells(b.epoch, api.Tell{Kind: 1, To: a.From, Seq: m.Seq, Err: m.Err, File: m.File, Ver: m.Ver})
	}
	*seen = a.Seq
	if b.hush > b.now {
		return b.done(no(a.From, a.Seq, hushy))
	}
	switch a.Kind {
	case 1:
		return b.commit(a.From, b.opened(a))
	case 2:
		return b.asked(a)
	case 3:
		return b.flushed(a)
	case 4:
		return b.given(a)
	}
	return b.gone(a)
}

// done is t, told as done.
func (b *book) done(t api.Tell) []api.Tell {
	l := tells(b.epoch, t)
	b.told[t.To] = l[0]
	return l
}

// commit is what is told of m, where it lasts; nothing where the power goes, by which all that would last is as it was.
func (b *book) commit(client int, m api.Mark) []api.Tell {
	if m.Seq > b.marks[client].Seq {
		b.marks[client] = m
	}
	s := api.State{Files: slices.Clone(b.files[1:]), Marks: slices.Clone(b.marks[1:]), Epoch: b.epoch}
	if b.st, b.live = store.Commit(b.st, s); !b.live {
		copy(b.files[1:], b.st.S.Files)
		copy(b.marks[1:], b.st.S.Marks)
		return nil
	}
	return b.done(api.Tell{Kind: 1, To: client, Seq: m.Seq, Err: m.Err, File: m.File, Ver: m.Ver})
}

// opened is the mark of a file that is opened.
func (b *book) opened(a api.Ask) api.Mark {
	at, empty := 0, 0
	for n := files; n >= 1; n-- {
		switch b.files[n].Name {
		case a.Name:
			at = n
		case "":
			empty = n
		}
	}
	if at == 0 && empty == 0 {
		return api.Mark{Seq: a.Seq, Err: full}
	}
	if at == 0 {
		at = empty
		b.files[at] = api.File{Name: a.Name, Ver: 1}
	}
	return api.Mark{Seq: a.Seq, File: at, Ver: b.files[at].Ver}
}

// prune takes out the leases that are over.
func (b *book) prune() {
	for file := range b.held {
		for client, x := range b.held[file] {
			if b.now >= x.until {
				b.held[file][client] = terms{}
			}
		}
	}
}

// others are those beside client who hold file now; of those who read it, just where such count.
func (b *book) others(client, file int, readers bool) (l []int) {
	for other, x := range b.held[file] {
		if other != client && b.now < x.until && (x.mode == wrote || x.mode == reads && readers) {
			l = append(l, other)
		}
	}
	return l
}

// place is where client waits for file, or who waits first for it; the line's end where there is none.
func (b *book) place(file int, is func(client int) bool) int {
	for i, w := range b.line {
		if w.File == file && is(w.Client) {
			return i
		}
	}
	return len(b.line)
}

// may says whether w may be let have it, behind prune.
func (b *book) may(w api.Wait) bool {
	own := b.place(w.File, func(client int) bool { return client == w.Client })
	first := b.place(w.File, func(client int) bool { return client != w.Client })
	return len(b.others(w.Client, w.File, w.Mode == wrote)) == 0 && (own < first || first == len(b.line))
}

// let is what w's client is told when it is let have it.
func (b *book) let(w api.Wait) []api.Tell {
	x := &b.held[w.File][w.Client]
	until := farthest
	if b.now < farthest-term {
		until = b.now + term
	}
	*x = terms{max(x.mode, w.Mode), max(x.until, until)}
	b.leave(w.Client)
	mode := x.mode
	if x.until <= b.now {
		mode = free
	}
	f := b.files[w.File]
	return b.done(done(w.Client, w.Seq, w.File, mode, f.Ver, f.Body))
}

// leave takes client out of the line.
func (b *book) leave(client int) {
	b.line = slices.DeleteFunc(slices.Clone(b.line), func(w api.Wait) bool { return w.Client == client })
}

// asked is what is told of one that asks for a lease.
func (b *book) asked(a api.Ask) (l []api.Tell) {
	w := wait(a.From, a.Seq, a.File, a.Mode)
	if b.files[a.File].Name == "" {
		return b.done(no(a.From, a.Seq, none))
	}
	b.prune()
	if b.may(w) {
		return b.let(w)
	}
	own := b.place(a.File, func(client int) bool { return client == a.From })
	switch {
	case own < len(b.line):
		b.line = slices.Clone(b.line)
		b.line[own] = w
	default:
		was := b.line
		if b.leave(a.From); len(b.line) >= room {
			b.line = was
			return b.done(no(a.From, a.Seq, full))
		}
		b.line = append(b.line, w)
	}
	for _, client := range b.others(a.From, a.File, a.Mode == wrote) {
		l = append(l, tells(b.epoch, recall(client, a.File))...)
	}
	return l
}

// flushed is what is told of what is to be written.
func (b *book) flushed(a api.Ask) []api.Tell {
	f, x := &b.files[a.File], b.held[a.File][a.From]
	if f.Name == "" || x.mode != wrote || x.until <= b.now {
		return b.done(no(a.From, a.Seq, lost))
	}
	f.Body, f.Ver = written(f.Body, a.Writes), min(f.Ver+1, most)
	return b.commit(a.From, api.Mark{Seq: a.Seq, File: a.File, Ver: f.Ver})
}

// written is b with l written to it: at each place the byte that was written there last.
func written(b string, l []api.Write) string {
	var now []byte
	for place := range body {
		c, is := byte(0), place < len(b)
		if is {
			c = b[place]
		}
		for _, w := range l {
			is = is || place < w.Off+len(w.B)
			if place >= w.Off && place < w.Off+len(w.B) {
				c = w.B[place-w.Off]
			}
		}
		if is {
			now = append(now, c)
		}
	}
	return string(now)
}

// given is what is told of what is given back.
func (b *book) given(a api.Ask) (l []api.Tell) {
	if len(a.Writes) == 0 {
		l = b.done(done(a.From, a.Seq, a.File, free, 0, ""))
	} else if l = b.flushed(a); !b.live {
		return nil
	}
	b.held[a.File][a.From] = terms{}
	return l
}

// gone is what is told of a file that is to be no more.
func (b *book) gone(a api.Ask) []api.Tell {
	waiting := b.place(a.File, func(client int) bool { return client != a.From })
	if waiting < len(b.line) || len(b.others(a.From, a.File, true)) > 0 {
		return b.done(no(a.From, a.Seq, busy))
	}
	m := api.Mark{Seq: a.Seq, Err: none}
	if b.files[a.File].Name != "" {
		m = api.Mark{Seq: a.Seq, File: a.File}
		b.files[a.File] = api.File{}
	}
	l := b.commit(a.From, m)
	if b.live {
		b.held[a.File][a.From] = terms{}
		b.leave(a.From)
	}
	return l
}

// run is what is to be told by a Run.
func (b *book) run() (l []api.Tell) {
	if !b.live || b.hush > b.now {
		return nil
	}
	b.prune()
	for i := 0; i < len(b.line); i++ {
		if w := b.line[i]; b.may(w) {
			l, i = append(l, b.let(w)...), -1
		}
	}
	var calls []api.Tell
	for _, w := range b.line {
		for _, client := range b.others(w.Client, w.File, w.Mode == wrote) {
			if t := tells(b.epoch, recall(client, w.File))[0]; !slices.Contains(calls, t) {
				calls = append(calls, t)
			}
		}
	}
	b.recalls = min(b.recalls+len(calls), most)
	return append(l, calls...)
}

// state is one that may be, of few files and numbers.
func (d *dice) state() api.State {
	s := state.New()
	s.Epoch = d.of(0, 1, 3, most)
	for i := range s.Files {
		if d.below(4) > 0 {
			s.Files[i] = api.File{Name: string(rune('a' + i)), Ver: d.of(1, 2, 9, most-1, most), Body: one(d, "", "x", "a body", "twenty-four bytes of it.")}
		}
	}
	for i := range s.Marks {
		s.Marks[i] = one(d, api.Mark{}, api.Mark{Seq: 1 + d.below(6), Err: api.Errno(d.below(4)), File: d.below(files + 1), Ver: d.below(9)})
	}
	return s
}

// server is one that may be, where as many things as may be stand close by their edges; not all of them may come of what is asked.
func (d *dice) server() api.Server {
	s := on(d.state())
	s.Now = d.of(0, 59, 100, 100, 100, 1<<40, farthest-61, farthest-60, farthest-59, farthest)
	s.Hush = d.of(0, 0, s.Now, max(s.Now, 1)-1, min(s.Now, farthest-1)+1)
	s.Bad, s.Recalled = d.of(0, 7, most-1, most), d.of(0, 7, most-2, most-1, most)
	s.Live = d.below(12) > 0
	for i := range s.Seen {
		s.Seen[i] = max(s.Seen[i], d.below(7))
		if d.below(2) == 0 {
			s.Told[i] = one(d, done(1+i, 1+d.below(7), 1+d.below(files), d.below(3), 4, "told"), no(1+i, 1+d.below(7), busy))
			s.Told[i].Epoch = s.Store.S.Epoch
		}
	}
	for n := range files * clients {
		if d.below(3) == 0 {
			until := d.of(max(s.Now, 1)-1, s.Now, min(s.Now, farthest-1)+1, min(s.Now, farthest-term)+term)
			s.Desk.Leases = append(s.Desk.Leases, held(1+n%clients, 1+n/clients, reads+d.below(2), until))
		}
	}
	for client := range clients {
		w := wait(1+client, 1+d.below(7), 1+d.below(files), reads+d.below(2))
		if d.below(2) == 0 {
			s.Desk.Line = slices.Insert(s.Desk.Line, d.below(len(s.Desk.Line)+1), w)
		}
	}
	return s
}

// ask is one of all kinds, of files and numbers such as s has; what is to be written, mostly of a file that is held to write.
func (d *dice) ask(s api.Server) api.Ask {
	from, seq, file, epoch := 1+d.below(clients), 1+d.below(8), 1+d.below(files), s.Store.S.Epoch
	writer := slices.IndexFunc(s.Desk.Leases, func(x api.Lease) bool { return x.Client == from && x.Mode == wrote })
	if writer >= 0 && d.below(3) > 0 {
		file = s.Desk.Leases[writer].File
	}
	a := one(d,
		open(from, seq, string(rune('a'+d.below(8)))), lend(from, seq, file, reads), lend(from, seq, file, wrote), lend(from, seq, file, wrote), gone(from, seq, file),
		flush(from, seq, file, d.writes(1)...), give(from, seq, file), give(from, seq, file, d.writes(1)...))
	return in(d.of(epoch, epoch, epoch, epoch, epoch, epoch, epoch, epoch, epoch, d.of(0, 1, 2, 3, most)), a)
}

// writes are some that may be written at once, least or more.
func (d *dice) writes(least int) (l []api.Write) {
	for range least + d.below(5) {
		off := d.of(0, 1, 3, d.below(body), body-1)
		l = append(l, write(off, "new bytes, twenty-four .."[:1+d.below(min(4, body-off))]))
	}
	return l[:min(5, len(l))]
}
