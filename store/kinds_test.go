package store_test

import (
	"fmt"
	"math"
	"slices"
	"strings"

	"tenancy/api"
	"tenancy/image"
)

// The limits, as the tests count on them.
const (
	files   = 6
	clients = 3
	most    = 1 << 30
	sector  = 32
	home    = 9
	sectors = 19
)

// dice is a row of numbers by a rule that mixes them, the same each time (splitmix64).
type dice uint64

func (d *dice) below(n int) int {
	*d += 0x9e3779b97f4a7c15
	x := uint64(*d)
	x = (x ^ x>>30) * 0xbf58476d1ce4e5b9
	x = (x ^ x>>27) * 0x94d049bb133111eb
	return int((x ^ x>>31) % uint64(n))
}

// text is n bytes, each from least to most.
func (d *dice) text(n, least, most int) string {
	b := make([]byte, n)
	for i := range b {
		b[i] = byte(least + d.below(most-least+1))
	}
	return string(b)
}

// sector is one of bytes of all kinds.
func (d *dice) sector() string { return d.text(sector, 0, 255) }

// state is one that may be.
func (d *dice) state() api.State {
	s := blank()
	s.Epoch = d.below(most + 1)
	for i := range s.Marks {
		s.Marks[i] = api.Mark{Seq: d.below(most + 1), Err: api.Errno(d.below(4)), File: d.below(files + 1), Ver: d.below(most + 1)}
	}
	for i := range s.Files {
		if d.below(3) > 0 {
			s.Files[i] = api.File{Name: fmt.Sprint(i, d.text(d.below(8), 33, 126)), Ver: 1 + d.below(most), Body: d.text(d.below(25), 0, 255)}
		}
	}
	return s
}

// next is a state that may be, some things of which are others than s's: from one to all.
func (d *dice) next(s api.State) api.State {
	s.Files, s.Marks = slices.Clone(s.Files), slices.Clone(s.Marks)
	x := d.state()
	if d.below(3) == 0 {
		s.Epoch = x.Epoch
	}
	for range d.below(4) {
		i := d.below(files)
		s.Files[i] = x.Files[i]
	}
	for range d.below(3) {
		i := d.below(clients)
		s.Marks[i] = x.Marks[i]
	}
	return s
}

func blank() api.State {
	return api.State{Files: make([]api.File, files), Marks: make([]api.Mark, clients)}
}

// full is a state with as much of each thing as there may be, or nearly so.
func full() api.State {
	s := api.State{Epoch: 0x01020304}
	for i := range files {
		s.Files = append(s.Files, api.File{Name: strings.Repeat(string(rune('a'+i)), 8), Ver: most - i, Body: strings.Repeat(string(rune('A'+i)), 24)})
	}
	for i := range clients {
		s.Marks = append(s.Marks, api.Mark{Seq: most - i, Err: api.Errno(3 - i), File: 6 - i, Ver: 0x31323334 + i})
	}
	return s
}

// some is a state with room, short texts, a body of none.
func some() api.State {
	s := blank()
	s.Epoch, s.Marks[1] = 258, api.Mark{Seq: 3, Err: api.ENone, File: 4, Ver: 5}
	s.Files[0], s.Files[2] = api.File{Name: "ab", Ver: 7, Body: "xyz"}, api.File{Name: "!", Ver: 1}
	return s
}

// begun is some(), begun once more: of it just the first sector is another one.
func begun() api.State {
	s := some()
	s.Epoch++
	return s
}

// wrongStates are states that may not be, each by one thing.
func wrongStates() map[string]api.State {
	l := map[string]api.State{"nothing": {}, "no marks": {Files: make([]api.File, files)}, "no files": {Marks: make([]api.Mark, clients)}}
	add := func(what string, turn func(s *api.State)) {
		for i, s := range []api.State{full(), begun()} {
			turn(&s)
			l[fmt.Sprint(what, " of ", i)] = s
		}
	}
	for _, n := range []int{math.MinInt, -1 << 32, -1, most + 1, 1 << 32, 1<<32 + 1, math.MaxInt} {
		add(fmt.Sprint("Epoch ", n), func(s *api.State) { s.Epoch = n })
		add(fmt.Sprint("Seq ", n), func(s *api.State) { s.Marks[1].Seq = n })
		add(fmt.Sprint("Ver of a mark ", n), func(s *api.State) { s.Marks[2].Ver = n })
		add(fmt.Sprint("Ver of a file ", n), func(s *api.State) { s.Files[0].Ver = n })
		add(fmt.Sprint("File ", n), func(s *api.State) { s.Marks[0].File = n })
		add(fmt.Sprint("Err ", n), func(s *api.State) { s.Marks[0].Err = api.Errno(n) })
	}
	add("File 7", func(s *api.State) { s.Marks[1].File = 7 })
	add("Err 4", func(s *api.State) { s.Marks[1].Err = 4 })
	add("Ver 0 of a file", func(s *api.State) { s.Files[2].Ver = 0 })
	add("no name", func(s *api.State) { s.Files[0].Name = "" })
	add("a wrong name", func(s *api.State) { s.Files[0].Name = "a b" })
	add("a name of 9", func(s *api.State) { s.Files[0].Name = "123456789" })
	add("a name twice", func(s *api.State) { s.Files[2].Name = s.Files[0].Name })
	add("a body of 25", func(s *api.State) { s.Files[0].Body = strings.Repeat("b", 25) })
	add("five files", func(s *api.State) { s.Files = s.Files[:5] })
	add("seven files", func(s *api.State) { s.Files = append(s.Files, api.File{}) })
	add("two marks", func(s *api.State) { s.Marks = s.Marks[:2] })
	add("four marks", func(s *api.State) { s.Marks = append(s.Marks, api.Mark{}) })
	return l
}

// alike says whether a and b are the same state, thing by thing; of lists, nil is an empty one.
func alike(a, b api.State) bool {
	return slices.Equal(a.Files, b.Files) && slices.Equal(a.Marks, b.Marks) && a.Epoch == b.Epoch
}

// same says whether a and b are the same disk.
func same(a, b api.Disk) bool {
	return slices.Equal(a.Last, b.Last) && slices.Equal(a.Wait, b.Wait) && a.Arm == b.Arm && a.Down == b.Down
}

// asOne says whether a and b are the same store.
func asOne(a, b api.Store) bool { return same(a.D, b.D) && alike(a.S, b.S) }

// clone is d in memory of its own, by no call of the program.
func clone(d api.Disk) api.Disk {
	d.Last = append([]string{}, d.Last...)
	d.Wait = append([]api.Put{}, d.Wait...)
	return d
}

// armed is d, whose power goes at the n-th write from now.
func armed(d api.Disk, n int) api.Disk {
	d = clone(d)
	d.Arm = n
	return d
}

// holding is a disk on which s stands, with bytes of all kinds behind it.
func (d *dice) holding(s api.State) api.Disk {
	x := api.Disk{Last: image.Put(s)}
	for len(x.Last) < sectors {
		x.Last = append(x.Last, d.sector())
	}
	return x
}

// headOf is the head of some sectors, written out: 1, how many, each, noughts, 1.
func headOf(ats ...int) string {
	b := make([]byte, sector)
	b[0], b[1], b[sector-1] = 1, byte(len(ats)), 1
	for k, at := range ats {
		b[2+k] = byte(at)
	}
	return string(b)
}

// changes are the sectors of b's image that are unlike a's.
func changes(a, b api.State) []api.Put {
	was := image.Put(a)
	var l []api.Put
	for i, x := range image.Put(b) {
		if x != was[i] {
			l = append(l, api.Put{At: i, B: x})
		}
	}
	return l
}

// steps are the writes of a commit, in its parts, each of which is flushed; of nothing there are none.
func steps(l []api.Put) [][]api.Put {
	if len(l) == 0 {
		return nil
	}
	var copies []api.Put
	var ats []int
	for k, p := range l {
		copies = append(copies, api.Put{At: 10 + k, B: p.B})
		ats = append(ats, p.At)
	}
	return [][]api.Put{{{At: 9, B: strings.Repeat("\x00", sector)}}, copies, {{At: 9, B: headOf(ats...)}}, l}
}

// done is d behind these parts, and whether it said yes to all: what a disk does, written out.
func done(d api.Disk, parts [][]api.Put) (api.Disk, bool) {
	d = clone(d)
	for _, part := range parts {
		for _, p := range part {
			if d.Down {
				return d, false
			}
			d.Wait = append(d.Wait, p)
			if d.Arm > 0 {
				d.Arm--
				d.Down = d.Arm == 0
			}
		}
		if d.Down {
			return d, false
		}
		for _, p := range d.Wait {
			d.Last[p.At] = p.B
		}
		d.Wait = nil
	}
	return d, true
}

// named are the sectors that a head names; no where it is not right.
func named(h string) ([]int, bool) {
	var ats []int
	for _, at := range []byte(h[2 : 2+min(int(h[1]), 9)]) {
		if at >= home || len(ats) > 0 && int(at) <= ats[len(ats)-1] {
			return nil, false
		}
		ats = append(ats, int(at))
	}
	return ats, len(ats) > 0 && h == headOf(ats...)
}

// opened is what Open should answer of d, whose sectors are of the right length.
func opened(d api.Disk) (api.Store, bool) {
	if len(d.Last) != sectors || d.Down {
		return api.Store{}, false
	}
	is := clone(d)
	for _, p := range d.Wait {
		is.Last[p.At] = p.B
	}
	if ats, right := named(is.Last[home]); right {
		var l []api.Put
		for k, at := range ats {
			l = append(l, api.Put{At: at, B: is.Last[home+1+k]})
		}
		var ok bool
		if d, ok = done(d, [][]api.Put{l}); !ok {
			return api.Store{}, false
		}
		is = d
	}
	s, ok := image.Take(is.Last[:home])
	if !ok {
		return api.Store{}, false
	}
	return api.Store{D: clone(d), S: s}, true
}
