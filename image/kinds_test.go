package image_test

import (
	"encoding/binary"
	"fmt"
	"math"
	"strings"

	"tenancy/api"
)

// The limits, and the places in an image, as the tests count on them.
const (
	files    = 6
	clients  = 3
	most     = 1 << 30
	sector   = 32
	sectors  = 9
	whole    = sector * sectors
	used     = 262
	markAt   = 4
	markSize = 10
	fileAt   = 34
	fileSize = 38
	bodyAt   = 13
)

// dice is a row of numbers by a rule that mixes them, the same each time (splitmix64).
type dice uint64

func (d *dice) below(n int) int {
	*d += 0x9e3779b97f4a7c15
	x := uint64(*d)
	x = (x ^ x>>30) * 0xbf58476d1ce4e5b9
	x = (x ^ x>>27) * 0x94d049bb133111eb
	return int((x ^ x>>31) % uint64(n))
}

// text is n bytes, each from least to most.
func (d *dice) text(n, least, most int) string {
	b := make([]byte, n)
	for i := range b {
		b[i] = byte(least + d.below(most-least+1))
	}
	return string(b)
}

// number is one from least to MaxNum, small or great.
func (d *dice) number(least int) int {
	return max(least, []int{0, 1, 2, 255, 256, 65535, 65536, 1 << 24, most - 1, most, d.below(most + 1), d.below(1000)}[d.below(12)])
}

// state is one that may be.
func (d *dice) state() api.State {
	s := api.State{Files: make([]api.File, files), Marks: make([]api.Mark, clients), Epoch: d.number(0)}
	for i := range s.Marks {
		if d.below(4) > 0 {
			s.Marks[i] = api.Mark{Seq: d.number(0), Err: api.Errno(d.below(4)), File: d.below(files + 1), Ver: d.number(0)}
		}
	}
	named := map[string]bool{"": true}
	for i := range s.Files {
		name := d.text(d.below(9), 33, 126)
		if !named[name] {
			s.Files[i] = api.File{Name: name, Ver: d.number(1), Body: d.text(d.below(25), 0, 255)}
		}
		named[name] = true
	}
	return s
}

func blank() api.State {
	return api.State{Files: make([]api.File, files), Marks: make([]api.Mark, clients)}
}

// full is a state with as much of each thing as there may be, or nearly so, in which each number is another one.
func full() api.State {
	s := api.State{Epoch: 0x01020304}
	for i := range files {
		s.Files = append(s.Files, api.File{Name: strings.Repeat(string(rune('a'+i)), 8), Ver: 0x11121314 + i, Body: strings.Repeat(string(rune('A'+i)), 24)})
	}
	for i := range clients {
		s.Marks = append(s.Marks, api.Mark{Seq: 0x21222324 + i, Err: api.Errno(3 - i), File: 6 - i, Ver: 0x31323334 + i})
	}
	s.Files[4].Ver, s.Marks[1].Seq, s.Marks[2].Ver = most, most, most
	return s
}

// some is a state with room, short texts, bodies of none and of noughts.
func some() api.State {
	s := blank()
	s.Epoch, s.Marks[1] = 258, api.Mark{Seq: 3, Err: api.ENone, File: 4, Ver: 5}
	s.Files[0], s.Files[2] = api.File{Name: "ab", Ver: 7, Body: "xyz"}, api.File{Name: "!", Ver: 1}
	s.Files[3], s.Files[5] = api.File{Name: "~", Ver: 256, Body: "\x00\x00"}, api.File{Name: "12345678", Ver: most, Body: "\xff" + strings.Repeat("\x00", 23)}
	return s
}

// states are such as may be.
func states() []api.State {
	l := []api.State{blank(), full(), some()}
	throw := dice(1)
	for range 300 {
		l = append(l, throw.state())
	}
	return l
}

// wrongStates are states that may not be, each by one thing; what of it is put in so many bytes would be another one's.
func wrongStates() map[string]api.State {
	l := map[string]api.State{"nothing": {}, "no marks": {Files: make([]api.File, files)}, "no files": {Marks: make([]api.Mark, clients)}}
	add := func(what string, turn func(s *api.State)) {
		for i, s := range []api.State{full(), some()} {
			turn(&s)
			l[fmt.Sprint(what, " of ", i)] = s
		}
	}
	for _, n := range []int{math.MinInt, -1 << 32, -1<<32 + 1, -1, most + 1, 1 << 31, 1<<32 - 1, 1 << 32, 1<<32 + 1, math.MaxInt} {
		add(fmt.Sprint("Epoch ", n), func(s *api.State) { s.Epoch = n })
		add(fmt.Sprint("Seq ", n), func(s *api.State) { s.Marks[1].Seq = n })
		add(fmt.Sprint("Ver of a mark ", n), func(s *api.State) { s.Marks[2].Ver = n })
		add(fmt.Sprint("Ver of a file ", n), func(s *api.State) { s.Files[0].Ver = n })
	}
	for _, n := range []int{math.MinInt, -256, -255, -1, 7, 8, 255, 256, 257, math.MaxInt} {
		add(fmt.Sprint("File ", n), func(s *api.State) { s.Marks[0].File = n })
		add(fmt.Sprint("Err ", n), func(s *api.State) { s.Marks[0].Err = api.Errno(n) })
	}
	add("Err 4", func(s *api.State) { s.Marks[1].Err = 4 })
	add("Ver 0 of a file", func(s *api.State) { s.Files[5].Ver = 0 })
	add("no name", func(s *api.State) { s.Files[0].Name = "" })
	add("a wrong name", func(s *api.State) { s.Files[0].Name = "a b" })
	add("a name of 9", func(s *api.State) { s.Files[0].Name = "123456789" })
	add("a name of 264", func(s *api.State) { s.Files[0].Name = strings.Repeat("n", 264) })
	add("a name twice", func(s *api.State) { s.Files[2].Name = s.Files[5].Name })
	add("a body of 25", func(s *api.State) { s.Files[5].Body = strings.Repeat("b", 25) })
	add("a body of 256", func(s *api.State) { s.Files[5].Body = strings.Repeat("b", 256) })
	add("five files", func(s *api.State) { s.Files = s.Files[:5] })
	add("seven files", func(s *api.State) { s.Files = append(s.Files, api.File{}) })
	add("two marks", func(s *api.State) { s.Marks = s.Marks[:2] })
	add("four marks", func(s *api.State) { s.Marks = append(s.Marks, api.Mark{}) })
	return l
}

// laid is all of s's bytes, each thing laid at its place.
func laid(s api.State) string {
	b := make([]byte, whole)
	number := func(at, v int) { binary.BigEndian.PutUint32(b[at:], uint32(v)) }
	text := func(at int, s string) {
		b[at] = byte(len(s))
		copy(b[at+1:], s)
	}
	number(0, s.Epoch)
	for i, m := range s.Marks {
		at := markAt + markSize*i
		number(at, m.Seq)
		b[at+4], b[at+5] = byte(m.Err), byte(m.File)
		number(at+6, m.Ver)
	}
	for i, f := range s.Files {
		at := fileAt + fileSize*i
		text(at, f.Name)
		number(at+9, f.Ver)
		text(at+bodyAt, f.Body)
	}
	return string(b)
}

// cut is b in parts of so many bytes; the last may be of fewer.
func cut(b string, size int) []string {
	var l []string
	for len(b) > size {
		l, b = append(l, b[:size]), b[size:]
	}
	return append(l, b)
}

// lifted is the state that b says, each thing lifted from its place, and whether b is the image of one: each byte is looked at.
func lifted(b string) (api.State, bool) {
	s, good := blank(), len(b) == whole && strings.Trim(b[used:], "\x00") == ""
	if !good {
		return api.State{}, false
	}
	number := func(at int) int {
		v := int(binary.BigEndian.Uint32([]byte(b[at:])))
		good = good && v <= most
		return v
	}
	text := func(at, room int) string {
		size := int(b[at])
		if size > room || strings.Trim(b[at+1+size:at+1+room], "\x00") != "" {
			good = false
			return ""
		}
		return b[at+1 : at+1+size]
	}
	s.Epoch = number(0)
	for i := range s.Marks {
		at := markAt + markSize*i
		good = good && b[at+4] <= 3 && b[at+5] <= files
		s.Marks[i] = api.Mark{Seq: number(at), Err: api.Errno(b[at+4]), File: int(b[at+5]), Ver: number(at + 6)}
	}
	for i := range s.Files {
		at := fileAt + fileSize*i
		f := api.File{Name: text(at, 8), Ver: number(at + 9), Body: text(at+bodyAt, 24)}
		good = good && mayStand(s.Files[:i], f)
		s.Files[i] = f
	}
	if !good {
		return api.State{}, false
	}
	return s, true
}

// mayStand says whether f may stand behind these.
func mayStand(ahead []api.File, f api.File) bool {
	if f.Name == "" {
		return f.Ver == 0 && f.Body == ""
	}
	for _, x := range ahead {
		if x.Name == f.Name {
			return false
		}
	}
	for _, c := range []byte(f.Name) {
		if c <= ' ' || c >= 0x7f {
			return false
		}
	}
	return f.Ver > 0
}

// alike says whether a and b are the same, thing by thing.
func alike(a, b api.State) bool {
	if len(a.Files) != len(b.Files) || len(a.Marks) != len(b.Marks) {
		return false
	}
	for i, f := range a.Files {
		if f != b.Files[i] {
			return false
		}
	}
	for i, m := range a.Marks {
		if m != b.Marks[i] {
			return false
		}
	}
	return a.Epoch == b.Epoch
}
