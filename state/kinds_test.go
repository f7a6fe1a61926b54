package state_test

import (
	"fmt"
	"math"
	"slices"
	"strings"

	"tenancy/api"
)

// The limits, as the tests count on them.
const (
	files   = 6
	clients = 3
	most    = 1 << 30
	body    = 24
	dirty   = 5
)

// dice is a row of numbers by a rule that mixes them, the same each time (splitmix64).
type dice uint64

func (d *dice) below(n int) int {
	*d += 0x9e3779b97f4a7c15
	x := uint64(*d)
	x = (x ^ x>>30) * 0xbf58476d1ce4e5b9
	x = (x ^ x>>27) * 0x94d049bb133111eb
	return int((x ^ x>>31) % uint64(n))
}

// text is n bytes of all kinds.
func (d *dice) text(n int) string {
	b := make([]byte, n)
	for i := range b {
		b[i] = byte(d.below(256))
	}
	return string(b)
}

// one is one of l.
func one[T any](d *dice, l []T) T { return l[d.below(len(l))] }

// numbers are such around which an answer turns, and the farthest.
var numbers = []int{math.MinInt, math.MinInt + 1, -1 << 32, -1<<32 + 1, -2, -1, 0, 1, 2, 3, 4, 5, 6, 7, 8, 255, 256, 257, most - 1, most, most + 1, 1 << 31, 1 << 32, 1<<32 + 1, math.MaxInt - 1, math.MaxInt}

var goodNames = []string{"a", "A", "b", "aa", "f", "g", "!", "~", "12345678", "1234567", "a.txt", "abcdefgh", "abcdefgH"}

// wrongNames may not be a file's; the first of them is none.
var wrongNames = []string{"", " ", "a b", "a ", " a", "\x00", "a\x00", "\x1f", "\x7f", "\x80", "é", "123456789", "abcdefgh ", strings.Repeat("a", 256), strings.Repeat("a", 264)}

// signs are the bytes that a name may be of: 33 to 126.
const signs = "!\"#$%&'()*+,-./0123456789:;<=>?@ABCDEFGHIJKLMNOPQRSTUVWXYZ[\\]^_`abcdefghijklmnopqrstuvwxyz{|}~"

func of(name string, ver int, body string) api.File {
	return api.File{Name: name, Ver: ver, Body: body}
}

func under(seq int, err api.Errno, file, ver int) api.Mark {
	return api.Mark{Seq: seq, Err: err, File: file, Ver: ver}
}

// full is a state that may be, with six files and three marks, no two of which have more in common than a number.
func full() api.State {
	return api.State{
		Files: []api.File{of("a", 1, "x"), of("bb", 7, ""), of("12345678", most, strings.Repeat("\xff", body)), of("d", most-1, "\x00"), of("e", 2, "abc\x00def"), of("f", 3, strings.Repeat("y", body-1))},
		Marks: []api.Mark{under(5, api.OK, 3, 9), under(most, api.EFull, 0, most), under(1, api.ENone, 6, 0)},
		Epoch: 4,
	}
}

// some is a state that may be, with room at its second place, its third and its last.
func some() api.State {
	s := full()
	s.Files[1], s.Files[2], s.Files[5] = api.File{}, api.File{}, api.File{}
	s.Marks[1] = api.Mark{}
	return s
}

// copied is s in memory of its own.
func copied(s api.State) api.State {
	s.Files, s.Marks = slices.Clone(s.Files), slices.Clone(s.Marks)
	return s
}

// turn is a change of a state, and whether it may be then.
type turn struct {
	what string
	do   func(s *api.State)
	may  bool
}

// turns are changes of one thing of a full state, at each place.
func turns() []turn {
	l := append(turnsOfNumbers(), turnsOfFiles()...)
	for n := range 30 {
		l = append(l, turn{fmt.Sprint(n, " files"), func(s *api.State) { s.Files = slices.Concat(s.Files, make([]api.File, 30))[:n] }, n == files})
		l = append(l, turn{fmt.Sprint(n, " marks"), func(s *api.State) { s.Marks = slices.Concat(s.Marks, make([]api.Mark, 30))[:n] }, n == clients})
	}
	return l
}

func turnsOfNumbers() []turn {
	var l []turn
	add := func(what string, do func(s *api.State), may bool) { l = append(l, turn{what, do, may}) }
	for _, n := range numbers {
		add(fmt.Sprint("Epoch ", n), func(s *api.State) { s.Epoch = n }, n >= 0 && n <= most)
		for i := range files {
			add(fmt.Sprint("Ver ", n, " of file ", i), func(s *api.State) { s.Files[i].Ver = n }, n >= 1 && n <= most)
			add(fmt.Sprint("no name, Ver ", n, " of file ", i), func(s *api.State) { s.Files[i] = of("", n, "") }, n == 0)
		}
		for i := range clients {
			add(fmt.Sprint("Seq ", n, " of mark ", i), func(s *api.State) { s.Marks[i].Seq = n }, n >= 0 && n <= most)
			add(fmt.Sprint("Ver ", n, " of mark ", i), func(s *api.State) { s.Marks[i].Ver = n }, n >= 0 && n <= most)
			add(fmt.Sprint("File ", n, " of mark ", i), func(s *api.State) { s.Marks[i].File = n }, n >= 0 && n <= 6)
			add(fmt.Sprint("Err ", n, " of mark ", i), func(s *api.State) { s.Marks[i].Err = api.Errno(n) }, n >= 0 && n <= 3)
		}
	}
	return l
}

func turnsOfFiles() []turn {
	var l []turn
	add := func(what string, do func(s *api.State), may bool) { l = append(l, turn{what, do, may}) }
	for i := range files {
		for _, n := range []int{0, 1, 2, 23, 24, 25, 26, 31, 32, 255, 256, 257, 280, 1 << 16, 1<<16 + 3} {
			b := strings.Repeat("\x00", n)
			add(fmt.Sprint(n, " bytes of file ", i), func(s *api.State) { s.Files[i].Body = b }, n <= body)
			add(fmt.Sprint("no name, ", n, " bytes of file ", i), func(s *api.State) { s.Files[i] = of("", 0, b) }, n == 0)
		}
		for _, name := range wrongNames {
			add(fmt.Sprintf("%q of file %d", name, i), func(s *api.State) { s.Files[i].Name = name }, false)
		}
		for _, name := range []string{"B", "BB", "b", "E", "1234567", "23456789", "!", "~~~~~~~~"} {
			add(fmt.Sprintf("%q of file %d", name, i), func(s *api.State) { s.Files[i].Name = name }, true)
		}
		for j := range files {
			add(fmt.Sprint("the name of file ", j, " of file ", i), func(s *api.State) { s.Files[i].Name = s.Files[j].Name }, i == j)
		}
		add(fmt.Sprint("nothing of file ", i), func(s *api.State) { s.Files[i] = api.File{} }, true)
	}
	return l
}

// wrongStates are states that may not be, most of them by one thing.
func wrongStates() []api.State {
	l := []api.State{{}, {Epoch: 1}, {Files: make([]api.File, files)}, {Marks: make([]api.Mark, clients)}, {Files: make([]api.File, clients), Marks: make([]api.Mark, files)}}
	for _, x := range turns() {
		if s := full(); !x.may {
			x.do(&s)
			l = append(l, s)
		}
	}
	return l
}

// faults is how much of s is not as it may be, each thing counted by itself.
func faults(s api.State) (n int) {
	count := func(wrong bool) {
		if wrong {
			n++
		}
	}
	count(len(s.Files) != files)
	count(len(s.Marks) != clients)
	count(s.Epoch < 0 || s.Epoch > most)
	names := map[string]int{}
	for _, f := range s.Files {
		if f.Name == "" {
			count(f.Ver != 0)
			count(f.Body != "")
			continue
		}
		names[f.Name]++
		count(names[f.Name] > 1)
		count(len(f.Name) > 8)
		count(strings.Trim(f.Name, signs) != "")
		count(f.Ver <= 0 || f.Ver > most)
		count(len(f.Body) > body)
	}
	for _, m := range s.Marks {
		count(m.Seq < 0 || m.Seq > most)
		count(m.Ver < 0 || m.Ver > most)
		count(m.File < 0 || m.File > files)
		count(!slices.Contains([]api.Errno{api.OK, api.EArg, api.ENone, api.EFull}, m.Err))
	}
	return n
}

// alike says whether a and b are the same, thing by thing.
func alike(a, b api.State) bool {
	unlike := len(a.Files) != len(b.Files) || len(a.Marks) != len(b.Marks) || a.Epoch != b.Epoch
	for i := 0; !unlike && i < len(a.Files); i++ {
		unlike = a.Files[i] != b.Files[i]
	}
	for i := 0; !unlike && i < len(a.Marks); i++ {
		unlike = a.Marks[i] != b.Marks[i]
	}
	return !unlike
}

// text says all of s, each thing apart from the next; nil as an empty list.
func text(s api.State) string {
	l := []string{fmt.Sprint(s.Epoch)}
	for _, f := range s.Files {
		l = append(l, fmt.Sprintf("%q %d %q", f.Name, f.Ver, f.Body))
	}
	for _, m := range s.Marks {
		l = append(l, fmt.Sprint(m.Seq, int(m.Err), m.File, m.Ver))
	}
	return strings.Join(l, ", ")
}
