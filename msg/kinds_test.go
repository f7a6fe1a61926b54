package msg_test

import (
	"encoding/binary"
	"math/bits"
	"slices"
	"strings"

	"tenancy/api"
)

// The limits, as the tests count on them.
const (
	clients = 3
	files   = 6
	room    = 24
	dirty   = 5
	most    = 1 << 30
)

// dice is a row of numbers by a rule that mixes them, the same each time (splitmix64).
type dice uint64

func (d *dice) below(n int) int {
	*d += 0x9e3779b97f4a7c15
	x := uint64(*d)
	x = (x ^ x>>30) * 0xbf58476d1ce4e5b9
	x = (x ^ x>>27) * 0x94d049bb133111eb
	return int((x ^ x>>31) % uint64(n))
}

// text is n bytes, each from least to most.
func (d *dice) text(n, least, most int) string {
	b := make([]byte, n)
	for i := range b {
		b[i] = byte(least + d.below(most-least+1))
	}
	return string(b)
}

// number is one from least to MaxNum, small or great.
func (d *dice) number(least int) int {
	return max(least, []int{0, 1, 2, 255, 256, 65535, 65536, 1 << 24, most - 1, most, d.below(most + 1), d.below(1000)}[d.below(12)])
}

func (d *dice) write() api.Write {
	n := 1 + d.below(room)
	return api.Write{Off: d.below(room - n + 1), B: d.text(n, 0, 255)}
}

// ask is one that may be asked.
func (d *dice) ask() api.Ask {
	a := api.Ask{Kind: 1 + d.below(5), From: 1 + d.below(clients), Epoch: d.number(0), Seq: d.number(1)}
	if a.Kind == api.AskOpen {
		a.Name = d.text(1+d.below(8), 33, 126)
		return a
	}
	a.File = 1 + d.below(files)
	writes := 0
	switch a.Kind {
	case api.AskLease:
		a.Mode = 1 + d.below(2)
	case api.AskFlush:
		writes = 1 + d.below(dirty)
	case api.AskGive:
		writes = d.below(dirty + 1)
	}
	for range writes {
		a.Writes = append(a.Writes, d.write())
	}
	return a
}

// tell is one that may be told.
func (d *dice) tell() api.Tell {
	t := api.Tell{Kind: 1 + d.below(3), To: 1 + d.below(clients), Epoch: d.number(0)}
	switch t.Kind {
	case api.TellDone:
		t.Seq, t.Err, t.File, t.Mode = d.number(1), api.Errno(d.below(8)), d.below(files+1), d.below(3)
		t.Ver, t.Body = d.number(0), d.text(d.below(room+1), 0, 255)
	case api.TellRecall:
		t.File = 1 + d.below(files)
	}
	return t
}

func writes(l ...api.Write) []api.Write { return l }

func write(off int, b string) api.Write { return api.Write{Off: off, B: b} }

// fullWrites are as many as there may be, as long as they may be.
func fullWrites() []api.Write {
	var l []api.Write
	for i := range dirty {
		l = append(l, write(0, strings.Repeat(string(rune('a'+i)), room)))
	}
	return l
}

// someAsks are asks of each kind, short and long ones.
func someAsks() []api.Ask {
	return []api.Ask{
		{Kind: api.AskOpen, From: 1, Seq: 1, Name: "a"},
		{Kind: api.AskOpen, From: 3, Epoch: most, Seq: most, Name: "12345678"},
		{Kind: api.AskLease, From: 2, Epoch: 0x01020304, Seq: 0x05060708, File: 6, Mode: api.Reads},
		{Kind: api.AskLease, From: 2, Epoch: 5, Seq: 9, File: 1, Mode: api.Wrote},
		{Kind: api.AskFlush, From: 2, Epoch: 5, Seq: 258, File: 1, Writes: writes(write(23, "x"))},
		{Kind: api.AskFlush, From: 1, Epoch: 1, Seq: 2, File: 6, Writes: writes(write(0, "a"), write(1, "\x00"), write(2, "\xff\xfe"), write(21, "xyz"), write(0, "123456789012345678901234"))},
		{Kind: api.AskGive, From: 2, Epoch: 5, Seq: 9, File: 1},
		{Kind: api.AskGive, From: 2, Epoch: 5, Seq: 9, File: 1, Writes: writes(write(2, "xy"))},
		{Kind: api.AskGive, From: 3, Epoch: most, Seq: most, File: 6, Writes: fullWrites()},
		{Kind: api.AskGone, From: 3, Epoch: 65535, Seq: 65536, File: 4},
	}
}

// someTells are tells of each kind, short and long ones.
func someTells() []api.Tell {
	return []api.Tell{
		{Kind: api.TellDone, To: 1, Seq: 1},
		{Kind: api.TellDone, To: 3, Epoch: most, Seq: most, Err: api.EHush, File: 6, Mode: api.Wrote, Ver: most, Body: "123456789012345678901234"},
		{Kind: api.TellDone, To: 2, Epoch: 0x01020304, Seq: 0x05060708, Err: api.ELost, File: 3, Mode: api.Reads, Ver: 0x090a0b0c, Body: "\x00\xff"},
		{Kind: api.TellRecall, To: 2, Epoch: 3, File: 1},
		{Kind: api.TellRecall, To: 1, File: 6},
		{Kind: api.TellEpoch, To: 2},
		{Kind: api.TellEpoch, To: 3, Epoch: most},
	}
}

func within(n, least, most int) bool { return least <= n && n <= most }

// askKinds is of each kind of ask which names, files, modes, and how many writes it has: from the one to the other.
func askKinds() map[int]struct{ name, file, mode, writes [2]int } {
	none, file := [2]int{}, [2]int{1, files}
	return map[int]struct{ name, file, mode, writes [2]int }{
		api.AskOpen:  {[2]int{1, 8}, none, none, none},
		api.AskLease: {none, file, [2]int{1, 2}, none},
		api.AskFlush: {none, file, none, [2]int{1, dirty}},
		api.AskGive:  {none, file, none, [2]int{0, dirty}},
		api.AskGone:  {none, file, none, none},
	}
}

// mayAsk is whether a may be asked, by the table.
func mayAsk(a api.Ask) bool {
	k, ok := askKinds()[a.Kind]
	ok = ok && within(a.From, 1, clients) && within(a.Epoch, 0, most) && within(a.Seq, 1, most)
	ok = ok && within(len(a.Name), k.name[0], k.name[1]) && within(a.File, k.file[0], k.file[1])
	ok = ok && within(a.Mode, k.mode[0], k.mode[1]) && within(len(a.Writes), k.writes[0], k.writes[1])
	for i := range len(a.Name) {
		ok = ok && within(int(a.Name[i]), 33, 126)
	}
	for _, w := range a.Writes {
		ok = ok && within(len(w.B), 1, room) && within(w.Off, 0, room-len(w.B))
	}
	return ok
}

// mayTell is whether t may be told, by ranges.
func mayTell(t api.Tell) bool {
	ok := within(t.To, 1, clients) && within(t.Epoch, 0, most)
	if t.Kind == api.TellDone {
		return ok && within(t.Seq, 1, most) && within(int(t.Err), 0, 7) && within(t.File, 0, files) &&
			within(t.Mode, 0, 2) && within(t.Ver, 0, most) && len(t.Body) <= room
	}
	ok = ok && t.Seq == 0 && t.Err == 0 && t.Mode == 0 && t.Ver == 0 && t.Body == ""
	return ok && (t.Kind == api.TellRecall && within(t.File, 1, files) || t.Kind == api.TellEpoch && t.File == 0)
}

// sumOf is the sum of b, worked out with the polynomial as it is written and every byte turned instead.
func sumOf(b []byte) uint16 {
	s := uint16(0)
	for _, x := range b {
		s ^= uint16(bits.Reverse8(x)) << 8
		for range 8 {
			top := s >> 15
			s = s<<1 ^ top*0x8005
		}
	}
	return bits.Reverse16(s)
}

// sealed is b, then its sum, the highest byte first.
func sealed(b []byte) []byte {
	return binary.BigEndian.AppendUint16(slices.Clone(b), sumOf(b))
}

// open is b without its sum.
func open(b []byte) []byte { return slices.Clone(b[:len(b)-2]) }

func laidText(b []byte, s string) []byte { return append(append(b, byte(len(s))), s...) }

func laidNumber(b []byte, v int) []byte { return binary.BigEndian.AppendUint32(b, uint32(v)) }

// laidAsk is a, each thing laid behind the other, whether it may be or not.
func laidAsk(a api.Ask) []byte {
	b := laidNumber(laidNumber([]byte{byte(a.Kind), byte(a.From)}, a.Epoch), a.Seq)
	b = append(laidText(b, a.Name), byte(a.File), byte(a.Mode), byte(len(a.Writes)))
	for _, w := range a.Writes {
		b = laidText(append(b, byte(w.Off)), w.B)
	}
	return sealed(b)
}

// laidTell is t, each thing laid behind the other, whether it may be or not.
func laidTell(t api.Tell) []byte {
	b := laidNumber(laidNumber([]byte{byte(t.Kind), byte(t.To)}, t.Epoch), t.Seq)
	b = laidNumber(append(b, byte(t.Err), byte(t.File), byte(t.Mode)), t.Ver)
	return sealed(laidText(b, t.Body))
}

// lifter lifts one thing behind the other; short: there was no more.
type lifter struct {
	b     []byte
	short bool
}

// next is the next n bytes; noughts where there are no more.
func (l *lifter) next(n int) []byte {
	if n > len(l.b) {
		l.b, l.short = nil, true
		return make([]byte, n)
	}
	x := l.b[:n]
	l.b = l.b[n:]
	return x
}

func (l *lifter) byte() int { return int(l.next(1)[0]) }

func (l *lifter) number() int { return int(binary.BigEndian.Uint32(l.next(4))) }

func (l *lifter) text() string { return string(l.next(l.byte())) }

// ends says whether all was lifted, and just what there was.
func (l *lifter) ends() bool { return !l.short && len(l.b) == 0 }

// summed says whether b ends in the sum of what is ahead of it.
func summed(b []byte) bool {
	return len(b) >= 2 && slices.Equal(sealed(b[:len(b)-2]), b)
}

// liftedAsk is what b asks, and whether it asks anything.
func liftedAsk(b []byte) (api.Ask, bool) {
	if !summed(b) {
		return api.Ask{}, false
	}
	l := &lifter{b: open(b)}
	a := api.Ask{Kind: l.byte(), From: l.byte(), Epoch: l.number(), Seq: l.number(), Name: l.text(), File: l.byte(), Mode: l.byte()}
	for n := l.byte(); n > 0 && !l.short; n-- {
		a.Writes = append(a.Writes, api.Write{Off: l.byte(), B: l.text()})
	}
	if !l.ends() || !mayAsk(a) {
		return api.Ask{}, false
	}
	return a, true
}

// liftedTell is what b tells, and whether it tells anything.
func liftedTell(b []byte) (api.Tell, bool) {
	if !summed(b) {
		return api.Tell{}, false
	}
	l := &lifter{b: open(b)}
	t := api.Tell{Kind: l.byte(), To: l.byte(), Epoch: l.number(), Seq: l.number(), Err: api.Errno(l.byte()), File: l.byte(), Mode: l.byte(), Ver: l.number(), Body: l.text()}
	if !l.ends() || !mayTell(t) {
		return api.Tell{}, false
	}
	return t, true
}

// alike says whether a and b are the same, thing by thing.
func alike(a, b api.Ask) bool {
	if len(a.Writes) != len(b.Writes) {
		return false
	}
	for i, w := range a.Writes {
		if w != b.Writes[i] {
			return false
		}
	}
	return a.Kind == b.Kind && a.From == b.From && a.Epoch == b.Epoch && a.Seq == b.Seq && a.Name == b.Name && a.File == b.File && a.Mode == b.Mode
}
