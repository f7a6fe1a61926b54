package msg_test

import (
	"fmt"
	"slices"
	"testing"

	"tenancy/api"
	"tenancy/msg"
)

// messages are someBytes, and n others.
func messages(n int) [][]byte {
	l, throw := someBytes(), dice(4)
	for range n {
		l = append(l, msg.PutAsk(throw.ask()), msg.PutTell(throw.tell()))
	}
	return l
}

// TestWhatWasTurnedIsNone: each byte turned to each other one, those of the sum too.
func TestWhatWasTurnedIsNone(t *testing.T) {
	for _, x := range messages(10) {
		b := slices.Clone(x)
		for at := range b {
			for by := 1; by < 256; by++ {
				b[at] ^= byte(by)
				mustBeNone(t, fmt.Sprint("byte ", at), b)
				b[at] ^= byte(by)
			}
		}
	}
}

// TestBitsThatWereTurned: any one and any two bits, and any three of a short one.
func TestBitsThatWereTurned(t *testing.T) {
	turn := func(b []byte, bit int) { b[bit/8] ^= 1 << (bit % 8) }
	for _, x := range someBytes() {
		b := slices.Clone(x)
		for i := range 8 * len(b) {
			turn(b, i)
			mustBeNone(t, "a bit", b)
			for k := range i {
				turn(b, k)
				mustBeNone(t, "two bits", b)
				turn(b, k)
			}
			turn(b, i)
		}
	}
	b := laidAsk(someAsks()[0])
	for i := range 8 * len(b) {
		for k := range i {
			for m := range k {
				turn(b, i)
				turn(b, k)
				turn(b, m)
				mustBeNone(t, "three bits", b)
				turn(b, i)
				turn(b, k)
				turn(b, m)
			}
		}
	}
}

// TestTwoBytesThatWereTurned: two bytes, one behind the other, ahead of the sum.
func TestTwoBytesThatWereTurned(t *testing.T) {
	for _, x := range [][]byte{laidAsk(someAsks()[7]), laidTell(someTells()[2])} {
		b := slices.Clone(x)
		for at := range len(b) - 3 {
			for by := 1; by < 1<<16; by += 7 {
				b[at] ^= byte(by >> 8)
				b[at+1] ^= byte(by)
				mustBeNone(t, fmt.Sprint("bytes ", at), b)
				b[at] ^= byte(by >> 8)
				b[at+1] ^= byte(by)
			}
		}
	}
}

// TestNoAskIsATell: what is asked is nothing that is told, and the other way round, whoever it comes to.
func TestNoAskIsATell(t *testing.T) {
	throw := dice(5)
	asks, tells := someAsks(), someTells()
	for range 20000 {
		asks, tells = append(asks, throw.ask()), append(tells, throw.tell())
	}
	for _, a := range asks {
		if x, ok := msg.TakeTell(msg.PutAsk(a)); ok || x != (api.Tell{}) {
			t.Fatalf("%v tells %v", a, x)
		}
	}
	for _, x := range tells {
		if a, ok := msg.TakeAsk(msg.PutTell(x)); ok || !alike(a, api.Ask{}) {
			t.Fatalf("%v asks %v", x, a)
		}
	}
}

// TestEachIsAnotherOne: no two that are unlike are put alike.
func TestEachIsAnotherOne(t *testing.T) {
	asks, tells := map[string]api.Ask{}, map[string]api.Tell{}
	throw := dice(6)
	near := func(n int) int { return n + throw.below(2) }
	for range 50000 {
		a, x := throw.ask(), throw.tell()
		a.From, a.Epoch, a.Seq = near(1), near(255), near(255)
		for i := range a.Writes {
			a.Writes[i] = write(throw.below(2), throw.text(1+throw.below(3), 0, 1))
		}
		x.To, x.Epoch, x.Body = near(1), near(0), throw.text(min(len(x.Body), throw.below(2)), 0, 1)
		ab, xb := string(msg.PutAsk(a)), string(msg.PutTell(x))
		if ab == "" || xb == "" {
			t.Fatalf("%v or %v may not be", a, x)
		}
		if was, ok := asks[ab]; ok && !alike(was, a) {
			t.Fatalf("%v and %v are both %x", was, a, ab)
		}
		if was, ok := tells[xb]; ok && was != x {
			t.Fatalf("%v and %v are both %x", was, x, xb)
		}
		asks[ab], tells[xb] = a, x
	}
	if len(asks) < 1000 || len(tells) < 1000 {
		t.Errorf("%d and %d are few", len(asks), len(tells))
	}
}

// ear is one who does what is asked once, of its epoch, in order; bad is how many were no messages.
type ear struct {
	epoch, bad int
	seen       [clients + 1]int
	done       []api.Ask
}

func (e *ear) hear(b []byte) {
	a, ok := msg.TakeAsk(b)
	if !ok {
		e.bad++
		return
	}
	if a.Epoch == e.epoch && a.Seq > e.seen[a.From] {
		e.seen[a.From] = a.Seq
		e.done = append(e.done, a)
	}
}

// TestDeaf (W5, as far as this layer has a part in it): amid what was turned, cut, told, of another epoch, or comes again, the same is done as without; what is no message is counted, and nothing else is.
func TestDeaf(t *testing.T) {
	throw := dice(7)
	for range 300 {
		quiet, loud := &ear{epoch: throw.number(1)}, &ear{}
		loud.epoch = quiet.epoch
		var sent [][]byte
		bad, seq := 0, [clients + 1]int{}
		for range 30 {
			a := throw.ask()
			seq[a.From] += 1 + throw.below(300)
			a.Epoch, a.Seq = quiet.epoch, seq[a.From]
			b := msg.PutAsk(a)
			quiet.hear(b)
			loud.hear(b)
			sent = append(sent, b)
			for range throw.below(4) {
				noise, isBad := throw.noise(a, sent)
				loud.hear(noise)
				if isBad {
					bad++
				}
			}
		}
		if quiet.bad != 0 || len(quiet.done) != 30 || loud.bad != bad || loud.seen != quiet.seen || !slices.EqualFunc(loud.done, quiet.done, alike) {
			t.Fatalf("%v, not %v, of which %d were none", loud, quiet, bad)
		}
	}
}

// noise is what changes nothing behind a and all that were sent, and whether it is no message.
func (d *dice) noise(a api.Ask, sent [][]byte) (b []byte, bad bool) {
	b = slices.Clone(sent[d.below(len(sent))])
	switch d.below(6) {
	case 0:
		b[d.below(len(b))] ^= byte(1 + d.below(255))
		return b, true
	case 1:
		return b[:d.below(len(b))], true
	case 2:
		return msg.PutTell(d.tell()), true
	case 3:
		return append(b, byte(d.below(256))), true
	case 4:
		a.Epoch--
		a.Seq = most
		return msg.PutAsk(a), false
	}
	return b, false
}
