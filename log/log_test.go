package log

import (
	"fmt"
	"math"
	"math/rand"
	"reflect"
	"slices"
	"strings"
	"testing"

	"mailcoach/api"
	"mailcoach/hand"
	"mailcoach/reply"
	"mailcoach/state"
	"mailcoach/takers"
)

// letter: a letter of the key x.y.
func letter(seq int) api.Item { return api.Item{Seq: seq, Key: "x.y", Body: fmt.Sprint(seq)} }

// office: a plan: x.y comes to both of the first two queues; what falls out of the first one comes to the last one.
func office() api.Plan {
	return api.Plan{
		Posts:  []api.Post{{Name: "main", Kind: api.Topic}, {Name: "dead", Kind: api.Direct}},
		Queues: []api.Queue{{Name: "a", Limit: 2, Dead: 1}, {Name: "b", Limit: 3, Dead: -1}, {Name: "c", Limit: 1, Dead: -1}},
		Binds:  []api.Bind{{From: 0, To: 0, Pattern: "x.#"}, {From: 0, To: 1, Pattern: "*.y"}, {From: 1, To: 2, Pattern: "x.y"}},
	}
}

// busy: a state of it.
func busy() api.State {
	return api.State{
		Ready:   [][]api.Item{{letter(2), letter(3)}, {letter(4)}, nil},
		Outs:    []api.Out{{Tag: 2, Taker: 1, Queue: 0, Item: letter(1)}},
		Takers:  []api.Taker{{Queue: -1, AtOnce: 1}, {Queue: 0, AtOnce: 2}, {Queue: 1, AtOnce: 1}},
		NextSeq: 6, NextTag: 3, Came: 6, Acked: 1, Dropped: 1,
	}
}

// same: are the states the same, whether a list of theirs is nil or empty?
func same(a, b api.State) bool {
	return slices.EqualFunc(a.Ready, b.Ready, slices.Equal[[]api.Item]) && slices.Equal(a.Outs, b.Outs) && slices.Equal(a.Takers, b.Takers) &&
		a.NextSeq == b.NextSeq && a.NextTag == b.NextTag && a.Came == b.Came && a.Acked == b.Acked && a.Dropped == b.Dropped
}

// doing: what an act of some kind does.
type doing func(p api.Plan, s api.State, x api.Act) (api.State, api.Errno)

// kinds: what an act of each kind does.
func kinds() map[int]doing {
	return map[int]doing{
		1: func(p api.Plan, s api.State, x api.Act) (api.State, api.Errno) {
			t, _, e := hand.Publish(p, s, x.A, x.Key, x.Body)
			return t, e
		},
		2: func(p api.Plan, s api.State, x api.Act) (api.State, api.Errno) {
			t, _, e := takers.Join(p, s, x.A, x.B)
			return t, e
		},
		3: func(p api.Plan, s api.State, x api.Act) (api.State, api.Errno) { return reply.Leave(p, s, x.A) },
		4: func(p api.Plan, s api.State, x api.Act) (api.State, api.Errno) {
			t, _, e := takers.Deliver(p, s, x.A)
			return t, e
		},
		5: func(p api.Plan, s api.State, x api.Act) (api.State, api.Errno) { return reply.Ack(p, s, x.A) },
		6: func(p api.Plan, s api.State, x api.Act) (api.State, api.Errno) {
			return reply.Reject(p, s, x.A, x.B != 0)
		},
	}
}

// done: Do, told once more.
func done(p api.Plan, s api.State, x api.Act) (api.State, api.Errno) {
	do, ok := kinds()[x.Kind]
	if !ok {
		return api.State{}, api.ErrKind
	}
	return do(p, s, x)
}

// wantDo: Do must be what the act's own call is.
func wantDo(t *testing.T, p api.Plan, s api.State, x api.Act) (api.State, api.Errno) {
	t.Helper()
	want, f := done(p, s, x)
	got, e := Do(p, s, x)
	if e != f || !same(got, want) {
		t.Fatalf("of %v Do of %v is\n%v, %d, and must be\n%v, %d", s, x, got, e, want, f)
	}
	if e != api.OK && !reflect.DeepEqual(got, api.State{}) {
		t.Fatalf("Do of %v is %v, %d", x, got, e)
	}
	return got, e
}

// turned: the busy state, with a turn done to it.
func turned(turn func(s *api.State)) api.State {
	s := busy()
	turn(&s)
	return s
}

// K1: what an act of each kind makes of the busy state.
func TestDoKinds(t *testing.T) {
	for _, c := range []struct {
		x    api.Act
		want api.State
	}{
		{api.Act{Kind: api.ActPublish, A: 0, Key: "x.y", Body: "hi"}, turned(func(s *api.State) {
			hi := api.Item{Seq: 6, Key: "x.y", Body: "hi"}
			other, fallen := hi, letter(2)
			other.Seq, fallen.Seq, fallen.Deaths = 7, 8, 1
			s.Ready = [][]api.Item{{letter(3), hi}, {letter(4), other}, {fallen}}
			s.NextSeq, s.Came, s.Dropped = 9, 9, 2
		})},
		{api.Act{Kind: api.ActTake, A: 2, B: 3}, turned(func(s *api.State) { s.Takers[0] = api.Taker{Queue: 2, AtOnce: 3} })},
		{api.Act{Kind: api.ActLeave, A: 2}, turned(func(s *api.State) { s.Takers[2].Queue = -1 })},
		{api.Act{Kind: api.ActDeliver, A: 1}, turned(func(s *api.State) {
			s.Ready[1], s.NextTag = nil, 4
			s.Outs = append(s.Outs, api.Out{Tag: 3, Taker: 2, Queue: 1, Item: letter(4)})
		})},
		{api.Act{Kind: api.ActAck, A: 2}, turned(func(s *api.State) { s.Outs, s.Acked = nil, 2 })},
		{api.Act{Kind: api.ActReject, A: 2, B: 0}, turned(func(s *api.State) {
			fallen := letter(1)
			fallen.Seq, fallen.Deaths = 6, 1
			s.Outs, s.Ready[2] = nil, []api.Item{fallen}
			s.NextSeq, s.Came, s.Dropped = 7, 7, 2
		})},
	} {
		if got, e := Do(office(), busy(), c.x); e != api.OK || !same(got, c.want) {
			t.Errorf("Do of %v is\n%v, %d, and must be\n%v, OK", c.x, got, e, c.want)
		}
	}
	room := turned(func(s *api.State) { s.Ready[0], s.Acked = s.Ready[0][1:], 2 })
	back := letter(1)
	back.Again = true
	for _, b := range []int{1, 2, 255, 256, -1, math.MaxInt, math.MinInt} {
		got, e := Do(office(), room, api.Act{Kind: api.ActReject, A: 2, B: b})
		if e != api.OK || len(got.Outs) != 0 || !slices.Equal(got.Ready[0], []api.Item{back, letter(3)}) {
			t.Errorf("Reject with B of %d is %v, %d", b, got, e)
		}
	}
}

// K1: what is not named counts for nothing, and an act's errors are its call's own.
func TestDoOthers(t *testing.T) {
	numbers := []int{0, 1, 2, 3, 4, 5, -1, 255, 256, math.MaxInt, math.MinInt}
	for kind := 1; kind <= 6; kind++ {
		for _, a := range numbers {
			for _, b := range numbers {
				for _, key := range []string{"", "x.y", "x", "A", strings.Repeat("k", 300)} {
					wantDo(t, office(), busy(), api.Act{Kind: kind, A: a, B: b, Key: key, Body: key})
				}
			}
		}
	}
}

// K1: a Kind that is none is told ahead of all else, a wrong state and a wrong plan too.
func TestDoNoKind(t *testing.T) {
	wrong := office()
	wrong.Posts[0].Kind = 0
	for _, kind := range []int{0, 7, -1, 255, 256, 257, math.MaxInt, math.MinInt} {
		for _, p := range []api.Plan{office(), wrong} {
			for _, s := range []api.State{busy(), {}} {
				if got, e := Do(p, s, api.Act{Kind: kind, A: 2, B: 1, Key: "x.y"}); e != api.ErrKind || !reflect.DeepEqual(got, api.State{}) {
					t.Errorf("Do of kind %d is %v, %d, and must be nothing, ErrKind", kind, got, e)
				}
			}
		}
	}
	for kind := 1; kind <= 6; kind++ {
		for _, c := range []struct {
			p    api.Plan
			s    api.State
			want api.Errno
		}{{wrong, api.State{}, api.ErrKind}, {wrong, busy(), api.ErrKind}, {office(), api.State{}, api.ErrForm}, {office(), turned(func(s *api.State) { s.Acked++ }), api.ErrSum}} {
			if _, e := wantDo(t, c.p, c.s, api.Act{Kind: kind, A: 99, B: 99, Key: "?"}); e != c.want {
				t.Errorf("Do of kind %d is %d, and must be %d", kind, e, c.want)
			}
		}
	}
}

// K2: an act as bytes, with numbers and lengths of 0, of 255, and of whatever Kind.
func TestWrite(t *testing.T) {
	long := strings.Repeat("\xfe", 255)
	for _, c := range []struct {
		x    api.Act
		want string
	}{
		{api.Act{Kind: api.ActPublish, Key: "x.y", Body: "hi"}, "\x01\x00\x00\x03x.y\x02hi"},
		{api.Act{}, "\x00\x00\x00\x00\x00"},
		{api.Act{Kind: 255, A: 255, B: 255}, "\xff\xff\xff\x00\x00"},
		{api.Act{Kind: 6, A: 1, B: 2, Key: "\n", Body: "\x00"}, "\x06\x01\x02\x01\n\x01\x00"},
		{api.Act{Kind: 7, Key: long}, "\x07\x00\x00\xff" + long + "\x00"},
		{api.Act{Kind: 7, Body: long}, "\x07\x00\x00\x00\xff" + long},
		{api.Act{Key: long, Body: long}, "\x00\x00\x00\xff" + long + "\xff" + long},
	} {
		if got, e := Write(c.x); e != api.OK || got != c.want {
			t.Errorf("Write of %v is %q, %d, and must be %q, OK", c.x, got, e, c.want)
		}
		l, n, e := Replay(c.want)
		if e != api.OK || n != len(c.want) || !slices.Equal(l, []api.Act{c.x}) {
			t.Errorf("Replay of %q is %v, %d, %d", c.want, l, n, e)
		}
	}
}

// K2: a number that is no byte, a length too, is told.
func TestWriteErrors(t *testing.T) {
	for _, n := range []int{-1, 256, 257, 1 << 20, math.MaxInt, math.MinInt} {
		for _, x := range []api.Act{{Kind: n}, {A: n}, {B: n}, {Kind: 1, A: n, B: n, Key: "x"}} {
			if got, e := Write(x); e != api.ErrRange || got != "" {
				t.Errorf("Write of %v is %q, %d, and must be nothing, ErrRange", x, got, e)
			}
		}
	}
	for _, n := range []int{256, 257, 511, 512, 1 << 20} {
		long := strings.Repeat("k", n)
		for _, x := range []api.Act{{Kind: 1, Key: long}, {Kind: 1, Body: long}} {
			if got, e := Write(x); e != api.ErrRange || got != "" {
				t.Errorf("Write of a text of %d is %q, %d, and must be nothing, ErrRange", n, got, e)
			}
		}
	}
}

// written: the bytes of these acts.
func written(t testing.TB, l []api.Act) string {
	t.Helper()
	s := ""
	for _, x := range l {
		b, e := Write(x)
		if e != api.OK {
			t.Fatalf("Write of %v is %d", x, e)
		}
		s += b
	}
	return s
}

// wantReplay: these acts must be told, and so many bytes.
func wantReplay(t *testing.T, name, text string, want []api.Act, bytes int) {
	t.Helper()
	if l, n, e := Replay(text); e != api.OK || n != bytes || !slices.Equal(l, want) {
		t.Errorf("%s: Replay is %v, %d, %d, and must be %v, %d, OK", name, l, n, e, want, bytes)
	}
}

// some: acts of all kinds, and of none of these.
func some() []api.Act {
	return []api.Act{
		{Kind: api.ActTake, A: 0, B: 2}, {Kind: api.ActPublish, Key: "x.y", Body: "one"}, {Kind: 0, Key: "\x00"}, {Kind: api.ActPublish, Key: "x", Body: ""},
		{Kind: api.ActDeliver}, {Kind: api.ActAck, A: 7}, {Kind: 9, A: 255, B: 255, Body: "\n"}, {Kind: api.ActReject, A: 0, B: 1}, {Kind: api.ActDeliver},
		{Kind: api.ActPublish, A: 9, Key: "x.y"}, {Kind: api.ActTake, A: 1, B: 1}, {Kind: api.ActPublish, Key: "z.y", Body: "\xff \x00"}, {Kind: api.ActDeliver, A: 1},
		{Kind: api.ActReject, A: 2}, {Kind: api.ActTake, A: 1, B: 9}, {Kind: api.ActLeave, A: 1}, {Kind: api.ActAck, A: 1}, {Kind: api.ActLeave, A: 0},
	}
}

// cuts: how many acts are whole, and how many bytes they have, if their bytes are cut behind so many.
func cuts(t testing.TB, l []api.Act, cut int) (int, int) {
	bytes := 0
	for n, x := range l {
		b := len(written(t, []api.Act{x}))
		if bytes+b > cut {
			return n, bytes
		}
		bytes += b
	}
	return len(l), bytes
}

// K2, K3: a log that is cut at each of its bytes: what is whole is told, and what was done by it recovered.
func TestCuts(t *testing.T) {
	l := some()
	text := written(t, l)
	for cut := range len(text) + 1 {
		n, bytes := cuts(t, l, cut)
		wantReplay(t, fmt.Sprint("cut at ", cut), text[:cut], l[:n], bytes)
		wantRecover(t, office(), text[:cut], l[:n])
	}
}

// K2: whatever stands behind the first place where there is no act is not read, be there acts behind it or not.
func TestReplayEnds(t *testing.T) {
	one := api.Act{Kind: 1, Key: "x"}
	b := written(t, []api.Act{one})
	wantReplay(t, "nothing", "", nil, 0)
	wantReplay(t, "too few bytes", "\x01\x02\x03\x00", nil, 0)
	wantReplay(t, "a key too long", b+"\x01\x00\x00\xffx\x00", []api.Act{one}, len(b))
	wantReplay(t, "a body too long", b+"\x01\x00\x00\x00\xff"+b+b, []api.Act{one}, len(b))
	wantReplay(t, "a body of one byte too few", b+"\x01\x00\x00\x00\x02a", []api.Act{one}, len(b))
	wantReplay(t, "zeros", strings.Repeat("\x00", 14), make([]api.Act, 2), 10)
}

// K2: just MaxActs acts are told, though more stand there; a half one behind them does no harm.
func TestMaxActs(t *testing.T) {
	l := make([]api.Act, api.MaxActs+1)
	for n := range l {
		l[n] = api.Act{Kind: 1, A: n, Key: "x"}
	}
	for _, n := range []int{api.MaxActs - 1, api.MaxActs, api.MaxActs + 1} {
		text := written(t, l[:n])
		told := min(n, api.MaxActs)
		wantReplay(t, fmt.Sprint(n, " acts"), text, l[:told], 6*told)
		wantReplay(t, fmt.Sprint(n, " acts, and bytes"), text+"\x01\x02", l[:told], 6*told)
	}
}

// filled: acts that have so many bytes.
func filled(bytes int) []api.Act {
	var l []api.Act
	for bytes > 0 {
		// No rest is left that is too small for an act.
		n := min(bytes, 400)
		if rest := bytes - n; rest > 0 && rest < 5 {
			n -= 5
		}
		key := min(n-5, 255)
		l = append(l, api.Act{Kind: 1, Key: strings.Repeat("k", key), Body: strings.Repeat("b", n-5-key)})
		bytes -= n
	}
	return l
}

// K2, K3: just MaxBytes bytes are read; one more is told, whatever they are.
func TestMaxBytes(t *testing.T) {
	l := filled(api.MaxBytes)
	text := written(t, l)
	if len(text) != api.MaxBytes {
		t.Fatalf("it has %d bytes", len(text))
	}
	wantReplay(t, "just MaxBytes", text, l, api.MaxBytes)
	zeros := strings.Repeat("\x00", api.MaxBytes)
	wantReplay(t, "just MaxBytes, and too many acts", zeros, make([]api.Act, api.MaxActs), 5*api.MaxActs)
	for _, more := range []string{text + "\x00", zeros + "\x00", strings.Repeat("a", api.MaxBytes+1), strings.Repeat("\xff", 1<<20)} {
		if l, n, e := Replay(more); e != api.ErrMany || n != 0 || l != nil {
			t.Errorf("Replay of %d bytes is %v, %d, %d, and must be nothing, 0, ErrMany", len(more), l, n, e)
		}
		wantRecoverError(t, "too many bytes", office(), more, api.ErrMany)
	}
}

// recovered: the state once these acts are done, one behind the other; one that has an error changes nothing.
func recovered(t *testing.T, p api.Plan, l []api.Act) api.State {
	t.Helper()
	s, e := state.Begin(p)
	if e != api.OK {
		t.Fatalf("Begin is %d", e)
	}
	for _, x := range l {
		if after, e := done(p, s, x); e == api.OK {
			s = after
		}
	}
	return s
}

// wantRecover: the state must be what these acts make of the beginning.
func wantRecover(t *testing.T, p api.Plan, text string, l []api.Act) {
	t.Helper()
	want := recovered(t, p, l)
	if got, n, e := Recover(p, text); e != api.OK || n != len(l) || !same(got, want) || state.Check(p, got) != api.OK {
		t.Errorf("of %q Recover is\n%v, %d, %d, and must be\n%v, %d, OK", text, got, n, e, want, len(l))
	}
}

// wantRecoverError: that error must be told, and nothing beside it.
func wantRecoverError(t *testing.T, name string, p api.Plan, text string, want api.Errno) {
	t.Helper()
	if got, n, e := Recover(p, text); e != want || n != 0 || !reflect.DeepEqual(got, api.State{}) {
		t.Errorf("%s: Recover is %v, %d, %d, and must be nothing, 0, %d", name, got, n, e, want)
	}
}

// K3: an act that has an error in the midst of a log changes nothing, and counts as one.
func TestRecover(t *testing.T) {
	l := []api.Act{
		{Kind: api.ActPublish, Key: "x.y", Body: "one"}, {Kind: 0}, {Kind: api.ActPublish, Key: "X"}, {Kind: api.ActTake, A: 1, B: 1},
		{Kind: api.ActAck, A: 0}, {Kind: api.ActDeliver, A: 1}, {Kind: api.ActDeliver, A: 1}, {Kind: api.ActAck, A: 0}, {Kind: 255, A: 255, B: 255},
	}
	want := api.State{
		Ready:   [][]api.Item{{{Seq: 0, Key: "x.y", Body: "one"}}, nil, nil},
		Takers:  []api.Taker{{Queue: 1, AtOnce: 1}},
		NextSeq: 2, NextTag: 1, Came: 2, Acked: 1,
	}
	if got, n, e := Recover(office(), written(t, l)); e != api.OK || n != 9 || !same(got, want) {
		t.Errorf("Recover is\n%v, %d, %d, and must be\n%v, 9, OK", got, n, e, want)
	}
	wantRecover(t, office(), "", nil)
	wantRecover(t, api.Plan{}, "", nil)
	wantRecover(t, api.Plan{}, written(t, some()), some())
	more := make([]api.Act, api.MaxActs+1)
	for n := range more {
		more[n] = api.Act{Kind: api.ActPublish, Key: "z.y", Body: fmt.Sprint(n)}
	}
	wantRecover(t, office(), written(t, more), more[:api.MaxActs])
}

// K3: the plan's errors come ahead of Replay's.
func TestRecoverErrors(t *testing.T) {
	many := strings.Repeat("a", api.MaxBytes+1)
	for _, c := range []struct {
		turn func(p *api.Plan)
		want api.Errno
	}{
		{func(p *api.Plan) { p.Queues = make([]api.Queue, api.MaxQueues+1) }, api.ErrMany},
		{func(p *api.Plan) { p.Posts[0].Name = "" }, api.ErrName},
		{func(p *api.Plan) { p.Posts[0].Name = "dead" }, api.ErrThere},
		{func(p *api.Plan) { p.Posts[0].Kind = 4 }, api.ErrKind},
		{func(p *api.Plan) { p.Queues[0].Limit = 0 }, api.ErrRange},
		{func(p *api.Plan) { p.Binds[0].Pattern = "x..y" }, api.ErrForm},
	} {
		p := office()
		c.turn(&p)
		for _, text := range []string{"", "\x01", written(t, some()), many} {
			wantRecoverError(t, "a wrong plan", p, text, c.want)
		}
	}
}

// drawnAct: an act that is drawn, which mostly can be done to that state.
func drawnAct(r *rand.Rand, s api.State) api.Act {
	x := api.Act{Kind: 1 + r.Intn(6), A: r.Intn(3), B: r.Intn(5)}
	switch {
	case x.Kind == api.ActPublish || r.Intn(9) == 0:
		x.Key, x.Body = []string{"x", "x.y", "z", "z.y", "", "#"}[r.Intn(6)], []string{"", "b", "two words", "\x00\xff\n", "much too long"}[r.Intn(5)]
	case x.Kind >= api.ActAck && len(s.Outs) > 0 && r.Intn(4) > 0:
		x.A = s.Outs[r.Intn(len(s.Outs))].Tag
	}
	if r.Intn(12) == 0 {
		x.Kind = r.Intn(256)
	}
	if r.Intn(12) == 0 {
		x.A = r.Intn(256)
	}
	return x
}

// K1 to K3: acts that are drawn: each is what its own call is, what comes is right, and it is recovered from its log.
func TestDrawn(t *testing.T) {
	r := rand.New(rand.NewSource(11))
	seen := map[string]int{}
	for range 200 {
		s, _ := state.Begin(office())
		var l []api.Act
		for range r.Intn(api.MaxActs + 5) {
			x := drawnAct(r, s)
			l = append(l, x)
			after, e := wantDo(t, office(), s, x)
			if e == api.OK {
				s = after
			}
			if state.Check(office(), s) != api.OK {
				t.Fatalf("%v is told as %d", s, state.Check(office(), s))
			}
			seen[fmt.Sprint(min(x.Kind, 7), " ", e == api.OK)]++
		}
		text := written(t, l)
		cut := r.Intn(len(text) + 1)
		n, bytes := cuts(t, l[:min(len(l), api.MaxActs)], cut)
		wantReplay(t, "drawn", text[:cut], l[:n], bytes)
		wantRecover(t, office(), text[:cut], l[:n])
		if len(l) <= api.MaxActs {
			if got, _, e := Recover(office(), text); e != api.OK || !same(got, s) {
				t.Errorf("Recover is\n%v, %d, and must be\n%v, OK", got, e, s)
			}
		}
	}
	for kind := 1; kind <= 6; kind++ {
		if seen[fmt.Sprint(kind, " true")] < 10 || seen[fmt.Sprint(kind, " false")] < 10 {
			t.Errorf("only few of kind %d: %v", kind, seen)
		}
	}
}

// spoil: all that the state has is another, as far as its lists go.
func spoil(s api.State) {
	for _, l := range s.Ready {
		clear(l[:cap(l)])
	}
	clear(s.Ready[:cap(s.Ready)])
	clear(s.Outs[:cap(s.Outs)])
	clear(s.Takers[:cap(s.Takers)])
}

// P2, P3: what is handed in is only read; an answer is the caller's, and the same each time.
func TestAllIsRead(t *testing.T) {
	text := written(t, some())
	p := office()
	first, _, _ := Recover(p, text)
	spoil(first)
	l, _, _ := Replay(text)
	clear(l)
	wantReplay(t, "once more", text, some(), len(text))
	wantRecover(t, p, text, some())
	for kind := 1; kind <= 6; kind++ {
		s := busy()
		x := api.Act{Kind: kind, A: []int{0, 0, 2, 1, 1, 2, 2}[kind], B: 1, Key: "x.y"}
		got, e := Do(p, s, x)
		if e != api.OK {
			t.Fatalf("Do of %v is %d", x, e)
		}
		spoil(got)
		if !reflect.DeepEqual(s, busy()) {
			t.Errorf("the state is then %v", s)
		}
		got, _ = Do(p, s, x)
		spoil(s)
		if want, _ := Do(p, busy(), x); !same(got, want) {
			t.Errorf("it is then\n%v, and must be\n%v", got, want)
		}
	}
	if !reflect.DeepEqual(p, office()) {
		t.Errorf("the plan is then %v", p)
	}
}

// P1: whatever they are handed, the calls end, none panics, and they agree with one another.
func FuzzLog(f *testing.F) {
	f.Add("", 0, 0, 0, "", "")
	f.Add("\x01\x00\x00\x03x.y\x02hi\x02\x00\x01\x00\x00\x04\x00\x00\x00\x00", 5, 0, 0, "", "")
	f.Add("\x01\x00\x00\xff", 6, 2, 1, "x.y", "hi")
	f.Add(strings.Repeat("\x00", api.MaxBytes+1), 256, -1, math.MaxInt, strings.Repeat("k", 256), "")
	f.Fuzz(func(t *testing.T, text string, kind, a, b int, key, body string) {
		x := api.Act{Kind: kind, A: a, B: b, Key: key, Body: body}
		wantDo(t, office(), busy(), x)
		bytes, e := Write(x)
		if l, n, f := Replay(bytes); e == api.OK && (f != api.OK || n != len(bytes) || !slices.Equal(l, []api.Act{x})) || e != api.OK && bytes != "" {
			t.Errorf("Write of %v is %q, %d", x, bytes, e)
		}
		l, n, e := Replay(text)
		if (e == api.ErrMany) != (len(text) > api.MaxBytes) || len(l) > api.MaxActs || n > len(text) || written(t, l) != text[:n] {
			t.Errorf("Replay of %q is %v, %d, %d", text, l, n, e)
		}
		if rest, _, _ := Replay(text[n:]); e == api.OK && len(l) < api.MaxActs && len(rest) > 0 {
			t.Errorf("Replay of %q is %v, and ends ahead of %v", text, l, rest)
		}
		if e != api.OK {
			wantRecoverError(t, "wrong", office(), text, e)
			return
		}
		wantRecover(t, office(), text, l)
	})
}
