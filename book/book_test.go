package book

import (
	"fmt"
	"math"
	"math/rand"
	"reflect"
	"slices"
	"strings"
	"testing"

	"mailcoach/api"
	"mailcoach/hand"
	"mailcoach/reply"
	"mailcoach/state"
	"mailcoach/takers"
)

// letter: a letter of the key x.y.
func letter(seq int, body string) api.Item { return api.Item{Seq: seq, Key: "x.y", Body: body} }

// office: a plan: what falls out of the first queue comes to the last one.
func office() api.Plan {
	return api.Plan{
		Posts:  []api.Post{{Name: "main", Kind: api.Topic}, {Name: "dead", Kind: api.Direct}},
		Queues: []api.Queue{{Name: "a", Limit: 4, Dead: 1}, {Name: "b", Limit: 3, Dead: -1}, {Name: "c", Limit: 1, Dead: -1}, {Name: "d", Limit: 2, Dead: -1}},
		Binds:  []api.Bind{{From: 0, To: 0, Pattern: "x.#"}, {From: 0, To: 1, Pattern: "*.y"}, {From: 1, To: 3, Pattern: "x.y"}},
	}
}

// busy: a state of it: the first queue has letters, and no taker but one that is gone; the second one has a taker, that
// has a letter; the third one has nothing at all; the last one has a letter, and a taker that has nothing.
func busy() api.State {
	again := api.Item{Seq: 3, Key: "x", Body: "three", Again: true, Deaths: 2}
	return api.State{
		Ready:   [][]api.Item{{letter(0, ""), letter(2, "two"), again}, {letter(5, "five")}, nil, {letter(7, "seven")}},
		Outs:    []api.Out{{Tag: 4, Taker: 1, Queue: 1, Item: letter(1, "one")}},
		Takers:  []api.Taker{{Queue: -1, AtOnce: 3}, {Queue: 1, AtOnce: 2}, {Queue: 3, AtOnce: 4}},
		NextSeq: 9, NextTag: 6, Came: 9, Acked: 2, Dropped: 1,
	}
}

// turned: the busy state, with a turn done to it.
func turned(turn func(s *api.State)) api.State {
	s := busy()
	turn(&s)
	return s
}

// same: are the states the same, whether a list of theirs is nil or empty?
func same(a, b api.State) bool {
	return slices.EqualFunc(a.Ready, b.Ready, slices.Equal[[]api.Item]) && slices.Equal(a.Outs, b.Outs) && slices.Equal(a.Takers, b.Takers) &&
		a.NextSeq == b.NextSeq && a.NextTag == b.NextTag && a.Came == b.Came && a.Acked == b.Acked && a.Dropped == b.Dropped
}

// J1: how many letters lie in each queue; what is out does not.
func TestLying(t *testing.T) {
	begun, _ := state.Begin(office())
	for _, c := range []struct {
		p    api.Plan
		s    api.State
		want []int
	}{
		{office(), busy(), []int{3, 1, 0, 1}},
		{office(), begun, []int{0, 0, 0, 0}},
		{api.Plan{}, api.State{}, nil},
		{api.Plan{Posts: office().Posts}, api.State{Ready: [][]api.Item{}}, nil},
		{office(), turned(func(s *api.State) { s.Ready[0], s.Acked, s.NextTag = nil, 5, api.MaxCount }), []int{0, 1, 0, 1}},
	} {
		if l, e := Lying(c.p, c.s); e != api.OK || !slices.Equal(l, c.want) {
			t.Errorf("Lying is %v, %d, and must be %v, OK", l, e, c.want)
		}
	}
}

// wantDrain: the bodies must be these, the queue empty, the takers these, and all else as it was, but for what was acked.
func wantDrain(t *testing.T, name string, s api.State, queue int, takers []api.Taker, want ...string) {
	t.Helper()
	if e := state.Check(office(), s); e != api.OK {
		t.Fatalf("%s: the state itself is told as %d", name, e)
	}
	after := s
	after.Ready = slices.Clone(s.Ready)
	after.Ready[queue], after.Takers = nil, takers
	after.Acked, after.NextTag = s.Acked+len(want), s.NextTag+len(want)
	got, l, e := Drain(office(), s, queue)
	if e != api.OK || !slices.Equal(l, want) || !same(got, after) || state.Check(office(), got) != api.OK {
		t.Errorf("%s: Drain is\n%v, %q, %d, and must be\n%v, %q, OK", name, got, l, e, after, want)
	}
}

// J1, J2: all that lies there is taken in its order, and acked; the taker that did so is gone then.
func TestDrain(t *testing.T) {
	one, gone, last := api.Taker{Queue: 1, AtOnce: 2}, api.Taker{Queue: -1, AtOnce: 1}, api.Taker{Queue: 3, AtOnce: 4}
	wantDrain(t, "a queue with a taker that is gone", busy(), 0, []api.Taker{gone, one, last}, "", "two", "three")
	wantDrain(t, "an empty queue", busy(), 2, []api.Taker{gone, one, last})

	left := turned(func(s *api.State) { s.Takers[2].Queue = -1 })
	wantDrain(t, "one letter, the second taker is gone too", left, 3, []api.Taker{gone, one, {Queue: -1, AtOnce: 4}}, "seven")
	alone := turned(func(s *api.State) { s.Takers, s.Outs, s.Acked = nil, nil, 3 })
	wantDrain(t, "no taker at all", alone, 0, []api.Taker{gone}, "", "two", "three")
	wantDrain(t, "no taker at all, an empty queue", alone, 2, []api.Taker{gone})
	none := turned(func(s *api.State) { s.Takers[0] = last })
	wantDrain(t, "one behind all", none, 0, []api.Taker{last, one, last, gone}, "", "two", "three")
	half := turned(func(s *api.State) { s.NextSeq, s.Came, s.Acked = api.MaxCount, api.MaxCount, api.MaxCount-7 })
	wantDrain(t, "as many came as may be", half, 0, []api.Taker{gone, one, last}, "", "two", "three")
}

// J1: a full queue, of the greatest Limit, whose Dead leads back to it: nothing that is acked comes again.
func TestDrainFull(t *testing.T) {
	p := api.Plan{
		Posts:  []api.Post{{Name: "dead", Kind: api.Fanout}},
		Queues: []api.Queue{{Name: "a", Limit: api.MaxLimit, Dead: 0}},
		Binds:  []api.Bind{{From: 0, To: 0, Pattern: "#"}},
	}
	s, _ := state.Begin(p)
	var want []string
	for n := range api.MaxLimit {
		want = append(want, fmt.Sprint(n))
		s, _, _ = hand.Publish(p, s, 0, "x", want[n])
	}
	got, l, e := Drain(p, s, 0)
	if e != api.OK || !slices.Equal(l, want) || len(got.Ready[0]) != 0 || got.Acked != api.MaxLimit || got.Came != api.MaxLimit || got.Dropped != 0 {
		t.Errorf("Drain is %v, %q, %d", got, l, e)
	}
}

// wantDrainError: that error must be told, and nothing beside it.
func wantDrainError(t *testing.T, name string, p api.Plan, s api.State, queue int, want api.Errno) {
	t.Helper()
	if got, l, e := Drain(p, s, queue); e != want || l != nil || !reflect.DeepEqual(got, api.State{}) {
		t.Errorf("%s: Drain of %d is %v, %q, %d, and must be nothing, %d", name, queue, got, l, e, want)
	}
}

// J1: Drain's errors, each ahead of those that are named behind it.
func TestDrainErrors(t *testing.T) {
	crowd := turned(func(s *api.State) {
		s.Takers[0].Queue = 3
		s.Takers = append(s.Takers, api.Taker{Queue: 3, AtOnce: 1})
		s.NextTag = api.MaxCount
	})
	for _, s := range []api.State{busy(), crowd} {
		for _, queue := range []int{-1, 4, 5, math.MaxInt, math.MinInt} {
			wantDrainError(t, "no such queue", office(), s, queue, api.ErrNone)
		}
		wantDrainError(t, "it has a taker, that has a letter", office(), s, 1, api.ErrBusy)
		wantDrainError(t, "it has a taker, that has nothing", office(), s, 3, api.ErrBusy)
	}
	wantDrainError(t, "no queue at all", api.Plan{}, api.State{}, 0, api.ErrNone)
	wantDrainError(t, "no queue -1, though a taker is gone", office(), busy(), -1, api.ErrNone)
	wantDrainError(t, "just MaxTakers takers", office(), crowd, 0, api.ErrMany)
	wantDrainError(t, "just MaxTakers takers, and an empty queue", office(), crowd, 2, api.ErrMany)
	idle := turned(func(s *api.State) { s.Ready[3], s.Acked = nil, 3 })
	wantDrainError(t, "it is empty, and has a taker", office(), idle, 3, api.ErrBusy)
}

// J1: just MaxTakers takers, one of which is gone: it is taken anew.
func TestDrainCrowd(t *testing.T) {
	one, last := api.Taker{Queue: 1, AtOnce: 2}, api.Taker{Queue: 3, AtOnce: 4}
	s := turned(func(s *api.State) { s.Takers = []api.Taker{last, one, last, {Queue: -1, AtOnce: 4}} })
	wantDrain(t, "the last one is gone", s, 0, []api.Taker{last, one, last, {Queue: -1, AtOnce: 1}}, "", "two", "three")
}

// J1: each letter takes a tag: as many as are left are enough, one fewer is told for all of the Drain.
func TestDrainTags(t *testing.T) {
	gone := []api.Taker{{Queue: -1, AtOnce: 1}, {Queue: 1, AtOnce: 2}, {Queue: 3, AtOnce: 4}}
	tags := func(n int) api.State { return turned(func(s *api.State) { s.NextTag = api.MaxCount - n }) }
	wantDrain(t, "just enough tags", tags(3), 0, gone, "", "two", "three")
	wantDrain(t, "no tag, and an empty queue", tags(0), 2, gone)
	for _, n := range []int{2, 1, 0} {
		wantDrainError(t, fmt.Sprint("only ", n, " tags"), office(), tags(n), 0, api.ErrMany)
	}
}

// J1: state.Check's errors come ahead of all others.
func TestStateErrors(t *testing.T) {
	noKind, crowded := office(), office()
	noKind.Posts[0].Kind = 9
	crowded.Queues[0].Limit = 2
	for _, c := range []struct {
		name string
		p    api.Plan
		s    api.State
		want api.Errno
	}{
		{"a wrong plan", noKind, busy(), api.ErrKind},
		{"too many takers", office(), turned(func(s *api.State) { s.Takers = make([]api.Taker, api.MaxTakers+1) }), api.ErrMany},
		{"no state of it", office(), api.State{}, api.ErrForm},
		{"a Seq twice", office(), turned(func(s *api.State) { s.Outs[0].Item.Seq = 2 }), api.ErrForm},
		{"a line too long", crowded, busy(), api.ErrRange},
		{"a wrong sum", office(), turned(func(s *api.State) { s.Acked++ }), api.ErrSum},
	} {
		if l, e := Lying(c.p, c.s); e != c.want || l != nil {
			t.Errorf("%s: Lying is %v, %d, and must be nothing, %d", c.name, l, e, c.want)
		}
		for _, queue := range []int{0, 1, 2, 4, -1, math.MaxInt} {
			wantDrainError(t, c.name, c.p, c.s, queue, c.want)
		}
	}
}

// drained: Drain of a right state, told once more: what lies there is acked at once.
func drained(p api.Plan, s api.State, queue int) (api.State, []string, api.Errno) {
	if queue < 0 || queue >= len(p.Queues) {
		return api.State{}, nil, api.ErrNone
	}
	first := len(s.Takers)
	for n, x := range slices.Backward(s.Takers) {
		if x.Queue == queue {
			return api.State{}, nil, api.ErrBusy
		}
		if x.Queue == -1 {
			first = n
		}
	}
	n := len(s.Ready[queue])
	if first == api.MaxTakers || s.NextTag+n > api.MaxCount {
		return api.State{}, nil, api.ErrMany
	}
	var l []string
	for _, x := range s.Ready[queue] {
		l = append(l, x.Body)
	}
	s.Ready, s.Takers = slices.Clone(s.Ready), slices.Clone(s.Takers)
	s.Ready[queue] = nil
	s.Takers = append(s.Takers[:first], append([]api.Taker{{Queue: -1, AtOnce: 1}}, s.Takers[min(first+1, len(s.Takers)):]...)...)
	s.Acked, s.NextTag = s.Acked+n, s.NextTag+n
	return s, l, api.OK
}

// wantDrained: Drain must be as it is told once more, and what comes right.
func wantDrained(t *testing.T, p api.Plan, s api.State, queue int) api.Errno {
	t.Helper()
	want, bodies, f := drained(p, s, queue)
	got, l, e := Drain(p, s, queue)
	if e != f || !slices.Equal(l, bodies) || !same(got, want) || e == api.OK && state.Check(p, got) != api.OK {
		t.Fatalf("of %v, %v Drain of %d is\n%v, %q, %d, and must be\n%v, %q, %d", p, s, queue, got, l, e, want, bodies, f)
	}
	return e
}

// drawn: a right plan.
func drawn(r *rand.Rand) api.Plan {
	p := api.Plan{}
	for n := range 3 {
		p.Posts = append(p.Posts, api.Post{Name: strings.Repeat("p", n+1), Kind: []int{api.Direct, api.Fanout, api.Topic}[r.Intn(3)]})
	}
	for q := range 1 + r.Intn(api.MaxQueues) {
		p.Queues = append(p.Queues, api.Queue{Name: strings.Repeat("q", q+1), Limit: 1 + r.Intn(api.MaxLimit), Dead: r.Intn(4) - 1})
	}
	for range r.Intn(api.MaxBinds + 1) {
		b := api.Bind{From: r.Intn(3), To: r.Intn(len(p.Queues)), Pattern: []string{"x", "#", "*", "x.#", "x.y"}[r.Intn(5)]}
		if r.Intn(3) == 0 {
			b.ToPost, b.To = true, r.Intn(3)
		}
		p.Binds = append(p.Binds, b)
	}
	return p
}

// act: an act that is drawn, done to the state.
func act(r *rand.Rand, p api.Plan, s api.State) api.State {
	tag := r.Intn(10) - 1
	if len(s.Outs) > 0 {
		tag = s.Outs[r.Intn(len(s.Outs))].Tag
	}
	var after api.State
	var e api.Errno
	switch r.Intn(8) {
	case 0, 1, 2:
		after, _, e = hand.Publish(p, s, r.Intn(3), []string{"x", "x.y", "z"}[r.Intn(3)], fmt.Sprint(s.NextSeq))
	case 3:
		after, _, e = takers.Join(p, s, r.Intn(len(p.Queues)), 1+r.Intn(api.MaxAtOnce))
	case 4, 5:
		after, _, e = takers.Deliver(p, s, r.Intn(len(p.Queues)))
	case 6:
		after, e = reply.Reject(p, s, tag, r.Intn(4) > 0)
	default:
		after, e = reply.Leave(p, s, r.Intn(api.MaxTakers))
	}
	if e != api.OK {
		return s
	}
	return after
}

// lying: Lying of a right state, told once more.
func lying(s api.State) []int {
	l := make([]int, len(s.Ready))
	for q := range s.Ready {
		for range s.Ready[q] {
			l[q]++
		}
	}
	return l
}

// J1, J2: whatever was done ahead of it, what is drained is as it must be.
func TestDrawn(t *testing.T) {
	r := rand.New(rand.NewSource(10))
	seen := map[api.Errno]int{}
	for range 300 {
		p := drawn(r)
		s, _ := state.Begin(p)
		if r.Intn(6) == 0 {
			s.NextTag = api.MaxCount - r.Intn(8)
		}
		for range 40 {
			s = act(r, p, s)
			for queue := -1; queue <= len(p.Queues); queue++ {
				seen[wantDrained(t, p, s, queue)]++
			}
			if l, e := Lying(p, s); e != api.OK || !slices.Equal(l, lying(s)) {
				t.Fatalf("of %v Lying is %v, %d", s, l, e)
			}
		}
	}
	for _, e := range []api.Errno{api.OK, api.ErrNone, api.ErrBusy, api.ErrMany} {
		if seen[e] < 10 {
			t.Errorf("only %d of %d: %v", seen[e], e, seen)
		}
	}
}

// roomy: that state, with spare room behind all lists, in which something stands.
func roomy(s api.State) api.State {
	for q, l := range s.Ready {
		s.Ready[q] = append(slices.Clone(l), letter(77, ""), letter(78, ""))[:len(l)]
	}
	s.Ready = append(slices.Clone(s.Ready), []api.Item{letter(79, "")})[:len(s.Ready)]
	s.Outs = append(slices.Clone(s.Outs), api.Out{Tag: 7}, api.Out{Tag: 8})[:len(s.Outs)]
	s.Takers = append(slices.Clone(s.Takers), api.Taker{AtOnce: 7}, api.Taker{AtOnce: 8})[:len(s.Takers)]
	return s
}

// whole: a copy of all that the state has, the spare room behind its lists too.
func whole(s api.State) api.State {
	s.Ready = slices.Clone(s.Ready[:cap(s.Ready)])
	for q, l := range s.Ready {
		s.Ready[q] = slices.Clone(l[:cap(l)])
	}
	s.Outs, s.Takers = slices.Clone(s.Outs[:cap(s.Outs)]), slices.Clone(s.Takers[:cap(s.Takers)])
	return s
}

// spoil: all that the state has is another, as far as its lists go.
func spoil(s api.State) {
	for _, l := range s.Ready {
		clear(l[:cap(l)])
	}
	clear(s.Ready[:cap(s.Ready)])
	clear(s.Outs[:cap(s.Outs)])
	clear(s.Takers[:cap(s.Takers)])
}

// P2, P3: what is handed in is only read, the spare room too; an answer is the caller's, and the same each time.
func TestAllIsRead(t *testing.T) {
	for _, queue := range []int{0, 2} {
		p, s := office(), roomy(busy())
		before := whole(s)
		first, l, e := Drain(p, s, queue)
		kept, bodies := whole(first), slices.Clone(l)
		second, m, f := Drain(p, s, queue)
		if e != api.OK || f != api.OK || !same(first, second) || !slices.Equal(l, m) {
			t.Errorf("it is\n%v, %q, %d, and then\n%v, %q, %d", first, l, e, second, m, f)
		}
		spoil(second)
		clear(m)
		counts, _ := Lying(p, s)
		clear(counts)
		if again, e := Lying(p, s); e != api.OK || !slices.Equal(again, []int{3, 1, 0, 1}) {
			t.Errorf("Lying is then %v, %d", again, e)
		}
		if after := whole(s); !reflect.DeepEqual(before, after) || !reflect.DeepEqual(p, office()) {
			t.Errorf("the state was\n%v\nand is\n%v, the plan is\n%v", before, after, p)
		}
		spoil(s)
		if !reflect.DeepEqual(whole(first), kept) || !slices.Equal(l, bodies) {
			t.Errorf("it was\n%v\nand is, once what was handed in is changed,\n%v", kept, first)
		}
	}
}

// P1: whatever they are handed, the calls end, none panics, and they tell what the document names.
func FuzzBook(f *testing.F) {
	f.Add(uint64(1), 0, 0, 0)
	f.Add(uint64(2), -1, 1, 4)
	f.Add(uint64(3), 1, api.MaxCount-3, api.MaxCount/2)
	f.Add(uint64(4), math.MaxInt, math.MinInt, math.MaxInt)
	f.Fuzz(func(t *testing.T, seed uint64, queue, tags, more int) {
		r := rand.New(rand.NewSource(int64(seed)))
		p := drawn(r)
		s, _ := state.Begin(p)
		for range r.Intn(60) {
			s = act(r, p, s)
		}
		s.NextTag, s.Acked, s.Came, s.NextSeq = s.NextTag+tags, s.Acked+more, s.Came+more, s.NextSeq+more
		if want := state.Check(p, s); want != api.OK {
			wantDrainError(t, "wrong", p, s, queue, want)
			if l, e := Lying(p, s); e != want || l != nil {
				t.Errorf("Lying is %v, %d, and must be nothing, %d", l, e, want)
			}
			return
		}
		wantDrained(t, p, s, queue)
	})
}
