package takers

import (
	"fmt"
	"math"
	"math/rand"
	"reflect"
	"slices"
	"testing"

	"mailcoach/api"
	"mailcoach/state"
)

// letter: a letter of the key x.y.
func letter(seq int) api.Item { return api.Item{Seq: seq, Key: "x.y", Body: fmt.Sprint(seq)} }

// line: letters of those Seqs.
func line(seqs ...int) []api.Item {
	var l []api.Item
	for _, n := range seqs {
		l = append(l, letter(n))
	}
	return l
}

// office: a plan of three queues.
func office() api.Plan {
	return api.Plan{
		Posts:  []api.Post{{Name: "main", Kind: api.Topic}},
		Queues: []api.Queue{{Name: "a", Limit: 6, Dead: 0}, {Name: "b", Limit: 3, Dead: -1}, {Name: "d", Limit: 1, Dead: -1}},
		Binds:  []api.Bind{{From: 0, To: 0, Pattern: "x.#"}, {From: 0, To: 1, Pattern: "*.y"}},
	}
}

// busy: a state of it: the first taker is gone; letters lie in the first two queues; the second one's taker has all it may have.
func busy() api.State {
	return api.State{
		Ready: [][]api.Item{line(2, 6, 7), line(4, 8), nil},
		Outs: []api.Out{
			{Tag: 3, Taker: 1, Queue: 0, Item: letter(5)},
			{Tag: 5, Taker: 2, Queue: 1, Item: letter(1)},
		},
		Takers:  []api.Taker{{Queue: -1, AtOnce: 3}, {Queue: 0, AtOnce: 2}, {Queue: 1, AtOnce: 1}},
		NextSeq: 10, NextTag: 6, Came: 10, Acked: 2, Dropped: 1,
	}
}

// with: a state with one letter in the first queue, these takers, and so many letters out with each.
func with(takers []api.Taker, has ...int) api.State {
	s := api.State{Ready: [][]api.Item{line(0), nil, nil}, Takers: takers, NextSeq: 1}
	for taker, n := range has {
		for range n {
			s.Outs = append(s.Outs, api.Out{Tag: s.NextTag, Taker: taker, Queue: takers[taker].Queue, Item: letter(s.NextSeq)})
			s.NextSeq, s.NextTag = s.NextSeq+1, s.NextTag+1
		}
	}
	s.Came = s.NextSeq
	return s
}

// turned: the busy state, with a turn done to it.
func turned(turn func(s *api.State)) api.State {
	s := busy()
	turn(&s)
	return s
}

// same: are the states the same, whether a list of theirs is nil or empty?
func same(a, b api.State) bool {
	return slices.EqualFunc(a.Ready, b.Ready, slices.Equal[[]api.Item]) && slices.Equal(a.Outs, b.Outs) && slices.Equal(a.Takers, b.Takers) &&
		a.NextSeq == b.NextSeq && a.NextTag == b.NextTag && a.Came == b.Came && a.Acked == b.Acked && a.Dropped == b.Dropped
}

// wantJoin: it must be taken in under that number, with these takers then; all else is as it was.
func wantJoin(t *testing.T, name string, s api.State, queue, most, taker int, takers ...api.Taker) {
	t.Helper()
	if e := state.Check(office(), s); e != api.OK {
		t.Fatalf("%s: the state itself is told as %d", name, e)
	}
	want := s
	want.Takers = takers
	got, n, e := Join(office(), s, queue, most)
	if e != api.OK || n != taker || !same(got, want) || state.Check(office(), got) != api.OK {
		t.Errorf("%s: Join is\n%v, %d, %d, and must be\n%v, %d, OK", name, got, n, e, want, taker)
	}
}

// H1: the first one that is gone is taken anew, or there is one more, behind all.
func TestJoin(t *testing.T) {
	on := func(l ...api.Taker) api.State {
		return turned(func(s *api.State) { s.Takers = append(s.Takers[:3], l...) })
	}
	gone, one, two := api.Taker{Queue: -1, AtOnce: 3}, api.Taker{Queue: 0, AtOnce: 2}, api.Taker{Queue: 1, AtOnce: 1}
	wantJoin(t, "one that is gone", busy(), 2, 4, 0, api.Taker{Queue: 2, AtOnce: 4}, one, two)
	wantJoin(t, "the first of two that are gone", on(gone), 1, 1, 0, api.Taker{Queue: 1, AtOnce: 1}, one, two, gone)
	wantJoin(t, "one that is gone, of MaxTakers", on(two), 0, 2, 0, api.Taker{Queue: 0, AtOnce: 2}, one, two, two)
	full := on(gone)
	full.Takers[0] = two
	wantJoin(t, "the last one that is gone, of MaxTakers", full, 0, 1, 3, two, one, two, api.Taker{Queue: 0, AtOnce: 1})
	none := on()
	none.Takers[0] = api.Taker{Queue: 2, AtOnce: 1}
	wantJoin(t, "one behind all, the last", none, 2, 3, 3, none.Takers[0], one, two, api.Taker{Queue: 2, AtOnce: 3})
	s, _ := state.Begin(office())
	var l []api.Taker
	for n := range api.MaxTakers {
		l = append(l, api.Taker{Queue: n % 3, AtOnce: n + 1})
		wantJoin(t, "one more", s, n%3, n+1, n, l...)
		s, _, _ = Join(office(), s, n%3, n+1)
	}
	wantJoinError(t, "one more than MaxTakers", office(), s, 0, 1, api.ErrMany)
}

// H1: a queue may have any number of letters, and the counts any right value.
func TestJoinAnyState(t *testing.T) {
	s := turned(func(s *api.State) {
		s.NextSeq, s.Came, s.Acked, s.NextTag = api.MaxCount, api.MaxCount, s.Acked+api.MaxCount-s.Came, api.MaxCount
	})
	wantJoin(t, "counts at their most", s, 2, 1, 0, api.Taker{Queue: 2, AtOnce: 1}, s.Takers[1], s.Takers[2])
}

// wantJoinError: that error must be told, and nothing beside it.
func wantJoinError(t *testing.T, name string, p api.Plan, s api.State, queue, most int, want api.Errno) {
	t.Helper()
	if got, n, e := Join(p, s, queue, most); e != want || n != 0 || !reflect.DeepEqual(got, api.State{}) {
		t.Errorf("%s: Join is %v, %d, %d, and must be nothing, 0, %d", name, got, n, e, want)
	}
}

// wantNextError: Next and Deliver must tell that error, and nothing beside it.
func wantNextError(t *testing.T, name string, p api.Plan, s api.State, queue int, want api.Errno) {
	t.Helper()
	if n, e := Next(p, s, queue); e != want || n != 0 {
		t.Errorf("%s: Next is %d, %d, and must be 0, %d", name, n, e, want)
	}
	wantDeliverError(t, name, p, s, queue, want)
}

// wantDeliverError: that error must be told, and nothing beside it.
func wantDeliverError(t *testing.T, name string, p api.Plan, s api.State, queue int, want api.Errno) {
	t.Helper()
	if got, n, e := Deliver(p, s, queue); e != want || n != 0 || !reflect.DeepEqual(got, api.State{}) {
		t.Errorf("%s: Deliver is %v, %d, %d, and must be nothing, 0, %d", name, got, n, e, want)
	}
}

// crowd: the busy state, with takers of the third queue till there are MaxTakers, none of which is gone.
func crowd() api.State {
	return turned(func(s *api.State) {
		s.Takers[0].Queue = 2
		s.Takers = append(s.Takers, api.Taker{Queue: 2, AtOnce: 1})
	})
}

// H1: Join's errors, each ahead of those that are named behind it.
func TestJoinErrors(t *testing.T) {
	bad, wrong := []int{3, -1, 4, math.MaxInt, math.MinInt}, []int{0, api.MaxAtOnce + 1, -1, math.MaxInt, math.MinInt}
	for _, s := range []api.State{busy(), crowd()} {
		for _, queue := range bad {
			for _, most := range append(wrong, 1) {
				wantJoinError(t, "no such queue", office(), s, queue, most, api.ErrNone)
			}
		}
		for _, most := range wrong {
			wantJoinError(t, "no such most", office(), s, 1, most, api.ErrRange)
		}
	}
	for _, most := range []int{1, api.MaxAtOnce} {
		wantJoinError(t, "too many", office(), crowd(), 1, most, api.ErrMany)
	}
	wantJoinError(t, "no queue at all", api.Plan{}, api.State{}, 0, 1, api.ErrNone)
}

// H1: state.Check's errors come ahead of all others.
func TestStateErrors(t *testing.T) {
	noKind, crowded := office(), office()
	noKind.Posts[0].Kind = 9
	crowded.Queues[0].Limit = 2
	for _, c := range []struct {
		name string
		p    api.Plan
		s    api.State
		want api.Errno
	}{
		{"a wrong plan", noKind, busy(), api.ErrKind},
		{"too many takers", office(), turned(func(s *api.State) { s.Takers = make([]api.Taker, api.MaxTakers+1) }), api.ErrMany},
		{"no state of it", office(), api.State{}, api.ErrForm},
		{"a Seq twice", office(), turned(func(s *api.State) { s.Outs[0].Item.Seq = 2 }), api.ErrForm},
		{"AtOnce of 0", office(), turned(func(s *api.State) { s.Takers[0].AtOnce = 0 }), api.ErrForm},
		{"a tag of NextTag", office(), turned(func(s *api.State) { s.NextTag = 5 }), api.ErrForm},
		{"a line too long", crowded, busy(), api.ErrRange},
		{"a wrong sum", office(), turned(func(s *api.State) { s.Acked++ }), api.ErrSum},
	} {
		for _, queue := range []int{0, 1, 2, 3, -1, math.MaxInt} {
			wantNextError(t, c.name, c.p, c.s, queue, c.want)
			for _, most := range []int{0, 1, 9} {
				wantJoinError(t, c.name, c.p, c.s, queue, most, c.want)
			}
		}
	}
}

// wantNext: that taker must be next of the first queue.
func wantNext(t *testing.T, name string, s api.State, want int) {
	t.Helper()
	if e := state.Check(office(), s); e != api.OK {
		t.Fatalf("%s: the state itself is told as %d", name, e)
	}
	if n, e := Next(office(), s, 0); e != api.OK || n != want {
		t.Errorf("%s: Next is %d, %d, and must be %d, OK", name, n, e, want)
	}
}

// H2: of those that have fewer than AtOnce the one that has fewest, of several the first one.
func TestNext(t *testing.T) {
	of := func(atOnce ...int) []api.Taker {
		var l []api.Taker
		for _, n := range atOnce {
			l = append(l, api.Taker{Queue: 0, AtOnce: n})
		}
		return l
	}
	wantNext(t, "one alone", with(of(1)), 0)
	wantNext(t, "one alone, nearly full", with(of(4), 3), 0)
	wantNext(t, "two that have nothing", with(of(1, 4)), 0)
	wantNext(t, "two that have equally few", with(of(2, 3, 2), 2, 1, 1), 1)
	wantNext(t, "the second has nothing", with(of(2, 2), 1, 0), 1)
	wantNext(t, "the first has fewer", with(of(3, 3), 1, 2), 0)
	wantNext(t, "the last has fewest", with(of(4, 4, 4, 4), 3, 2, 2, 1), 3)
	wantNext(t, "the one with fewest is full", with(of(1, 4), 1, 3), 1)
	wantNext(t, "fewest counts, not most room", with(of(4, 2), 2, 1), 1)
	wantNext(t, "all have equally many", with(of(4, 4, 4, 4), 3, 3, 3, 3), 0)
	other := of(2, 1, 2)
	other[0].Queue, other[1].Queue = 1, -1
	wantNext(t, "one of another queue, and one that is gone", with(other, 0, 0, 1), 2)
}

// H2: nothing lies there, or nobody can take it.
func TestNextErrors(t *testing.T) {
	for _, queue := range []int{3, -1, 4, math.MaxInt, math.MinInt} {
		wantNextError(t, "no such queue", office(), busy(), queue, api.ErrNone)
	}
	wantNextError(t, "no queue at all", api.Plan{}, api.State{}, 0, api.ErrNone)
	wantNextError(t, "nothing lies there, and nobody is there", office(), busy(), 2, api.ErrEmpty)
	wantNextError(t, "nothing lies there", office(), crowd(), 2, api.ErrEmpty)
	empty := turned(func(s *api.State) { s.Ready[1], s.Acked = nil, 4 })
	wantNextError(t, "nothing lies there, and all are full", office(), empty, 1, api.ErrEmpty)
	wantNextError(t, "all are full", office(), busy(), 1, api.ErrBusy)
	wantNextError(t, "nobody is there", office(), with(nil), 0, api.ErrBusy)
	wantNextError(t, "one that is gone", office(), with([]api.Taker{{Queue: -1, AtOnce: 4}}), 0, api.ErrBusy)
	wantNextError(t, "one of another queue", office(), with([]api.Taker{{Queue: 1, AtOnce: 4}}), 0, api.ErrBusy)
	full := with([]api.Taker{{Queue: 0, AtOnce: 4}, {Queue: 2, AtOnce: 4}, {Queue: 0, AtOnce: 1}}, 4, 0, 1)
	wantNextError(t, "several that are full", office(), full, 0, api.ErrBusy)
}

// H2: the first letter there is out with the next taker, as it lay there.
func TestDeliver(t *testing.T) {
	s := busy()
	first := api.Item{Seq: 2, Key: "a.b", Body: "\x00\xff", Again: true, Deaths: 2}
	s.Ready[0][0] = first
	got, tag, e := Deliver(office(), s, 0)
	want := busy()
	want.Ready[0] = line(6, 7)
	want.Outs = append(want.Outs, api.Out{Tag: 6, Taker: 1, Queue: 0, Item: first})
	want.NextTag = 7
	if e != api.OK || tag != 6 || !same(got, want) || state.Check(office(), got) != api.OK {
		t.Errorf("Deliver is\n%v, %d, %d, and must be\n%v, 6, OK", got, tag, e, want)
	}
	wantNextError(t, "it is full then", office(), got, 0, api.ErrBusy)
}

// H2: takers take in turn, letters go in the order in which they lie, tags rise, till all are full, or nothing lies there.
func TestDeliverAll(t *testing.T) {
	begin := api.State{Ready: [][]api.Item{line(0, 1, 2, 3, 4, 5), nil, nil}, NextSeq: 6, Came: 6}
	for _, c := range []struct {
		atOnce []int
		turns  []int
		want   api.Errno
	}{
		{[]int{1}, []int{0}, api.ErrBusy},
		{[]int{4}, []int{0, 0, 0, 0}, api.ErrBusy},
		{[]int{1, 3, 2}, []int{0, 1, 2, 1, 2, 1}, api.ErrEmpty},
		{[]int{1, 1, 2}, []int{0, 1, 2, 2}, api.ErrBusy},
		{[]int{4, 4, 4, 4}, []int{0, 1, 2, 3, 0, 1}, api.ErrEmpty},
	} {
		s := begin
		for _, n := range c.atOnce {
			s, _, _ = Join(office(), s, 0, n)
		}
		for i, taker := range c.turns {
			got, tag, e := Deliver(office(), s, 0)
			if e != api.OK || tag != i || state.Check(office(), got) != api.OK {
				t.Fatalf("%v: Deliver is %v, %d, %d", c.atOnce, got, tag, e)
			}
			if want := (api.Out{Tag: i, Taker: taker, Queue: 0, Item: letter(i)}); got.Outs[i] != want {
				t.Errorf("%v: %v is out, and must be %v", c.atOnce, got.Outs[i], want)
			}
			s = got
		}
		wantNextError(t, "in the end", office(), s, 0, c.want)
	}
}

// H2: with NextTag just at MaxCount nothing is delivered, though there is a next taker; one below it is the last tag.
func TestNextTag(t *testing.T) {
	s := busy()
	s.NextTag = api.MaxCount - 1
	got, tag, e := Deliver(office(), s, 0)
	if e != api.OK || tag != api.MaxCount-1 || got.NextTag != api.MaxCount || state.Check(office(), got) != api.OK {
		t.Errorf("Deliver is %v, %d, %d", got, tag, e)
	}
	s.NextTag = api.MaxCount
	wantNext(t, "NextTag at MaxCount", s, 1)
	wantDeliverError(t, "NextTag at MaxCount", office(), s, 0, api.ErrMany)
	wantNextError(t, "no such queue ahead of it", office(), s, 3, api.ErrNone)
	wantNextError(t, "empty ahead of it", office(), s, 2, api.ErrEmpty)
	wantNextError(t, "busy ahead of it", office(), s, 1, api.ErrBusy)
}

// next: Next, told once more: takers are tried by how many they have, from none on.
func next(s api.State, queue int) (int, api.Errno) {
	if len(s.Ready[queue]) == 0 {
		return 0, api.ErrEmpty
	}
	outs := map[int]int{}
	for _, o := range s.Outs {
		outs[o.Taker]++
	}
	for few := range api.MaxAtOnce {
		for n, x := range s.Takers {
			if x.Queue == queue && outs[n] == few && few < x.AtOnce {
				return n, api.OK
			}
		}
	}
	return 0, api.ErrBusy
}

// delivered: Deliver of a right state, told once more.
func delivered(s api.State, queue int) (api.State, int, api.Errno) {
	taker, e := next(s, queue)
	if e != api.OK {
		return api.State{}, 0, e
	}
	if s.NextTag == api.MaxCount {
		return api.State{}, 0, api.ErrMany
	}
	s.Outs = append(slices.Clone(s.Outs), api.Out{Tag: s.NextTag, Taker: taker, Queue: queue, Item: s.Ready[queue][0]})
	s.Ready = slices.Clone(s.Ready)
	s.Ready[queue] = s.Ready[queue][1:]
	s.NextTag++
	return s, s.NextTag - 1, api.OK
}

// joined: Join of a right state to a queue that there is, told once more.
func joined(s api.State, queue, most int) (api.State, int, api.Errno) {
	if most < 1 || most > api.MaxAtOnce {
		return api.State{}, 0, api.ErrRange
	}
	s.Takers = slices.Clone(s.Takers)
	for n := range s.Takers {
		if s.Takers[n].Queue == -1 {
			s.Takers[n] = api.Taker{Queue: queue, AtOnce: most}
			return s, n, api.OK
		}
	}
	if len(s.Takers) == api.MaxTakers {
		return api.State{}, 0, api.ErrMany
	}
	s.Takers = append(s.Takers, api.Taker{Queue: queue, AtOnce: most})
	return s, len(s.Takers) - 1, api.OK
}

// wantAll: all calls must be as they are told once more.
func wantAll(t *testing.T, s api.State, queue, most int) map[api.Errno]int {
	t.Helper()
	p, seen := office(), map[api.Errno]int{}
	want, k, f := delivered(s, queue)
	got, n, e := Deliver(p, s, queue)
	if e != f || n != k || !same(got, want) {
		t.Fatalf("of %v Deliver of %d is\n%v, %d, %d, and must be\n%v, %d, %d", s, queue, got, n, e, want, k, f)
	}
	if e == api.OK && state.Check(p, got) != api.OK {
		t.Fatalf("of %v Deliver of %d is\n%v, which is told as %d", s, queue, got, state.Check(p, got))
	}
	seen[e]++
	k, f = next(s, queue)
	if n, e := Next(p, s, queue); e != f || n != k {
		t.Fatalf("of %v Next of %d is %d, %d, and must be %d, %d", s, queue, n, e, k, f)
	}
	want, k, f = joined(s, queue, most)
	got, n, e = Join(p, s, queue, most)
	if e != f || n != k || !same(got, want) {
		t.Fatalf("of %v Join of %d, %d is\n%v, %d, %d, and must be\n%v, %d, %d", s, queue, most, got, n, e, want, k, f)
	}
	if e == api.OK && state.Check(p, got) != api.OK {
		t.Fatalf("of %v Join of %d, %d is\n%v, which is told as %d", s, queue, most, got, state.Check(p, got))
	}
	seen[e]++
	return seen
}

// drawn: a right state.
func drawn(r *rand.Rand) api.State {
	s := api.State{Ready: make([][]api.Item, 3), Acked: r.Intn(3), NextTag: r.Intn(3)}
	outs := map[int]int{}
	for range r.Intn(api.MaxTakers + 1) {
		s.Takers = append(s.Takers, api.Taker{Queue: r.Intn(4) - 1, AtOnce: 1 + r.Intn(api.MaxAtOnce)})
	}
	for range r.Intn(12) {
		x := letter(s.NextSeq)
		taker, q := r.Intn(api.MaxTakers), r.Intn(3)
		switch {
		case taker < len(s.Takers) && s.Takers[taker].Queue >= 0 && outs[taker] < s.Takers[taker].AtOnce:
			s.Outs = append(s.Outs, api.Out{Tag: s.NextTag, Taker: taker, Queue: s.Takers[taker].Queue, Item: x})
			s.NextTag += 1 + r.Intn(2)
			outs[taker]++
		case len(s.Ready[q]) < office().Queues[q].Limit:
			s.Ready[q] = append(s.Ready[q], x)
		default:
			s.Dropped++
		}
		s.NextSeq++
	}
	s.NextSeq += s.Acked
	s.Came = s.NextSeq
	if r.Intn(20) == 0 {
		s.NextTag = api.MaxCount
	}
	return s
}

// H1, H2: states of all sorts.
func TestDrawn(t *testing.T) {
	r := rand.New(rand.NewSource(8))
	seen := map[api.Errno]int{}
	for range 5000 {
		s := drawn(r)
		if e := state.Check(office(), s); e != api.OK {
			t.Fatalf("%v is told as %d", s, e)
		}
		for e, n := range wantAll(t, s, r.Intn(3), r.Intn(api.MaxAtOnce+2)) {
			seen[e] += n
		}
	}
	for _, e := range []api.Errno{api.OK, api.ErrEmpty, api.ErrBusy, api.ErrMany, api.ErrRange} {
		if seen[e] < 50 {
			t.Errorf("only %d answers of %d", seen[e], e)
		}
	}
}

// roomy: that state, with spare room behind all lists, in which something stands.
func roomy(s api.State) api.State {
	for q, l := range s.Ready {
		s.Ready[q] = append(slices.Clone(l), letter(77), letter(78))[:len(l)]
	}
	s.Ready = append(slices.Clone(s.Ready), line(79))[:len(s.Ready)]
	s.Outs = append(slices.Clone(s.Outs), api.Out{Tag: 7}, api.Out{Tag: 8})[:len(s.Outs)]
	s.Takers = append(slices.Clone(s.Takers), api.Taker{AtOnce: 7}, api.Taker{AtOnce: 8})[:len(s.Takers)]
	return s
}

// whole: a copy of all that the state has, the spare room behind its lists too.
func whole(s api.State) api.State {
	s.Ready = slices.Clone(s.Ready[:cap(s.Ready)])
	for q, l := range s.Ready {
		s.Ready[q] = slices.Clone(l[:cap(l)])
	}
	s.Outs, s.Takers = slices.Clone(s.Outs[:cap(s.Outs)]), slices.Clone(s.Takers[:cap(s.Takers)])
	return s
}

// spoil: all that the state has is another, as far as its lists go.
func spoil(s api.State) {
	for _, l := range s.Ready {
		clear(l[:cap(l)])
	}
	clear(s.Ready[:cap(s.Ready)])
	clear(s.Outs[:cap(s.Outs)])
	clear(s.Takers[:cap(s.Takers)])
}

// P2, P3: what is handed in is only read, the spare room too; an answer is the caller's, and the same each time.
func TestAllIsRead(t *testing.T) {
	full := func() api.State { return turned(func(s *api.State) { s.Takers[0].Queue = 2 }) }
	for _, begin := range []func() api.State{busy, full} {
		for name, call := range map[string]func(p api.Plan, s api.State) (api.State, int, api.Errno){
			"Join":    func(p api.Plan, s api.State) (api.State, int, api.Errno) { return Join(p, s, 1, 2) },
			"Deliver": func(p api.Plan, s api.State) (api.State, int, api.Errno) { return Deliver(p, s, 0) },
			"Next": func(p api.Plan, s api.State) (api.State, int, api.Errno) {
				n, e := Next(p, s, 0)
				return api.State{}, n, e
			},
		} {
			p, s := office(), roomy(begin())
			before := whole(s)
			first, n, e := call(p, s)
			kept := whole(first)
			second, k, f := call(p, s)
			if e != api.OK || f != api.OK || n != k || !same(first, second) {
				t.Errorf("%s is %v, %d, %d, and then %v, %d, %d", name, first, n, e, second, k, f)
			}
			spoil(second)
			if after := whole(s); !reflect.DeepEqual(before, after) || !reflect.DeepEqual(p, office()) {
				t.Errorf("%s: the state was\n%v\nand is\n%v, the plan is\n%v", name, before, after, p)
			}
			spoil(s)
			if !reflect.DeepEqual(whole(first), kept) {
				t.Errorf("%s was\n%v\nand is, once what was handed in is changed,\n%v", name, kept, first)
			}
		}
	}
}

// P1: whatever they are handed, the calls end, none panics, and they tell what the document names.
func FuzzTakers(f *testing.F) {
	f.Add(uint64(1), 0, 1, 4, 6)
	f.Add(uint64(2), -1, 0, -1, -1)
	f.Add(uint64(3), 2, 5, 0, api.MaxCount)
	f.Add(uint64(4), math.MaxInt, math.MinInt, 5, math.MaxInt)
	f.Fuzz(func(t *testing.T, seed uint64, queue, most, more, tag int) {
		s := drawn(rand.New(rand.NewSource(int64(seed))))
		s.Acked, s.Came, s.NextSeq, s.NextTag = s.Acked+more, s.Came+more, s.NextSeq+more, tag
		want := state.Check(office(), s)
		if want == api.OK && (queue < 0 || queue >= 3) {
			want = api.ErrNone
		}
		if want == api.OK {
			wantAll(t, s, queue, most)
			return
		}
		wantNextError(t, "wrong", office(), s, queue, want)
		wantJoinError(t, "wrong", office(), s, queue, most, want)
	})
}
