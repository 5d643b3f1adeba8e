package reply

import (
	"fmt"
	"math"
	"math/rand"
	"reflect"
	"slices"
	"strings"
	"testing"

	"mailcoach/api"
	"mailcoach/hand"
	"mailcoach/plan"
	"mailcoach/state"
	"mailcoach/takers"
)

// letter: a letter of the key x.y.
func letter(seq, deaths int) api.Item {
	return api.Item{Seq: seq, Key: "x.y", Body: fmt.Sprint("b", seq), Deaths: deaths}
}

// line: letters of those Seqs.
func line(seqs ...int) []api.Item {
	var l []api.Item
	for _, n := range seqs {
		l = append(l, letter(n, 0))
	}
	return l
}

// out: a letter that is out.
func out(tag, taker, queue, seq int) api.Out {
	return api.Out{Tag: tag, Taker: taker, Queue: queue, Item: letter(seq, 0)}
}

// office: a plan: x.y comes from the post of the dead, which the first queue has, to the last two queues.
func office() api.Plan {
	return api.Plan{
		Posts:  []api.Post{{Name: "main", Kind: api.Topic}, {Name: "dead", Kind: api.Direct}},
		Queues: []api.Queue{{Name: "a", Limit: 2, Dead: 1}, {Name: "b", Limit: 3, Dead: -1}, {Name: "c", Limit: 2, Dead: -1}},
		Binds: []api.Bind{
			{From: 0, To: 0, Pattern: "x.#"},
			{From: 1, To: 2, Pattern: "x.y"},
			{From: 1, To: 1, Pattern: "x.y"},
			{From: 1, ToPost: true, To: 1, Pattern: "x.y"},
		},
	}
}

// busy: a state of it: the first queue is full, the second one has room for one; the first taker is gone, the last one has nothing.
func busy() api.State {
	return api.State{
		Ready:   [][]api.Item{line(3, 8), line(2, 9), nil},
		Outs:    []api.Out{out(2, 1, 0, 5), out(4, 2, 1, 7), out(5, 1, 0, 1), out(7, 1, 0, 10)},
		Takers:  []api.Taker{{Queue: -1, AtOnce: 2}, {Queue: 0, AtOnce: 3}, {Queue: 1, AtOnce: 4}, {Queue: 2, AtOnce: 1}},
		NextSeq: 12, NextTag: 9, Came: 12, Acked: 3, Dropped: 1,
	}
}

// turned: the busy state, with a turn done to it.
func turned(turn func(s *api.State)) api.State {
	s := busy()
	turn(&s)
	return s
}

// counted: the busy state, when so many came.
func counted(next int) api.State {
	return turned(func(s *api.State) { s.NextSeq, s.Came, s.Acked = next, next, s.Acked+next-s.Came })
}

// shown: a line, in short: Seq, body, deaths, and ! if it was out before.
func shown(l []api.Item) string {
	t := ""
	for _, x := range l {
		t += fmt.Sprintf("%d %s %d", x.Seq, x.Body, x.Deaths)
		if x.Again {
			t += "!"
		}
		t += ","
	}
	return t
}

// same: are the states the same, whether a list of theirs is nil or empty?
func same(a, b api.State) bool {
	return slices.EqualFunc(a.Ready, b.Ready, slices.Equal[[]api.Item]) && slices.Equal(a.Outs, b.Outs) && slices.Equal(a.Takers, b.Takers) &&
		a.NextSeq == b.NextSeq && a.NextTag == b.NextTag && a.Came == b.Came && a.Acked == b.Acked && a.Dropped == b.Dropped
}

// answer: what a call must make of a state: how many arrived, were acked, were dropped, the tags that are out, and the lines.
type answer struct {
	arrived, acked, dropped int
	tags                    []int
	ready                   []string
}

// wantAnswer: a call must make that of the state; all else is as it was, but for takers, which are handed back.
func wantAnswer(t *testing.T, name string, p api.Plan, s api.State, a answer, call func(p api.Plan, s api.State) (api.State, api.Errno)) []api.Taker {
	t.Helper()
	if e := state.Check(p, s); e != api.OK {
		t.Fatalf("%s: the state itself is told as %d", name, e)
	}
	got, e := call(p, s)
	if e != api.OK || state.Check(p, got) != api.OK {
		t.Errorf("%s: it is %v, %d, told as %d", name, got, e, state.Check(p, got))
		return nil
	}
	for q, want := range a.ready {
		if shown(got.Ready[q]) != want {
			t.Errorf("%s: in queue %d lie\n%s\nand must\n%s", name, q, shown(got.Ready[q]), want)
		}
	}
	want := s
	want.Ready, want.Takers, want.Outs = got.Ready, got.Takers, nil
	for _, o := range s.Outs {
		if slices.Contains(a.tags, o.Tag) {
			want.Outs = append(want.Outs, o)
		}
	}
	want.NextSeq, want.Came = s.NextSeq+a.arrived, s.Came+a.arrived
	want.Acked, want.Dropped = s.Acked+a.acked, s.Dropped+a.dropped
	if !same(got, want) || len(got.Ready) != len(a.ready) {
		t.Errorf("%s: it is\n%v\nand must be\n%v", name, got, want)
	}
	return got.Takers
}

// wantTakers: the takers must be these.
func wantTakers(t *testing.T, name string, got, want []api.Taker) {
	t.Helper()
	if !slices.Equal(got, want) {
		t.Errorf("%s: the takers are %v, and must be %v", name, got, want)
	}
}

// acking, rejecting, leaving: the calls.
func acking(tag int) func(p api.Plan, s api.State) (api.State, api.Errno) {
	return func(p api.Plan, s api.State) (api.State, api.Errno) { return Ack(p, s, tag) }
}

func rejecting(tag int, back bool) func(p api.Plan, s api.State) (api.State, api.Errno) {
	return func(p api.Plan, s api.State) (api.State, api.Errno) { return Reject(p, s, tag, back) }
}

func leaving(taker int) func(p api.Plan, s api.State) (api.State, api.Errno) {
	return func(p api.Plan, s api.State) (api.State, api.Errno) { return Leave(p, s, taker) }
}

// wantError: that error must be told, and nothing beside it.
func wantError(t *testing.T, name string, p api.Plan, s api.State, want api.Errno, call func(p api.Plan, s api.State) (api.State, api.Errno)) {
	t.Helper()
	if got, e := call(p, s); e != want || !reflect.DeepEqual(got, api.State{}) {
		t.Errorf("%s: it is %v, %d, and must be nothing, %d", name, got, e, want)
	}
}

// without: the tags that are out in the busy state, but for these.
func without(tags ...int) []int {
	return slices.DeleteFunc([]int{2, 4, 5, 7}, func(n int) bool { return slices.Contains(tags, n) })
}

// I1: what is acked is done, wherever it stands, and however many came.
func TestAck(t *testing.T) {
	lying := []string{"3 b3 0,8 b8 0,", "2 b2 0,9 b9 0,", ""}
	for _, s := range []api.State{busy(), counted(api.MaxCount/2 + 1), counted(api.MaxCount)} {
		for _, tag := range []int{2, 4, 5, 7} {
			l := wantAnswer(t, fmt.Sprint("Ack of ", tag), office(), s, answer{0, 1, 0, without(tag), lying}, acking(tag))
			wantTakers(t, "Ack", l, s.Takers)
		}
	}
}

// I1: there is none of that tag: it never was, it is done, or it is a letter's Seq.
func TestNoSuchTag(t *testing.T) {
	for _, s := range []api.State{busy(), counted(api.MaxCount)} {
		for _, tag := range []int{-1, 0, 1, 3, 6, 8, 9, 10, math.MaxInt, math.MinInt} {
			wantError(t, fmt.Sprint("Ack of ", tag), office(), s, api.ErrNone, acking(tag))
			wantError(t, fmt.Sprint("back ", tag), office(), s, api.ErrNone, rejecting(tag, true))
			wantError(t, fmt.Sprint("drop ", tag), office(), s, api.ErrNone, rejecting(tag, false))
		}
	}
	wantError(t, "Ack, where nothing is", api.Plan{}, api.State{}, api.ErrNone, acking(0))
	wantError(t, "Reject, where nothing is", api.Plan{}, api.State{}, api.ErrNone, rejecting(0, true))
	for _, call := range []func(p api.Plan, s api.State) (api.State, api.Errno){acking(5), rejecting(5, true), rejecting(5, false)} {
		s, e := call(office(), busy())
		if e != api.OK {
			t.Fatalf("it is %d", e)
		}
		wantError(t, "Ack of what is done", office(), s, api.ErrNone, acking(5))
		wantError(t, "Reject of what is done", office(), s, api.ErrNone, rejecting(5, true))
	}
}

// I1: what goes back lies where its Seq says, and was out before; out of a queue that is full the first one falls.
func TestBack(t *testing.T) {
	second, third := "2 b2 0,9 b9 0,", ""
	a := answer{0, 0, 0, without(4), []string{"3 b3 0,8 b8 0,", "2 b2 0,7 b7 0!,9 b9 0,", third}}
	wantTakers(t, "room", wantAnswer(t, "to a queue with room", office(), busy(), a, rejecting(4, true)), busy().Takers)

	full := turned(func(s *api.State) { s.Ready[1], s.Acked = line(0, 2, 9), s.Acked-1 })
	a = answer{0, 0, 1, without(4), []string{"3 b3 0,8 b8 0,", "2 b2 0,7 b7 0!,9 b9 0,", third}}
	wantAnswer(t, "to a full queue without a Dead", office(), full, a, rejecting(4, true))
	full.Ready[1] = line(8, 9, 11)
	full.Ready[0] = line(3, 4)
	a = answer{0, 0, 1, without(4), []string{"3 b3 0,4 b4 0,", "8 b8 0,9 b9 0,11 b11 0,", third}}
	wantAnswer(t, "to a full queue, and falls itself", office(), full, a, rejecting(4, true))

	a = answer{2, 0, 1, without(2), []string{"5 b5 0!,8 b8 0,", second + "12 b3 1,", "13 b3 1,"}}
	wantTakers(t, "full", wantAnswer(t, "to a full queue with a Dead", office(), busy(), a, rejecting(2, true)), busy().Takers)
	a = answer{2, 0, 1, without(7), []string{"8 b8 0,10 b10 0!,", second + "12 b3 1,", "13 b3 1,"}}
	wantAnswer(t, "the last one back", office(), busy(), a, rejecting(7, true))
	a = answer{2, 0, 1, without(5), []string{"3 b3 0,8 b8 0,", second + "12 b1 1,", "13 b1 1,"}}
	wantAnswer(t, "the first one back, which falls itself", office(), busy(), a, rejecting(5, true))

	again := turned(func(s *api.State) { s.Outs[1].Item.Again, s.Outs[1].Item.Deaths = true, 2 })
	a = answer{0, 0, 0, without(4), []string{"3 b3 0,8 b8 0,", "2 b2 0,7 b7 2!,9 b9 0,", third}}
	wantAnswer(t, "what was out twice", office(), again, a, rejecting(4, true))
}

// I1: how often the one died that falls out counts, not how often the one did that goes back.
func TestBackDeaths(t *testing.T) {
	second := "2 b2 0,9 b9 0,"
	for deaths := range api.MaxDeaths + 1 {
		for own := range api.MaxDeaths + 1 {
			s := turned(func(s *api.State) { s.Ready[0][0].Deaths, s.Outs[0].Item.Deaths = deaths, own })
			first := fmt.Sprintf("5 b5 %d!,8 b8 0,", own)
			a := answer{2, 0, 1, without(2), []string{first, second + fmt.Sprintf("12 b3 %d,", deaths+1), fmt.Sprintf("13 b3 %d,", deaths+1)}}
			if deaths == api.MaxDeaths {
				a = answer{0, 0, 1, without(2), []string{first, second, ""}}
			}
			wantAnswer(t, fmt.Sprintf("%d deaths, its own %d", deaths, own), office(), s, a, rejecting(2, true))
		}
	}
}

// I1: what is dropped arrives by its queue's Dead, if it has one, if it may die once more, and if its key comes anywhere.
func TestDrop(t *testing.T) {
	first, second := "3 b3 0,8 b8 0,", "2 b2 0,9 b9 0,"
	for _, tag := range []int{2, 5, 7} {
		body := map[int]string{2: "b5", 5: "b1", 7: "b10"}[tag]
		a := answer{2, 0, 1, without(tag), []string{first, second + "12 " + body + " 1,", "13 " + body + " 1,"}}
		wantTakers(t, "drop", wantAnswer(t, "with a Dead", office(), busy(), a, rejecting(tag, false)), busy().Takers)
	}
	a := answer{0, 0, 1, without(4), []string{first, second, ""}}
	wantAnswer(t, "without a Dead", office(), busy(), a, rejecting(4, false))
	for deaths := range api.MaxDeaths + 1 {
		s := turned(func(s *api.State) { s.Outs[2].Item.Deaths, s.Outs[2].Item.Again = deaths, true })
		a := answer{2, 0, 1, without(5), []string{first, second + fmt.Sprintf("12 b1 %d,", deaths+1), fmt.Sprintf("13 b1 %d,", deaths+1)}}
		if deaths == api.MaxDeaths {
			a = answer{0, 0, 1, without(5), []string{first, second, ""}}
		}
		wantAnswer(t, fmt.Sprint("deaths ", deaths), office(), s, a, rejecting(5, false))
	}
	other := turned(func(s *api.State) { s.Outs[2].Item.Key = "x" })
	a = answer{0, 0, 1, without(5), []string{first, second, ""}}
	wantAnswer(t, "a key that comes nowhere", office(), other, a, rejecting(5, false))
}

// round: a plan of one queue for one letter: what falls out of it comes there again.
func round() api.Plan {
	return api.Plan{
		Posts:  []api.Post{{Name: "dead", Kind: api.Fanout}},
		Queues: []api.Queue{{Name: "a", Limit: 1, Dead: 0}},
		Binds:  []api.Bind{{From: 0, To: 0, Pattern: "a"}},
	}
}

// I1: what arrives of it sheds in turn, till all have died as often as may be.
func TestWhatFollows(t *testing.T) {
	s := api.State{Ready: [][]api.Item{line(1)}, Outs: []api.Out{out(0, 0, 0, 0)}, Takers: []api.Taker{{Queue: 0, AtOnce: 1}}, NextSeq: 2, NextTag: 1, Came: 2}
	for _, back := range []bool{true, false} {
		wantAnswer(t, fmt.Sprint("back ", back), round(), s, answer{4, 0, 5, nil, []string{"5 b1 2,"}}, rejecting(0, back))
	}
	wantAnswer(t, "the one that lies there died", round(), turnedTo(s, func(s *api.State) { s.Ready[0][0].Deaths = 2 }),
		answer{1, 0, 2, nil, []string{"2 b0 1,"}}, rejecting(0, false))
}

// turnedTo: that state, with a turn done to it.
func turnedTo(s api.State, turn func(s *api.State)) api.State {
	turn(&s)
	return s
}

// I1: NextSeq above the half of MaxCount is told of each Reject, whether something arrives or not; just the half is right.
func TestRejectHalf(t *testing.T) {
	const half = api.MaxCount / 2
	for _, tag := range []int{2, 4, 5, 7} {
		for _, back := range []bool{true, false} {
			name := fmt.Sprint(tag, " back ", back)
			wantError(t, name, office(), counted(half+1), api.ErrMany, rejecting(tag, back))
			wantError(t, name, office(), counted(api.MaxCount), api.ErrMany, rejecting(tag, back))
			wantRejected(t, office(), counted(half), tag, back)
			if _, e := Reject(office(), counted(half), tag, back); e != api.OK {
				t.Errorf("%s: with just the half it is %d", name, e)
			}
		}
	}
}

// I2: all that it has goes back, by the tags, and then it is gone.
func TestLeave(t *testing.T) {
	first, second := "3 b3 0,8 b8 0,", "2 b2 0,9 b9 0,"
	gone := func(taker int) []api.Taker {
		l := busy().Takers
		l[taker].Queue = -1
		return l
	}
	a := answer{6, 0, 6, without(2, 5, 7), []string{"8 b8 0,10 b10 0!,", "12 b3 1,14 b1 1,16 b5 1,", "15 b1 1,17 b5 1,"}}
	wantTakers(t, "several", wantAnswer(t, "several letters", office(), busy(), a, leaving(1)), gone(1))
	a = answer{0, 0, 0, without(4), []string{first, "2 b2 0,7 b7 0!,9 b9 0,", ""}}
	wantTakers(t, "one", wantAnswer(t, "one letter", office(), busy(), a, leaving(2)), gone(2))
	a = answer{0, 0, 0, without(), []string{first, second, ""}}
	wantTakers(t, "none", wantAnswer(t, "no letter", office(), busy(), a, leaving(3)), gone(3))
	room := turned(func(s *api.State) { s.Ready[0], s.Acked, s.Outs = nil, 6, s.Outs[:3] })
	a = answer{0, 0, 0, []int{4}, []string{"1 b1 0!,5 b5 0!,", second, ""}}
	wantTakers(t, "room", wantAnswer(t, "to a queue with room for all", office(), room, a, leaving(1)), gone(1))
}

// I2: there is no such taker, or it is gone, and stays so.
func TestNoSuchTaker(t *testing.T) {
	for _, s := range []api.State{busy(), counted(api.MaxCount)} {
		for _, taker := range []int{0, -1, 4, 5, math.MaxInt, math.MinInt} {
			wantError(t, fmt.Sprint("Leave of ", taker), office(), s, api.ErrNone, leaving(taker))
		}
	}
	wantError(t, "where nothing is", api.Plan{}, api.State{}, api.ErrNone, leaving(0))
	for taker := 1; taker < 4; taker++ {
		s, e := Leave(office(), busy(), taker)
		if e != api.OK {
			t.Fatalf("Leave of %d is %d", taker, e)
		}
		wantError(t, "one that has left", office(), s, api.ErrNone, leaving(taker))
		wantError(t, "one that was gone before", office(), s, api.ErrNone, leaving(0))
	}
}

// I2: NextSeq above the half of MaxCount is told as soon as a letter is to go back then, and not if there is none.
func TestLeaveHalf(t *testing.T) {
	const half = api.MaxCount / 2
	for _, next := range []int{half + 1, api.MaxCount} {
		wantError(t, "several letters", office(), counted(next), api.ErrMany, leaving(1))
		wantError(t, "one letter, and room", office(), counted(next), api.ErrMany, leaving(2))
		a := answer{0, 0, 0, without(), []string{"3 b3 0,8 b8 0,", "2 b2 0,9 b9 0,", ""}}
		wantAnswer(t, "no letter", office(), counted(next), a, leaving(3))
	}
	// Each of the three that go back makes two more arrive.
	for more, want := range map[int]api.Errno{-5: api.OK, -4: api.OK, -3: api.ErrMany, -2: api.ErrMany, -1: api.ErrMany, 0: api.ErrMany} {
		got, e := Leave(office(), counted(half+more), 1)
		if e != want || e != api.OK && !reflect.DeepEqual(got, api.State{}) || e == api.OK && got.NextSeq != half+more+6 {
			t.Errorf("with %d more than the half Leave is %v, %d, and must be %d", more, got, e, want)
		}
	}
	if _, e := Leave(office(), counted(half), 2); e != api.OK {
		t.Errorf("with just the half, and room, Leave is %d", e)
	}
}

// I1, I2: state.Check's errors come ahead of all others.
func TestStateErrors(t *testing.T) {
	noKind, crowded := office(), office()
	noKind.Posts[0].Kind = 9
	crowded.Queues[0].Limit = 1
	for _, c := range []struct {
		name string
		p    api.Plan
		s    api.State
		want api.Errno
	}{
		{"a wrong plan", noKind, busy(), api.ErrKind},
		{"too many takers", office(), turned(func(s *api.State) { s.Takers = make([]api.Taker, api.MaxTakers+1) }), api.ErrMany},
		{"no state of it", office(), api.State{}, api.ErrForm},
		{"a Seq twice", office(), turned(func(s *api.State) { s.Outs[0].Item.Seq = 3 }), api.ErrForm},
		{"a tag twice", office(), turned(func(s *api.State) { s.Outs[1].Tag = 2 }), api.ErrForm},
		{"a taker that is gone", office(), turned(func(s *api.State) { s.Takers[1].Queue = -1 }), api.ErrForm},
		{"a line too long", crowded, busy(), api.ErrRange},
		{"a taker with too many", office(), turned(func(s *api.State) { s.Takers[1].AtOnce = 2 }), api.ErrRange},
		{"a wrong sum", office(), turned(func(s *api.State) { s.Dropped++ }), api.ErrSum},
		{"a wrong sum, and many", office(), turnedTo(counted(api.MaxCount), func(s *api.State) { s.Dropped++ }), api.ErrSum},
	} {
		for _, n := range []int{-1, 0, 1, 2, 4, 9, math.MaxInt} {
			wantError(t, c.name, c.p, c.s, c.want, acking(n))
			wantError(t, c.name, c.p, c.s, c.want, rejecting(n, true))
			wantError(t, c.name, c.p, c.s, c.want, rejecting(n, false))
			wantError(t, c.name, c.p, c.s, c.want, leaving(n))
		}
	}
}

// I1: what was delivered, and goes back, lies where it lay, and was out before.
func TestLiesWhereItLay(t *testing.T) {
	p := office()
	s, _ := state.Begin(p)
	for _, body := range []string{"one", "two"} {
		s, _, _ = hand.Publish(p, s, 0, "x", body)
	}
	s, _, _ = takers.Join(p, s, 0, 2)
	one, tag, _ := takers.Deliver(p, s, 0)
	back, e := Reject(p, one, tag, true)
	want := s
	want.Ready = [][]api.Item{slices.Clone(s.Ready[0]), nil, nil}
	want.Ready[0][0].Again = true
	want.NextTag = 1
	if e != api.OK || tag != 0 || !same(back, want) {
		t.Errorf("it is\n%v, %d, and must be\n%v", back, e, want)
	}
	two, _, _ := takers.Deliver(p, one, 0)
	left, e := Leave(p, two, 0)
	want.Ready[0][1].Again = true
	want.Takers, want.NextTag = []api.Taker{{Queue: -1, AtOnce: 2}}, 2
	if e != api.OK || !same(left, want) {
		t.Errorf("it is\n%v, %d, and must be\n%v", left, e, want)
	}
}

// comes: the queues to which the key comes from that post, found by trying all binds till nothing new is found.
func comes(p api.Plan, post int, key string) []int {
	posts, queues := map[int]bool{post: true}, map[int]bool{}
	for range len(p.Binds) + 1 {
		for n, b := range p.Binds {
			if fits, _ := plan.Fits(p, n, key); !fits || !posts[b.From] {
				continue
			}
			if b.ToPost {
				posts[b.To] = true
			} else {
				queues[b.To] = true
			}
		}
	}
	var l []int
	for q := range p.Queues {
		if queues[q] {
			l = append(l, q)
		}
	}
	return l
}

// cloned: the state, in new memory.
func cloned(s api.State) api.State {
	s.Ready, s.Outs, s.Takers = slices.Clone(s.Ready), slices.Clone(s.Outs), slices.Clone(s.Takers)
	for q := range s.Ready {
		s.Ready[q] = slices.Clone(s.Ready[q])
	}
	return s
}

// fallen: a letter that fell out of a queue, told once more, with all that follows.
func fallen(p api.Plan, s *api.State, queue int, x api.Item) {
	type fall struct {
		queue int
		x     api.Item
	}
	var wait []fall
	die := func(queue int, x api.Item) {
		s.Dropped++
		if dead := p.Queues[queue].Dead; dead >= 0 && x.Deaths < api.MaxDeaths {
			for _, q := range comes(p, dead, x.Key) {
				wait = append(wait, fall{q, api.Item{Key: x.Key, Body: x.Body, Deaths: x.Deaths + 1}})
			}
		}
	}
	for die(queue, x); len(wait) > 0; {
		f := wait[0]
		wait = wait[1:]
		f.x.Seq = s.NextSeq
		s.NextSeq++
		s.Came++
		l := append(s.Ready[f.queue], f.x)
		if len(l) > p.Queues[f.queue].Limit {
			die(f.queue, l[0])
			l = l[1:]
		}
		s.Ready[f.queue] = l
	}
}

// taken: the state without the Out of that tag, and it; false, if there is none.
func taken(s api.State, tag int) (api.State, api.Out, bool) {
	s = cloned(s)
	for n, o := range s.Outs {
		if o.Tag == tag {
			s.Outs = append(s.Outs[:n], s.Outs[n+1:]...)
			return s, o, true
		}
	}
	return api.State{}, api.Out{}, false
}

// rejected: Reject of a right state, told once more.
func rejected(p api.Plan, s api.State, tag int, back bool) (api.State, api.Errno) {
	s, o, there := taken(s, tag)
	if !there {
		return api.State{}, api.ErrNone
	}
	if s.NextSeq > api.MaxCount/2 {
		return api.State{}, api.ErrMany
	}
	if !back {
		fallen(p, &s, o.Queue, o.Item)
		return s, api.OK
	}
	o.Item.Again = true
	l := append(s.Ready[o.Queue], o.Item)
	slices.SortFunc(l, func(a, b api.Item) int { return a.Seq - b.Seq })
	s.Ready[o.Queue] = l
	if len(l) > p.Queues[o.Queue].Limit {
		s.Ready[o.Queue] = l[1:]
		fallen(p, &s, o.Queue, l[0])
	}
	return s, api.OK
}

// left: Leave of a right state, told once more.
func left(p api.Plan, s api.State, taker int) (api.State, api.Errno) {
	if taker < 0 || taker >= len(s.Takers) || s.Takers[taker].Queue < 0 {
		return api.State{}, api.ErrNone
	}
	s = cloned(s)
	for tag := range s.NextTag {
		if n := slices.IndexFunc(s.Outs, func(o api.Out) bool { return o.Tag == tag }); n >= 0 && s.Outs[n].Taker == taker {
			after, e := rejected(p, s, tag, true)
			if e != api.OK {
				return api.State{}, e
			}
			s = after
		}
	}
	s.Takers[taker].Queue = -1
	return s, api.OK
}

// acked: Ack of a right state, told once more.
func acked(s api.State, tag int) (api.State, api.Errno) {
	s, _, there := taken(s, tag)
	if !there {
		return api.State{}, api.ErrNone
	}
	s.Acked++
	return s, api.OK
}

// wantSame: an answer must be the one that was told once more, and right.
func wantSame(t *testing.T, name string, p api.Plan, s, got api.State, e api.Errno, want api.State, f api.Errno) {
	t.Helper()
	if e != f || !same(got, want) {
		t.Fatalf("of %v, %v %s is\n%v, %d, and must be\n%v, %d", p, s, name, got, e, want, f)
	}
	if e == api.OK && state.Check(p, got) != api.OK {
		t.Fatalf("of %v, %v %s is\n%v, which is told as %d", p, s, name, got, state.Check(p, got))
	}
}

// wantRejected, wantLeft, wantAcked: the calls must be as they are told once more.
func wantRejected(t *testing.T, p api.Plan, s api.State, tag int, back bool) (api.State, api.Errno) {
	t.Helper()
	want, f := rejected(p, s, tag, back)
	got, e := Reject(p, s, tag, back)
	wantSame(t, fmt.Sprintf("Reject of %d, back %v", tag, back), p, s, got, e, want, f)
	return got, e
}

func wantLeft(t *testing.T, p api.Plan, s api.State, taker int) (api.State, api.Errno) {
	t.Helper()
	want, f := left(p, s, taker)
	got, e := Leave(p, s, taker)
	wantSame(t, fmt.Sprint("Leave of ", taker), p, s, got, e, want, f)
	return got, e
}

func wantAcked(t *testing.T, p api.Plan, s api.State, tag int) (api.State, api.Errno) {
	t.Helper()
	want, f := acked(s, tag)
	got, e := Ack(p, s, tag)
	wantSame(t, fmt.Sprint("Ack of ", tag), p, s, got, e, want, f)
	return got, e
}

// drawn: a right plan.
func drawn(r *rand.Rand) api.Plan {
	p := api.Plan{}
	for n := range 3 {
		p.Posts = append(p.Posts, api.Post{Name: strings.Repeat("p", n+1), Kind: []int{api.Direct, api.Fanout, api.Topic}[r.Intn(3)]})
	}
	for q := range 1 + r.Intn(api.MaxQueues) {
		p.Queues = append(p.Queues, api.Queue{Name: strings.Repeat("q", q+1), Limit: 1 + r.Intn(4), Dead: r.Intn(4) - 1})
	}
	for range r.Intn(api.MaxBinds + 1) {
		b := api.Bind{From: r.Intn(3), To: r.Intn(len(p.Queues)), Pattern: []string{"x", "#", "*", "x.#", "x.y"}[r.Intn(5)]}
		if r.Intn(3) == 0 {
			b.ToPost, b.To = true, r.Intn(3)
		}
		p.Binds = append(p.Binds, b)
	}
	return p
}

// act: an act that is drawn, done to the state; what came of a reply, if it was one.
func act(t *testing.T, r *rand.Rand, p api.Plan, s api.State) (api.State, string) {
	t.Helper()
	tag := r.Intn(10) - 1
	if len(s.Outs) > 0 && r.Intn(5) > 0 {
		tag = s.Outs[r.Intn(len(s.Outs))].Tag
	}
	var after api.State
	var e api.Errno
	what := ""
	switch n := r.Intn(16); {
	case n < 4:
		after, _, e = hand.Publish(p, s, r.Intn(3), []string{"x", "x.y", "z"}[r.Intn(3)], fmt.Sprint(s.NextSeq))
	case n < 6:
		after, _, e = takers.Join(p, s, r.Intn(len(p.Queues)), 1+r.Intn(api.MaxAtOnce))
	case n < 11:
		after, _, e = takers.Deliver(p, s, r.Intn(len(p.Queues)))
	case n < 12:
		after, e = wantAcked(t, p, s, tag)
		what = fmt.Sprint("ack ", e)
	case n < 15:
		back := r.Intn(3) > 0
		after, e = wantRejected(t, p, s, tag, back)
		what = fmt.Sprint("reject ", back, " ", e, " ", e == api.OK && after.Dropped > s.Dropped, " ", after.Came > s.Came)
	default:
		after, e = wantLeft(t, p, s, r.Intn(api.MaxTakers+1))
		what = fmt.Sprint("leave ", e, " ", len(after.Outs) < len(s.Outs))
	}
	if e != api.OK {
		return s, what
	}
	return after, what
}

// I1, I2: whatever is done, one behind the other, what comes is as it must be, and right.
func TestDrawn(t *testing.T) {
	r := rand.New(rand.NewSource(9))
	seen := map[string]int{}
	for range 300 {
		p := drawn(r)
		s, e := state.Begin(p)
		if e != api.OK {
			t.Fatalf("Begin of %v is %d", p, e)
		}
		if r.Intn(6) == 0 {
			near := api.MaxCount/2 - r.Intn(30)
			s.NextSeq, s.Came, s.Acked = near, near, near
		}
		for range 80 {
			what := ""
			s, what = act(t, r, p, s)
			seen[what]++
		}
	}
	for _, what := range []string{
		"ack 0", "ack 5", "leave 0 true", "leave 0 false", "leave 2 true", "leave 5 true",
		"reject true 0 false false", "reject true 0 true false", "reject true 0 true true", "reject true 2 false false", "reject true 5 false false",
		"reject false 0 true false", "reject false 0 true true", "reject false 2 false false", "reject false 5 false false",
	} {
		if seen[what] < 10 {
			t.Errorf("only %d of %s: %v", seen[what], what, seen)
		}
	}
}

// roomy: that state, with spare room behind all lists, in which something stands.
func roomy(s api.State) api.State {
	for q, l := range s.Ready {
		s.Ready[q] = append(slices.Clone(l), line(77, 78)...)[:len(l)]
	}
	s.Ready = append(slices.Clone(s.Ready), line(79))[:len(s.Ready)]
	s.Outs = append(slices.Clone(s.Outs), api.Out{Tag: 7}, api.Out{Tag: 8})[:len(s.Outs)]
	s.Takers = append(slices.Clone(s.Takers), api.Taker{AtOnce: 7}, api.Taker{AtOnce: 8})[:len(s.Takers)]
	return s
}

// whole: a copy of all that the state has, the spare room behind its lists too.
func whole(s api.State) api.State {
	s.Ready = slices.Clone(s.Ready[:cap(s.Ready)])
	for q, l := range s.Ready {
		s.Ready[q] = slices.Clone(l[:cap(l)])
	}
	s.Outs, s.Takers = slices.Clone(s.Outs[:cap(s.Outs)]), slices.Clone(s.Takers[:cap(s.Takers)])
	return s
}

// spoil: all that the state has is another, as far as its lists go.
func spoil(s api.State) {
	for _, l := range s.Ready {
		clear(l[:cap(l)])
	}
	clear(s.Ready[:cap(s.Ready)])
	clear(s.Outs[:cap(s.Outs)])
	clear(s.Takers[:cap(s.Takers)])
}

// P2, P3: what is handed in is only read, the spare room too; an answer is the caller's, and the same each time.
func TestAllIsRead(t *testing.T) {
	for _, call := range []func(p api.Plan, s api.State) (api.State, api.Errno){
		acking(2), acking(7), rejecting(2, true), rejecting(4, true), rejecting(5, false), rejecting(4, false), leaving(1), leaving(2), leaving(3),
	} {
		p, s := office(), roomy(busy())
		before := whole(s)
		first, e := call(p, s)
		kept := whole(first)
		second, f := call(p, s)
		if e != api.OK || f != api.OK || !same(first, second) {
			t.Errorf("it is\n%v, %d, and then\n%v, %d", first, e, second, f)
		}
		spoil(second)
		if after := whole(s); !reflect.DeepEqual(before, after) || !reflect.DeepEqual(p, office()) {
			t.Errorf("the state was\n%v\nand is\n%v, the plan is\n%v", before, after, p)
		}
		spoil(s)
		if !reflect.DeepEqual(whole(first), kept) {
			t.Errorf("it was\n%v\nand is, once what was handed in is changed,\n%v", kept, first)
		}
	}
}

// P1: whatever they are handed, the calls end, none panics, and they tell what the document names.
func FuzzReply(f *testing.F) {
	f.Add(uint64(1), 0, true, 0, 4)
	f.Add(uint64(2), -1, false, -1, -1)
	f.Add(uint64(3), 2, true, 5, api.MaxCount/2)
	f.Add(uint64(4), math.MaxInt, false, math.MinInt, api.MaxCount+1)
	f.Fuzz(func(t *testing.T, seed uint64, tag int, back bool, taker, more int) {
		r := rand.New(rand.NewSource(int64(seed)))
		p := drawn(r)
		s, _ := state.Begin(p)
		for range r.Intn(60) {
			s, _ = act(t, r, p, s)
		}
		s.Acked, s.Came, s.NextSeq = s.Acked+more, s.Came+more, s.NextSeq+more
		if want := state.Check(p, s); want != api.OK {
			wantError(t, "wrong", p, s, want, acking(tag))
			wantError(t, "wrong", p, s, want, rejecting(tag, back))
			wantError(t, "wrong", p, s, want, leaving(taker))
			return
		}
		wantAcked(t, p, s, tag)
		wantRejected(t, p, s, tag, back)
		wantLeft(t, p, s, taker)
	})
}
