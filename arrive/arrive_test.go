package arrive

import (
	"fmt"
	"math"
	"math/rand"
	"reflect"
	"slices"
	"strings"
	"testing"

	"mailcoach/api"
	"mailcoach/lines"
	"mailcoach/plan"
	"mailcoach/state"
)

// letterOf: a letter of the key x.y.
func letterOf(seq int, body string, deaths int) api.Item {
	return api.Item{Seq: seq, Key: "x.y", Body: body, Deaths: deaths}
}

// to: an arrival of the key x.y.
func to(queue int, body string, deaths int) api.Arrival {
	return api.Arrival{Queue: queue, Key: "x.y", Body: body, Deaths: deaths}
}

// office: a plan: what falls out of the first queue comes to the last one, of the others nowhere.
func office() api.Plan {
	return api.Plan{
		Posts:  []api.Post{{Name: "main", Kind: api.Topic}, {Name: "all", Kind: api.Fanout}, {Name: "dead", Kind: api.Direct}},
		Queues: []api.Queue{{Name: "a", Limit: 2, Dead: 2}, {Name: "b", Limit: 3, Dead: -1}, {Name: "d", Limit: 2, Dead: -1}},
		Binds: []api.Bind{
			{From: 0, To: 0, Pattern: "x.#"},
			{From: 0, ToPost: true, To: 1, Pattern: "*.y"},
			{From: 1, To: 1, Pattern: "#"},
			{From: 1, ToPost: true, To: 0, Pattern: "#"},
			{From: 2, To: 2, Pattern: "x.y"},
		},
	}
}

// busy: a state of it: four letters came, two lie there, one is out, one was acked.
func busy() api.State {
	return api.State{
		Ready:   [][]api.Item{{letterOf(2, "two", 0), letterOf(3, "three", 0)}, nil, nil},
		Outs:    []api.Out{{Tag: 5, Taker: 1, Queue: 0, Item: letterOf(1, "one", 0)}},
		Takers:  []api.Taker{{Queue: -1, AtOnce: 1}, {Queue: 0, AtOnce: 2}},
		NextSeq: 4, NextTag: 6, Came: 4, Acked: 1, Dropped: 0,
	}
}

// fan: a plan of so many queues, of one Limit, from each of which the dead go to a post that goes on to the queues named.
func fan(queues, limit int, on ...int) api.Plan {
	p := api.Plan{Posts: []api.Post{{Name: "dead", Kind: api.Fanout}}}
	for q := range queues {
		p.Queues = append(p.Queues, api.Queue{Name: strings.Repeat("q", q+1), Limit: limit, Dead: 0})
	}
	for _, q := range on {
		p.Binds = append(p.Binds, api.Bind{From: 0, To: q, Pattern: "a"})
	}
	return p
}

// filled: a state of these lines, with nothing out, where all that is not there any more was acked.
func filled(next int, ready ...[]api.Item) api.State {
	s := api.State{Ready: ready, NextSeq: next, Came: next, Acked: next}
	for _, l := range ready {
		s.Acked -= len(l)
	}
	return s
}

// shown: a line, in short: Seq, body, deaths.
func shown(l []api.Item) string {
	t := ""
	for _, x := range l {
		t += fmt.Sprintf("%d %s %d,", x.Seq, x.Body, x.Deaths)
	}
	return t
}

// same: are the states the same, whether a list of theirs is nil or empty?
func same(a, b api.State) bool {
	return slices.EqualFunc(a.Ready, b.Ready, slices.Equal[[]api.Item]) && slices.Equal(a.Outs, b.Outs) && slices.Equal(a.Takers, b.Takers) &&
		a.NextSeq == b.NextSeq && a.NextTag == b.NextTag && a.Came == b.Came && a.Acked == b.Acked && a.Dropped == b.Dropped
}

// wantLetters: what comes must have these lines, and have been counted so; all else is as it was.
func wantLetters(t *testing.T, name string, p api.Plan, s api.State, l []api.Arrival, arrived, dropped int, ready ...string) {
	t.Helper()
	if e := state.Check(p, s); e != api.OK {
		t.Fatalf("%s: the state itself is told as %d", name, e)
	}
	got, n, e := Letters(p, s, l)
	if e != api.OK || n != arrived || state.Check(p, got) != api.OK {
		t.Errorf("%s: %d arrived, %d, and it must be %d, OK; it is told as %d", name, n, e, arrived, state.Check(p, got))
		return
	}
	for q, want := range ready {
		if shown(got.Ready[q]) != want {
			t.Errorf("%s: in queue %d lie\n%s\nand must\n%s", name, q, shown(got.Ready[q]), want)
		}
	}
	want := s
	want.Ready = got.Ready
	want.NextSeq, want.Came, want.Dropped = s.NextSeq+arrived, s.Came+arrived, s.Dropped+dropped
	if !same(got, want) || len(got.Ready) != len(ready) {
		t.Errorf("%s: it is\n%v\nand must be\n%v", name, got, want)
	}
}

// F2: letters that arrive where there is room, and where there is none.
func TestLetters(t *testing.T) {
	p, s := office(), busy()
	wantLetters(t, "none", p, s, nil, 0, 0, "2 two 0,3 three 0,", "", "")
	wantLetters(t, "an empty list", p, s, []api.Arrival{}, 0, 0, "2 two 0,3 three 0,", "", "")
	wantLetters(t, "where there is room", p, s, []api.Arrival{to(1, "b", 0), to(2, "d", 2)}, 2, 0, "2 two 0,3 three 0,", "4 b 0,", "5 d 2,")
	wantLetters(t, "one that falls out", p, s, []api.Arrival{to(0, "new", 0)}, 2, 1, "3 three 0,4 new 0,", "", "5 two 1,")
	wantLetters(t, "behind what waits", p, s, []api.Arrival{to(0, "new", 1), to(1, "b", 0), to(2, "d", 0)}, 4, 1,
		"3 three 0,4 new 1,", "5 b 0,", "6 d 0,7 two 1,")
	wantLetters(t, "just MaxQueues", p, s, []api.Arrival{to(0, "1", 0), to(0, "2", 0), to(0, "3", 0), to(0, "4", 0)}, 8, 6,
		"6 3 0,7 4 0,", "", "10 1 1,11 2 1,")
	wantLetters(t, "just the Limit", p, s, []api.Arrival{to(1, "1", 0), to(1, "2", 0), to(1, "3", 0)}, 3, 0,
		"2 two 0,3 three 0,", "4 1 0,5 2 0,6 3 0,", "")
	wantLetters(t, "one above the Limit, and no Dead", p, s, []api.Arrival{to(1, "1", 0), to(1, "2", 0), to(1, "3", 0), to(1, "4", 0)}, 4, 1,
		"2 two 0,3 three 0,", "5 2 0,6 3 0,7 4 0,", "")
	wantLetters(t, "no queue for the dead", fan(1, 1), filled(1, []api.Item{letterOf(0, "old", 0)}), []api.Arrival{to(0, "new", 0)}, 1, 1, "1 new 0,")
}

// F2: what falls out arrives at each queue to which its own key comes from Dead, rising, once.
func TestDead(t *testing.T) {
	old := []api.Item{letterOf(0, "old", 0)}
	wantLetters(t, "several queues", fan(4, 2, 3, 1, 2, 1, 3), filled(2, []api.Item{letterOf(0, "old", 0), letterOf(1, "mid", 0)}, nil, nil, nil),
		[]api.Arrival{to(0, "new", 0)}, 4, 1, "1 mid 0,2 new 0,", "3 old 1,", "4 old 1,", "5 old 1,")
	// It comes again to where it fell out, sheds what came, which comes again, and sheds it: till they died MaxDeaths times.
	wantLetters(t, "its own queue", fan(1, 1, 0), filled(1, old), []api.Arrival{to(0, "new", 0)}, 5, 5, "5 new 2,")
	wantLetters(t, "its own queue, with room", fan(1, 2, 0), filled(2, []api.Item{letterOf(0, "old", 0), letterOf(1, "mid", 2)}),
		[]api.Arrival{to(0, "new", 0)}, 2, 2, "2 new 0,3 old 1,")
	p := fan(2, 1, 1)
	p.Posts[0].Kind = api.Direct
	wantLetters(t, "a key that does not fit", p, filled(1, old, nil), []api.Arrival{{Queue: 0, Key: "a", Body: "new"}}, 1, 1, "1 new 0,", "")
	p.Binds[0].Pattern = "x.y"
	wantLetters(t, "a key that fits", p, filled(1, old, nil), []api.Arrival{{Queue: 0, Key: "a", Body: "new"}}, 2, 1, "1 new 0,", "2 old 1,")
	// It goes on from the post of the dead to other posts, round too.
	p = office()
	p.Queues[0].Dead = 1
	wantLetters(t, "by other posts", p, busy(), []api.Arrival{{Queue: 0, Key: "z", Body: "new"}}, 6, 3,
		"5 two 1,7 three 1,", "6 two 1,8 three 1,9 new 1,", "")
	// Dead is of the queue out of which it falls, wherever it was handed in.
	p = fan(3, 1, 2)
	p.Posts = append(p.Posts, api.Post{Name: "other", Kind: api.Fanout})
	p.Binds = append(p.Binds, api.Bind{From: 1, To: 0, Pattern: "a"})
	p.Queues[1].Dead = 1
	wantLetters(t, "the Dead of its queue", p, filled(1, nil, old, nil), []api.Arrival{to(1, "new", 0)}, 2, 1, "2 old 1,", "1 new 0,", "")
}

// F2: with MaxDeaths deaths it does not arrive once more; with one fewer it does.
func TestDeaths(t *testing.T) {
	for deaths := range api.MaxDeaths + 1 {
		s := filled(1, []api.Item{letterOf(0, "old", deaths)}, nil)
		arrived, there := 2, fmt.Sprintf("2 old %d,", deaths+1)
		if deaths == api.MaxDeaths {
			arrived, there = 1, ""
		}
		// What arrives may itself have died as often as may be.
		for n := range api.MaxDeaths + 1 {
			name := fmt.Sprintf("%d deaths, and %d of what arrives", deaths, n)
			wantLetters(t, name, fan(2, 1, 1), s, []api.Arrival{to(0, "new", n)}, arrived, 1, fmt.Sprintf("1 new %d,", n), there)
		}
	}
}

// F2: what was out before arrives as what was not; its key and body are its own; what stays, stays as it is.
func TestNotAgain(t *testing.T) {
	old := api.Item{Seq: 0, Key: "old.key", Body: "\x00\xff", Again: true, Deaths: 1}
	stays := api.Item{Seq: 1, Key: "stays", Body: "", Again: true, Deaths: 2}
	s := filled(2, []api.Item{old, stays}, nil)
	got, n, e := Letters(fan(2, 2, 1), s, []api.Arrival{{Queue: 0, Key: "new", Body: "body"}})
	first := []api.Item{stays, {Seq: 2, Key: "new", Body: "body"}}
	second := []api.Item{{Seq: 3, Key: "old.key", Body: "\x00\xff", Deaths: 2}}
	if e != api.OK || n != 2 || !slices.Equal(got.Ready[0], first) || !slices.Equal(got.Ready[1], second) {
		t.Errorf("Letters is %v, %d, %d", got, n, e)
	}
}

// turned: that state, with a turn done to it.
func turned(s api.State, turn func(s *api.State)) api.State {
	turn(&s)
	return s
}

// counted: the busy state, when so many came.
func counted(next int) api.State {
	return turned(busy(), func(s *api.State) { s.NextSeq, s.Came, s.Acked = next, next, next-3 })
}

// wantError: that error must be told, and nothing beside it.
func wantError(t *testing.T, name string, p api.Plan, s api.State, l []api.Arrival, want api.Errno) {
	t.Helper()
	if got, n, e := Letters(p, s, l); e != want || n != 0 || !reflect.DeepEqual(got, api.State{}) {
		t.Errorf("%s: Letters is %v, %d, %d, and must be nothing, 0, %d", name, got, n, e, want)
	}
}

// fault: what is wrong in arrivals, or in the state to which they come; its error's place among those that the document names.
type fault struct {
	name  string
	turn  func(l *[]api.Arrival, s *api.State)
	place int
	want  api.Errno
}

// wrong: faults, one by one. One can be done behind another.
func wrong() []fault {
	var all []fault
	add := func(place int, want api.Errno, name string, turn func(l *[]api.Arrival, s *api.State)) {
		all = append(all, fault{name, turn, place, want})
	}
	add(0, api.ErrMany, "one more than MaxQueues", func(l *[]api.Arrival, s *api.State) {
		for len(*l) <= api.MaxQueues {
			*l = append([]api.Arrival{to(1, "more", 0)}, *l...)
		}
	})
	add(0, api.ErrMany, "many more", func(l *[]api.Arrival, s *api.State) { *l = append(make([]api.Arrival, 1000), *l...) })
	for _, queue := range []int{3, -1, math.MaxInt, math.MinInt} {
		add(1, api.ErrNone, "a last queue that is none", func(l *[]api.Arrival, s *api.State) { (*l)[len(*l)-1].Queue = queue })
		add(1, api.ErrNone, "a first queue that is none", func(l *[]api.Arrival, s *api.State) { (*l)[0].Queue = queue })
	}
	form := func(name string, turn func(a *api.Arrival)) {
		add(2, api.ErrForm, name+" ahead", func(l *[]api.Arrival, s *api.State) { turn(&(*l)[0]) })
		add(2, api.ErrForm, name+" behind", func(l *[]api.Arrival, s *api.State) { turn(&(*l)[len(*l)-1]) })
	}
	form("no key", func(a *api.Arrival) { a.Key = "" })
	form("a key too long", func(a *api.Arrival) { a.Key = strings.Repeat("a", api.MaxKey+1) })
	form("too many words", func(a *api.Arrival) { a.Key = "a.b.c.d.e.f.g" })
	form("a pattern", func(a *api.Arrival) { a.Key = "x.#" })
	form("an empty word", func(a *api.Arrival) { a.Key = "x." })
	form("a capital", func(a *api.Arrival) { a.Key = "X" })
	form("a body too long", func(a *api.Arrival) { a.Body = strings.Repeat("b", api.MaxBody+1) })
	form("too many deaths", func(a *api.Arrival) { a.Deaths = api.MaxDeaths + 1 })
	form("deaths below 0", func(a *api.Arrival) { a.Deaths = -1 })
	for _, next := range []int{api.MaxCount/2 + 1, api.MaxCount} {
		add(3, api.ErrMany, "NextSeq above the half", func(l *[]api.Arrival, s *api.State) { *s = counted(next) })
	}
	return all
}

// F1: each error alone, and each of two that come together: the first of them is told, wherever they are.
func TestErrors(t *testing.T) {
	all := wrong()
	for _, first := range all {
		l, s := []api.Arrival{to(0, "a", 0), to(1, "b", 0)}, busy()
		first.turn(&l, &s)
		wantError(t, first.name, office(), s, l, first.want)
		for _, later := range all {
			if first.place >= later.place {
				continue
			}
			l, s := []api.Arrival{to(0, "a", 0), to(1, "b", 0)}, busy()
			later.turn(&l, &s)
			first.turn(&l, &s)
			wantError(t, first.name+", and "+later.name, office(), s, l, first.want)
		}
	}
}

// F1: state.Check's errors come ahead of all others.
func TestStateErrors(t *testing.T) {
	noKind, crowded := office(), office()
	noKind.Posts[0].Kind = 9
	crowded.Queues[0].Limit = 1
	for _, c := range []struct {
		name string
		p    api.Plan
		s    api.State
		want api.Errno
	}{
		{"a wrong plan", noKind, busy(), api.ErrKind},
		{"too many takers", office(), turned(busy(), func(s *api.State) { s.Takers = make([]api.Taker, api.MaxTakers+1) }), api.ErrMany},
		{"no state of it", office(), api.State{}, api.ErrForm},
		{"a Seq twice", office(), turned(busy(), func(s *api.State) { s.Outs[0].Item.Seq = 2 }), api.ErrForm},
		{"a line too long", crowded, busy(), api.ErrRange},
		{"a wrong sum", office(), turned(busy(), func(s *api.State) { s.Acked = 2 }), api.ErrSum},
	} {
		wantError(t, c.name, c.p, c.s, nil, c.want)
		wantError(t, c.name, c.p, c.s, []api.Arrival{to(1, "b", 0)}, c.want)
		for _, w := range wrong() {
			l, other := []api.Arrival{to(0, "a", 0), to(1, "b", 0)}, busy()
			w.turn(&l, &other)
			wantError(t, c.name+", and "+w.name, c.p, c.s, l, c.want)
		}
	}
}

// F1: NextSeq may be just the half of MaxCount; above it there is an error, even if nothing arrives.
func TestHalf(t *testing.T) {
	const half = api.MaxCount / 2
	wantLetters(t, "the half", office(), counted(half), []api.Arrival{to(0, "new", 0)}, 2, 1,
		"3 three 0,524288 new 0,", "", "524289 two 1,")
	wantLetters(t, "the half, and nothing", office(), counted(half), nil, 0, 0, "2 two 0,3 three 0,", "", "")
	for _, l := range [][]api.Arrival{nil, {}, {to(0, "new", 0)}} {
		wantError(t, "one above", office(), counted(half+1), l, api.ErrMany)
		wantError(t, "all that can come", office(), counted(api.MaxCount), l, api.ErrMany)
	}
}

// F1: keys, bodies and deaths of just what may be.
func TestRightEdges(t *testing.T) {
	for _, a := range []api.Arrival{
		{Queue: 2, Key: strings.Repeat("a", api.MaxKey)},
		{Queue: 2, Key: "a.b.c.d.e.f"},
		{Queue: 2, Key: "0", Body: strings.Repeat("\xff", api.MaxBody)},
		{Queue: 2, Key: "z", Body: "\x00\n.#*", Deaths: api.MaxDeaths},
	} {
		got, n, e := Letters(office(), busy(), []api.Arrival{a})
		want := api.Item{Seq: 4, Key: a.Key, Body: a.Body, Deaths: a.Deaths}
		if e != api.OK || n != 1 || !slices.Equal(got.Ready[2], []api.Item{want}) {
			t.Errorf("Letters of %v is %v, %d, %d", a, got, n, e)
		}
	}
}

// F1: an empty plan has no queue at which something could arrive.
func TestEmptyPlan(t *testing.T) {
	wantLetters(t, "nothing", api.Plan{}, api.State{}, nil, 0, 0)
	wantError(t, "something", api.Plan{}, api.State{}, []api.Arrival{to(0, "new", 0)}, api.ErrNone)
}

// F2: as much as can follow: all queues full of what never died, and all that falls out comes to all of them.
func TestMostThatFollows(t *testing.T) {
	p := fan(api.MaxQueues, api.MaxLimit, 0, 1, 2, 3)
	next := api.MaxCount/2 - api.MaxQueues*api.MaxLimit
	s := filled(next)
	for range api.MaxQueues {
		var l []api.Item
		for range api.MaxLimit {
			l = append(l, letterOf(s.NextSeq, "full", 0))
			s.NextSeq, s.Came = s.NextSeq+1, s.Came+1
		}
		s.Ready = append(s.Ready, l)
	}
	l := []api.Arrival{to(0, "a", 0), to(1, "b", 0), to(2, "c", 0), to(3, "d", 0)}
	want, arrived := followed(p, s, l)
	got, n, e := Letters(p, s, l)
	if e != api.OK || n != arrived || n < 100 || !same(got, want) || state.Check(p, got) != api.OK {
		t.Errorf("%d arrived, %d, and it must be %d, OK", n, e, arrived)
	}
}

// comes: the queues to which the key comes from that post, found by trying all binds till nothing new is found.
func comes(p api.Plan, post int, key string) []int {
	posts, queues := map[int]bool{post: true}, map[int]bool{}
	for range len(p.Binds) + 1 {
		for n, b := range p.Binds {
			if fits, _ := plan.Fits(p, n, key); !fits || !posts[b.From] {
				continue
			}
			if b.ToPost {
				posts[b.To] = true
			} else {
				queues[b.To] = true
			}
		}
	}
	var l []int
	for q := range p.Queues {
		if queues[q] {
			l = append(l, q)
		}
	}
	return l
}

// followed: what comes of right arrivals, told once more.
func followed(p api.Plan, s api.State, l []api.Arrival) (api.State, int) {
	ready := make([][]api.Item, len(s.Ready))
	for q := range ready {
		ready[q] = slices.Clone(s.Ready[q])
	}
	s.Ready = ready
	n := 0
	for wait := slices.Clone(l); len(wait) > 0; n++ {
		a := wait[0]
		wait = wait[1:]
		ready[a.Queue] = append(ready[a.Queue], api.Item{Seq: s.NextSeq, Key: a.Key, Body: a.Body, Deaths: a.Deaths})
		s.NextSeq++
		s.Came++
		if len(ready[a.Queue]) <= p.Queues[a.Queue].Limit {
			continue
		}
		x := ready[a.Queue][0]
		ready[a.Queue] = ready[a.Queue][1:]
		s.Dropped++
		if dead := p.Queues[a.Queue].Dead; dead >= 0 && x.Deaths < api.MaxDeaths {
			for _, q := range comes(p, dead, x.Key) {
				wait = append(wait, api.Arrival{Queue: q, Key: x.Key, Body: x.Body, Deaths: x.Deaths + 1})
			}
		}
	}
	return s, n
}

// drawn: a right plan.
func drawn(r *rand.Rand) api.Plan {
	p := fan(1+r.Intn(api.MaxQueues), 1)
	for len(p.Posts) < 3 {
		p.Posts = append(p.Posts, api.Post{Name: strings.Repeat("p", len(p.Posts))})
	}
	for n := range p.Posts {
		p.Posts[n].Kind = []int{api.Direct, api.Fanout, api.Topic}[r.Intn(3)]
	}
	for q := range p.Queues {
		p.Queues[q].Limit, p.Queues[q].Dead = 1+r.Intn(3), r.Intn(4)-1
	}
	for range r.Intn(api.MaxBinds + 1) {
		b := api.Bind{From: r.Intn(3), To: r.Intn(len(p.Queues)), Pattern: []string{"x", "#", "*", "x.#", "x.y"}[r.Intn(5)]}
		if r.Intn(3) == 0 {
			b.ToPost, b.To = true, r.Intn(3)
		}
		p.Binds = append(p.Binds, b)
	}
	return p
}

// F2: whatever arrives, one behind the other, what comes is right, and no letter is lost.
func TestDrawn(t *testing.T) {
	r := rand.New(rand.NewSource(6))
	again := 0
	for range 500 {
		p := drawn(r)
		s, e := state.Begin(p)
		if e != api.OK {
			t.Fatalf("Begin of %v is %d", p, e)
		}
		for range 8 {
			var l []api.Arrival
			for range r.Intn(api.MaxQueues + 1) {
				key := []string{"x", "x.y", "z"}[r.Intn(3)]
				l = append(l, api.Arrival{Queue: r.Intn(len(p.Queues)), Key: key, Body: fmt.Sprint(r.Intn(99)), Deaths: r.Intn(api.MaxDeaths + 1)})
			}
			want, arrived := followed(p, s, l)
			got, n, e := Letters(p, s, l)
			if e != api.OK || n != arrived || !same(got, want) {
				t.Fatalf("of %v, %v, %v Letters is\n%v, %d, %d, and must be\n%v, %d, OK", p, s, l, got, n, e, want, arrived)
			}
			if f := state.Check(p, got); f != api.OK {
				t.Fatalf("of %v, %v, %v Letters is\n%v, which is told as %d", p, s, l, got, f)
			}
			again += n - len(l)
			s = got
		}
	}
	if again < 1000 {
		t.Errorf("only %d letters fell out and came again", again)
	}
}

// roomy: that state, with spare room behind all lists, in which something stands.
func roomy(s api.State) api.State {
	for q, l := range s.Ready {
		s.Ready[q] = append(slices.Clone(l), letterOf(77, "spare", 0), letterOf(78, "spare", 0))[:len(l)]
	}
	s.Ready = append(slices.Clone(s.Ready), []api.Item{letterOf(79, "spare", 0)})[:len(s.Ready)]
	s.Outs = append(slices.Clone(s.Outs), api.Out{Tag: 7}, api.Out{Tag: 8})[:len(s.Outs)]
	s.Takers = append(slices.Clone(s.Takers), api.Taker{AtOnce: 7}, api.Taker{AtOnce: 8})[:len(s.Takers)]
	return s
}

// whole: a copy of all that the state has, the spare room behind its lists too.
func whole(s api.State) api.State {
	s.Ready = slices.Clone(s.Ready[:cap(s.Ready)])
	for q, l := range s.Ready {
		s.Ready[q] = slices.Clone(l[:cap(l)])
	}
	s.Outs, s.Takers = slices.Clone(s.Outs[:cap(s.Outs)]), slices.Clone(s.Takers[:cap(s.Takers)])
	return s
}

// spoil: all that the state has is another, as far as its lists go.
func spoil(s api.State) {
	for _, l := range s.Ready {
		clear(l[:cap(l)])
	}
	clear(s.Ready[:cap(s.Ready)])
	clear(s.Outs[:cap(s.Outs)])
	clear(s.Takers[:cap(s.Takers)])
}

// P2, P3: what is handed in is only read, the spare room too; an answer is the caller's, whether a queue had arrivals or not.
func TestAllIsRead(t *testing.T) {
	p, s := office(), roomy(busy())
	room := []api.Arrival{to(0, "new", 0), to(2, "d", 0), to(1, "spare", 0), to(1, "spare", 0)}
	before, arrivals := whole(s), slices.Clone(room)
	for n := range 3 {
		want, arrived := followed(p, s, room[:n])
		for range 2 {
			got, k, e := Letters(p, s, room[:n])
			if e != api.OK || k != arrived || !same(got, want) {
				t.Errorf("Letters is %v, %d, %d, and must be %v, %d, OK", got, k, e, want, arrived)
			}
			spoil(got)
		}
	}
	if after := whole(s); !reflect.DeepEqual(before, after) {
		t.Errorf("the state was\n%v\nand is\n%v", before, after)
	}
	if !slices.Equal(room, arrivals) || !reflect.DeepEqual(p, office()) {
		t.Errorf("the arrivals are %v, the plan is %v", room, p)
	}
	got, _, _ := Letters(p, s, room[:2])
	kept := whole(got)
	spoil(s)
	clear(room)
	if !reflect.DeepEqual(whole(got), kept) {
		t.Errorf("it was\n%v\nand is, once what was handed in is changed,\n%v", kept, got)
	}
}

// P2: no two lists of an answer share memory.
func TestNoSharing(t *testing.T) {
	p := fan(4, 2, 0, 1, 2, 3)
	s := filled(3, []api.Item{letterOf(0, "a", 0), letterOf(1, "b", 0)}, nil, []api.Item{letterOf(2, "c", 0)}, nil)
	got, _, e := Letters(p, s, []api.Arrival{to(0, "new", 0), to(1, "new", 0)})
	if e != api.OK {
		t.Fatalf("Letters is %d", e)
	}
	for q := range got.Ready {
		before := whole(got)
		_ = append(got.Ready[q], letterOf(99, "more", 0))
		clear(got.Ready[q][:cap(got.Ready[q])])
		before.Ready[q] = got.Ready[q][:cap(got.Ready[q])]
		if !reflect.DeepEqual(whole(got), before) {
			t.Errorf("queue %d shares memory: it was\n%v\nand is\n%v", q, before, whole(got))
		}
	}
}

// P1: whatever it is handed, it ends, does not panic, and tells what the document names.
func FuzzLetters(f *testing.F) {
	f.Add(uint64(1), []byte{0, 0, 1, 0, 2, 1}, "x.y", "body", 4)
	f.Add(uint64(2), []byte{255, 0, 0, 255}, "", "abcdefghijklm", -1)
	f.Add(uint64(3), []byte{0, 0, 0, 0, 0, 0, 0, 0, 0, 0}, "x.#", "", api.MaxCount)
	f.Fuzz(func(t *testing.T, seed uint64, arrivals []byte, key, body string, next int) {
		p := drawn(rand.New(rand.NewSource(int64(seed))))
		s, _ := state.Begin(p)
		s.NextSeq, s.Came, s.Acked = next, next, next
		var l []api.Arrival
		for ; len(arrivals) > 1; arrivals = arrivals[2:] {
			l = append(l, api.Arrival{Queue: int(int8(arrivals[0])), Key: key, Body: body, Deaths: int(int8(arrivals[1]))})
		}
		got, n, e := Letters(p, s, l)
		if want := told(p, s, l); e != want || e != api.OK && (n != 0 || !reflect.DeepEqual(got, api.State{})) {
			t.Fatalf("Letters is %v, %d, %d, and must tell %d", got, n, e, want)
		}
		if e != api.OK {
			return
		}
		if want, arrived := followed(p, s, l); n != arrived || !same(got, want) || state.Check(p, got) != api.OK {
			t.Errorf("Letters is %v, %d, and must be %v, %d", got, n, want, arrived)
		}
	})
}

// told: the error of what is handed in, told once more.
func told(p api.Plan, s api.State, l []api.Arrival) api.Errno {
	is := func(wrong func(a api.Arrival) bool) bool { return slices.ContainsFunc(l, wrong) }
	switch e := state.Check(p, s); {
	case e != api.OK:
		return e
	case len(l) > api.MaxQueues:
		return api.ErrMany
	case is(func(a api.Arrival) bool { return a.Queue < 0 || a.Queue >= len(p.Queues) }):
		return api.ErrNone
	case is(func(a api.Arrival) bool {
		return lines.Check([]api.Item{{Key: a.Key, Body: a.Body, Deaths: a.Deaths}}) != api.OK
	}):
		return api.ErrForm
	case s.NextSeq > api.MaxCount/2:
		return api.ErrMany
	}
	return api.OK
}
