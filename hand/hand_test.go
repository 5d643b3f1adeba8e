package hand

import (
	"fmt"
	"math"
	"math/rand"
	"reflect"
	"slices"
	"strings"
	"testing"

	"mailcoach/api"
	"mailcoach/arrive"
	"mailcoach/plan"
	"mailcoach/state"
	"mailcoach/words"
)

// letter: a letter of the key x.y.
func letter(seq int, body string, deaths int) api.Item {
	return api.Item{Seq: seq, Key: "x.y", Body: body, Deaths: deaths}
}

// office: a plan: x.y comes from the first two posts to the first two queues, by two binds to the second one.
func office() api.Plan {
	return api.Plan{
		Posts:  []api.Post{{Name: "main", Kind: api.Topic}, {Name: "all", Kind: api.Fanout}, {Name: "dead", Kind: api.Direct}},
		Queues: []api.Queue{{Name: "a", Limit: 2, Dead: 2}, {Name: "b", Limit: 3, Dead: -1}, {Name: "d", Limit: 2, Dead: -1}},
		Binds: []api.Bind{
			{From: 0, To: 0, Pattern: "x.#"},
			{From: 0, ToPost: true, To: 1, Pattern: "*.y"},
			{From: 1, To: 1, Pattern: "#"},
			{From: 1, ToPost: true, To: 0, Pattern: "#"},
			{From: 2, To: 2, Pattern: "x.y"},
		},
	}
}

// busy: a state of it: four letters came, two lie there, one is out, one was acked.
func busy() api.State {
	return api.State{
		Ready:   [][]api.Item{{letter(2, "two", 0), letter(3, "three", 0)}, nil, nil},
		Outs:    []api.Out{{Tag: 5, Taker: 1, Queue: 0, Item: letter(1, "one", 0)}},
		Takers:  []api.Taker{{Queue: -1, AtOnce: 1}, {Queue: 0, AtOnce: 2}},
		NextSeq: 4, NextTag: 6, Came: 4, Acked: 1, Dropped: 0,
	}
}

// wide: a plan of MaxQueues queues, to all of which all goes on from the post, and what falls out of them too.
func wide(limit int) api.Plan {
	p := api.Plan{Posts: []api.Post{{Name: "all", Kind: api.Fanout}}}
	for q := range api.MaxQueues {
		p.Queues = append(p.Queues, api.Queue{Name: strings.Repeat("q", q+1), Limit: limit, Dead: 0})
		p.Binds = append(p.Binds, api.Bind{From: 0, To: api.MaxQueues - 1 - q, Pattern: "a"})
	}
	return p
}

// shown: a line, in short: Seq, key, body, deaths.
func shown(l []api.Item) string {
	t := ""
	for _, x := range l {
		t += fmt.Sprintf("%d %s %s %d,", x.Seq, x.Key, x.Body, x.Deaths)
	}
	return t
}

// same: are the states the same, whether a list of theirs is nil or empty?
func same(a, b api.State) bool {
	return slices.EqualFunc(a.Ready, b.Ready, slices.Equal[[]api.Item]) && slices.Equal(a.Outs, b.Outs) && slices.Equal(a.Takers, b.Takers) &&
		a.NextSeq == b.NextSeq && a.NextTag == b.NextTag && a.Came == b.Came && a.Acked == b.Acked && a.Dropped == b.Dropped
}

// handed: what is handed in.
type handed struct {
	post      int
	key, body string
}

// wantPublish: it must come to so many queues, and so many must arrive and be dropped; the lines are these, all else is as it was.
func wantPublish(t *testing.T, name string, p api.Plan, s api.State, h handed, queues, arrived, dropped int, ready ...string) {
	t.Helper()
	if e := state.Check(p, s); e != api.OK {
		t.Fatalf("%s: the state itself is told as %d", name, e)
	}
	got, n, e := Publish(p, s, h.post, h.key, h.body)
	if e != api.OK || n != queues || state.Check(p, got) != api.OK {
		t.Errorf("%s: it comes to %d, %d, and must to %d, OK; it is told as %d", name, n, e, queues, state.Check(p, got))
		return
	}
	for q, want := range ready {
		if shown(got.Ready[q]) != want {
			t.Errorf("%s: in queue %d lie\n%s\nand must\n%s", name, q, shown(got.Ready[q]), want)
		}
	}
	want := s
	want.Ready = got.Ready
	want.NextSeq, want.Came, want.Dropped = s.NextSeq+arrived, s.Came+arrived, s.Dropped+dropped
	if !same(got, want) || len(got.Ready) != len(ready) {
		t.Errorf("%s: it is\n%v\nand must be\n%v", name, got, want)
	}
}

// G1: keys that come to no queue, to one, to several, to all.
func TestPublish(t *testing.T) {
	const lying = "2 x.y two 0,3 x.y three 0,"
	wantPublish(t, "no queue", office(), busy(), handed{0, "z", "new"}, 0, 0, 0, lying, "", "")
	wantPublish(t, "no queue of a direct post", office(), busy(), handed{2, "x", "new"}, 0, 0, 0, lying, "", "")
	wantPublish(t, "one queue", office(), busy(), handed{2, "x.y", "new"}, 1, 1, 0, lying, "", "4 x.y new 0,")
	wantPublish(t, "one queue, which is full", office(), busy(), handed{0, "x", "new"}, 1, 2, 1, "3 x.y three 0,4 x new 0,", "", "5 x.y two 1,")
	wantPublish(t, "one queue by another post", office(), busy(), handed{0, "z.y", "new"}, 1, 1, 0, lying, "4 z.y new 0,", "")
	wantPublish(t, "two queues, to one of them twice", office(), busy(), handed{0, "x.y", "new"}, 2, 3, 1,
		"3 x.y three 0,4 x.y new 0,", "5 x.y new 0,", "6 x.y two 1,")
	wantPublish(t, "two queues, handed in elsewhere", office(), busy(), handed{1, "x.y", "new"}, 2, 3, 1,
		"3 x.y three 0,4 x.y new 0,", "5 x.y new 0,", "6 x.y two 1,")
	s, _ := state.Begin(wide(1))
	wantPublish(t, "all queues", wide(1), s, handed{0, "a", ""}, 4, 4, 0, "0 a  0,", "1 a  0,", "2 a  0,", "3 a  0,")
}

// G1: what falls out, and comes again to where it was handed in, is not counted.
func TestCountOfQueues(t *testing.T) {
	p := wide(1)
	s, _ := state.Begin(p)
	for i := range 2 {
		got, n, e := Publish(p, s, 0, "a", fmt.Sprint(i))
		if e != api.OK || n != api.MaxQueues || state.Check(p, got) != api.OK {
			t.Fatalf("Publish is %v, %d, %d", got, n, e)
		}
		if i > 0 && got.Came-s.Came <= api.MaxQueues {
			t.Errorf("only %d came", got.Came-s.Came)
		}
		s = got
	}
}

// G1: a plan without queues takes letters in, which come nowhere; one without posts does not.
func TestFewThings(t *testing.T) {
	wantPublish(t, "no queues", api.Plan{Posts: office().Posts}, api.State{}, handed{1, "x", "new"}, 0, 0, 0)
	wantError(t, "no posts", api.Plan{}, api.State{}, handed{0, "x", "new"}, api.ErrNone)
}

// G1: bodies and keys of just what may be; a body is any bytes.
func TestRightEdges(t *testing.T) {
	for _, h := range []handed{
		{1, "z", ""},
		{1, "z", strings.Repeat("b", api.MaxBody)},
		{1, "z", strings.Repeat("\xff", api.MaxBody)},
		{1, "z", "\x00\n.# *"},
		{1, strings.Repeat("a", api.MaxKey), "b"},
		{1, "a.b.c.d.e.f", "b"},
		{1, "0", "b"},
	} {
		got, n, e := Publish(office(), busy(), h.post, h.key, h.body)
		want := api.Item{Seq: 4, Key: h.key, Body: h.body}
		if e != api.OK || n != 1 || !slices.Equal(got.Ready[1], []api.Item{want}) {
			t.Errorf("Publish of %v is %v, %d, %d", h, got, n, e)
		}
	}
}

// counted: the busy state, when so many came.
func counted(next int) api.State {
	s := busy()
	s.NextSeq, s.Came, s.Acked = next, next, next-3
	return s
}

// wantError: that error must be told, and nothing beside it.
func wantError(t *testing.T, name string, p api.Plan, s api.State, h handed, want api.Errno) {
	t.Helper()
	if got, n, e := Publish(p, s, h.post, h.key, h.body); e != want || n != 0 || !reflect.DeepEqual(got, api.State{}) {
		t.Errorf("%s: Publish is %v, %d, %d, and must be nothing, 0, %d", name, got, n, e, want)
	}
}

// G1: NextSeq may be just the half of MaxCount; above it there is an error, even if the key comes to no queue.
func TestHalf(t *testing.T) {
	const half = api.MaxCount / 2
	wantPublish(t, "the half", office(), counted(half), handed{0, "x.y", "new"}, 2, 3, 1,
		"3 x.y three 0,524288 x.y new 0,", "524289 x.y new 0,", "524290 x.y two 1,")
	for _, key := range []string{"x.y", "x", "z"} {
		wantError(t, "one above", office(), counted(half+1), handed{0, key, "new"}, api.ErrMany)
		wantError(t, "all that can come", office(), counted(api.MaxCount), handed{0, key, "new"}, api.ErrMany)
	}
}

// fault: what is wrong in all that is handed in; its error's place among those that the document names.
type fault struct {
	name  string
	turn  func(p *api.Plan, s *api.State, h *handed)
	place int
	want  api.Errno
}

// faults: one by one. One can be done behind another.
func faults() []fault {
	var all []fault
	add := func(place int, want api.Errno, name string, turn func(p *api.Plan, s *api.State, h *handed)) {
		all = append(all, fault{name, turn, place, want})
	}
	add(0, api.ErrKind, "a wrong plan", func(p *api.Plan, s *api.State, h *handed) { p.Posts[0].Kind = 9 })
	add(1, api.ErrMany, "too many takers", func(p *api.Plan, s *api.State, h *handed) { s.Takers = make([]api.Taker, api.MaxTakers+1) })
	add(2, api.ErrForm, "no state of it", func(p *api.Plan, s *api.State, h *handed) { *s = api.State{} })
	add(2, api.ErrForm, "a Seq twice", func(p *api.Plan, s *api.State, h *handed) { s.Outs[0].Item.Seq = 2 })
	add(3, api.ErrRange, "a line too long", func(p *api.Plan, s *api.State, h *handed) { p.Queues[0].Limit = 1 })
	add(4, api.ErrSum, "a wrong sum", func(p *api.Plan, s *api.State, h *handed) { s.Dropped++ })
	for _, post := range []int{3, -1, math.MaxInt, math.MinInt} {
		add(5, api.ErrNone, "no such post", func(p *api.Plan, s *api.State, h *handed) { h.post = post })
	}
	for _, key := range []string{strings.Repeat("a", api.MaxKey+1), "a.b.c.d.e.f.g", strings.Repeat(".", api.MaxKey+1)} {
		add(6, api.ErrMany, "a key too long", func(p *api.Plan, s *api.State, h *handed) { h.key = key })
	}
	for _, key := range []string{"", "#", "x.*", "x..y", "x.", ".y", "X", "x y"} {
		add(6, api.ErrForm, "no key", func(p *api.Plan, s *api.State, h *handed) { h.key = key })
	}
	for _, n := range []int{api.MaxBody + 1, 1000} {
		add(7, api.ErrForm, "a body too long", func(p *api.Plan, s *api.State, h *handed) { h.body = strings.Repeat("b", n) })
	}
	for _, next := range []int{api.MaxCount/2 + 1, api.MaxCount} {
		add(8, api.ErrMany, "NextSeq above the half", func(p *api.Plan, s *api.State, h *handed) { *s = counted(next) })
	}
	return all
}

// G1, P1: each error alone, and each of two that come together: the first of them is told, wherever the key comes.
func TestErrors(t *testing.T) {
	all := faults()
	for _, key := range []string{"x.y", "x", "z"} {
		for _, first := range all {
			p, s, h := office(), busy(), handed{0, key, "new"}
			first.turn(&p, &s, &h)
			wantError(t, first.name, p, s, h, first.want)
			for _, later := range all {
				if first.place >= later.place {
					continue
				}
				p, s, h := office(), busy(), handed{0, key, "new"}
				later.turn(&p, &s, &h)
				first.turn(&p, &s, &h)
				wantError(t, first.name+", and "+later.name, p, s, h, first.want)
			}
		}
	}
}

// comes: the queues to which the key comes from that post, found by trying all binds till nothing new is found.
func comes(p api.Plan, post int, key string) []int {
	posts, queues := map[int]bool{post: true}, map[int]bool{}
	for range len(p.Binds) + 1 {
		for n, b := range p.Binds {
			if fits, _ := plan.Fits(p, n, key); !fits || !posts[b.From] {
				continue
			}
			if b.ToPost {
				posts[b.To] = true
			} else {
				queues[b.To] = true
			}
		}
	}
	var l []int
	for q := range p.Queues {
		if queues[q] {
			l = append(l, q)
		}
	}
	return l
}

// followed: what comes of a letter, told once more, and of how many queues.
func followed(p api.Plan, s api.State, h handed) (api.State, int, api.Errno) {
	if e := state.Check(p, s); e != api.OK {
		return api.State{}, 0, e
	}
	if h.post < 0 || h.post >= len(p.Posts) {
		return api.State{}, 0, api.ErrNone
	}
	if _, e := words.Split(h.key); e != api.OK {
		return api.State{}, 0, e
	}
	if len(h.body) > api.MaxBody {
		return api.State{}, 0, api.ErrForm
	}
	var l []api.Arrival
	for _, q := range comes(p, h.post, h.key) {
		l = append(l, api.Arrival{Queue: q, Key: h.key, Body: h.body})
	}
	after, _, e := arrive.Letters(p, s, l)
	if e != api.OK {
		return api.State{}, 0, e
	}
	return after, len(l), api.OK
}

// drawn: a right plan.
func drawn(r *rand.Rand) api.Plan {
	p := wide(1)
	p.Queues, p.Binds = p.Queues[:1+r.Intn(api.MaxQueues)], nil
	for len(p.Posts) < 3 {
		p.Posts = append(p.Posts, api.Post{Name: strings.Repeat("p", len(p.Posts))})
	}
	for n := range p.Posts {
		p.Posts[n].Kind = []int{api.Direct, api.Fanout, api.Topic}[r.Intn(3)]
	}
	for q := range p.Queues {
		p.Queues[q].Limit, p.Queues[q].Dead = 1+r.Intn(3), r.Intn(4)-1
	}
	for range r.Intn(api.MaxBinds + 1) {
		b := api.Bind{From: r.Intn(3), To: r.Intn(len(p.Queues)), Pattern: []string{"x", "#", "*", "x.#", "x.y"}[r.Intn(5)]}
		if r.Intn(3) == 0 {
			b.ToPost, b.To = true, r.Intn(3)
		}
		p.Binds = append(p.Binds, b)
	}
	return p
}

// wantFollowed: Publish must be as it is told once more.
func wantFollowed(t *testing.T, p api.Plan, s api.State, h handed) (api.State, int) {
	t.Helper()
	want, queues, f := followed(p, s, h)
	got, n, e := Publish(p, s, h.post, h.key, h.body)
	if e != f || n != queues || !same(got, want) {
		t.Fatalf("of %v, %v, %v Publish is\n%v, %d, %d, and must be\n%v, %d, %d", p, s, h, got, n, e, want, queues, f)
	}
	if e == api.OK && state.Check(p, got) != api.OK {
		t.Fatalf("of %v, %v, %v Publish is\n%v, which is told as %d", p, s, h, got, state.Check(p, got))
	}
	return got, n
}

// G1: whatever is handed in, one behind the other, it comes to where it must, and what comes is right.
func TestDrawn(t *testing.T) {
	r := rand.New(rand.NewSource(7))
	seen := map[int]int{}
	for range 500 {
		p := drawn(r)
		s, e := state.Begin(p)
		if e != api.OK {
			t.Fatalf("Begin of %v is %d", p, e)
		}
		for i := range 8 {
			got, n := wantFollowed(t, p, s, handed{r.Intn(3), []string{"x", "x.y", "z"}[r.Intn(3)], fmt.Sprint(i)})
			seen[n]++
			s = got
		}
	}
	for n := range api.MaxQueues + 1 {
		if seen[n] < 10 {
			t.Errorf("only %d letters came to %d queues", seen[n], n)
		}
	}
}

// roomy: that state, with spare room behind all lists, in which something stands.
func roomy(s api.State) api.State {
	for q, l := range s.Ready {
		s.Ready[q] = append(slices.Clone(l), letter(77, "spare", 0), letter(78, "spare", 0))[:len(l)]
	}
	s.Ready = append(slices.Clone(s.Ready), []api.Item{letter(79, "spare", 0)})[:len(s.Ready)]
	s.Outs = append(slices.Clone(s.Outs), api.Out{Tag: 7}, api.Out{Tag: 8})[:len(s.Outs)]
	s.Takers = append(slices.Clone(s.Takers), api.Taker{AtOnce: 7}, api.Taker{AtOnce: 8})[:len(s.Takers)]
	return s
}

// whole: a copy of all that the state has, the spare room behind its lists too.
func whole(s api.State) api.State {
	s.Ready = slices.Clone(s.Ready[:cap(s.Ready)])
	for q, l := range s.Ready {
		s.Ready[q] = slices.Clone(l[:cap(l)])
	}
	s.Outs, s.Takers = slices.Clone(s.Outs[:cap(s.Outs)]), slices.Clone(s.Takers[:cap(s.Takers)])
	return s
}

// spoil: all that the state has is another, as far as its lists go.
func spoil(s api.State) {
	for _, l := range s.Ready {
		clear(l[:cap(l)])
	}
	clear(s.Ready[:cap(s.Ready)])
	clear(s.Outs[:cap(s.Outs)])
	clear(s.Takers[:cap(s.Takers)])
}

// P2, P3: what is handed in is only read, the spare room too; an answer is the caller's, whether the key comes somewhere or not.
func TestAllIsRead(t *testing.T) {
	for _, key := range []string{"x.y", "x", "z", "#"} {
		p, s, h := office(), roomy(busy()), handed{0, key, "new"}
		before := whole(s)
		for range 2 {
			got, _ := wantFollowed(t, p, s, h)
			spoil(got)
		}
		if after := whole(s); !reflect.DeepEqual(before, after) || !reflect.DeepEqual(p, office()) {
			t.Errorf("the state was\n%v\nand is\n%v, the plan is\n%v", before, after, p)
		}
		got, _, _ := Publish(p, s, 0, key, "new")
		kept := whole(got)
		spoil(s)
		if !reflect.DeepEqual(whole(got), kept) {
			t.Errorf("it was\n%v\nand is, once what was handed in is changed,\n%v", kept, got)
		}
	}
}

// P1: whatever it is handed, it ends, does not panic, and tells what the document names.
func FuzzPublish(f *testing.F) {
	f.Add(uint64(1), 0, "x.y", "body", 4)
	f.Add(uint64(2), -1, "", "abcdefghijklm", -1)
	f.Add(uint64(3), 2, "x.#", "", api.MaxCount)
	f.Add(uint64(4), 1, "x", "\xff", api.MaxCount/2+1)
	f.Fuzz(func(t *testing.T, seed uint64, post int, key, body string, next int) {
		p := drawn(rand.New(rand.NewSource(int64(seed))))
		s, _ := state.Begin(p)
		s.NextSeq, s.Came, s.Acked = next, next, next
		wantFollowed(t, p, s, handed{post, key, body})
	})
}
