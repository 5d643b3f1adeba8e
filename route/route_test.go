package route

import (
	"math"
	"math/rand"
	"reflect"
	"slices"
	"strings"
	"testing"

	"mailcoach/api"
	"mailcoach/plan"
	"mailcoach/words"
)

// office: a plan with posts of each kind, two binds that lead round, and a post to which nothing comes.
func office() api.Plan {
	return api.Plan{
		Posts: []api.Post{
			{Name: "main", Kind: api.Topic},
			{Name: "all", Kind: api.Fanout},
			{Name: "dead", Kind: api.Direct},
		},
		Queues: []api.Queue{
			{Name: "a", Limit: 2, Dead: 2},
			{Name: "b", Limit: 3, Dead: -1},
			{Name: "d", Limit: 2, Dead: -1},
		},
		Binds: []api.Bind{
			{From: 0, To: 0, Pattern: "x.#"},
			{From: 0, ToPost: true, To: 1, Pattern: "*.y"},
			{From: 1, To: 1, Pattern: "z"},
			{From: 1, ToPost: true, To: 0, Pattern: "z"},
			{From: 2, To: 2, Pattern: "x.y"},
		},
	}
}

// fan: a plan of as many posts and queues as there may be, all posts fanout, so that all keys fit by all binds.
func fan(binds ...api.Bind) api.Plan {
	p := api.Plan{Binds: binds}
	for i := range api.MaxPosts {
		p.Posts = append(p.Posts, api.Post{Name: strings.Repeat("p", i+1), Kind: api.Fanout})
	}
	for i := range api.MaxQueues {
		p.Queues = append(p.Queues, api.Queue{Name: strings.Repeat("q", i+1), Limit: 1, Dead: -1})
	}
	return p
}

// on: a bind to a post.
func on(from, to int) api.Bind { return api.Bind{From: from, ToPost: true, To: to, Pattern: "a"} }

// in: a bind to a queue.
func in(from, to int) api.Bind { return api.Bind{From: from, To: to, Pattern: "a"} }

// C1: where keys come from each post of an office.
func TestPostsAndQueues(t *testing.T) {
	for _, c := range []struct {
		post          int
		key           string
		posts, queues []int
	}{
		{0, "x.y", []int{0, 1}, []int{0, 1}},
		{0, "z.y", []int{0, 1}, []int{1}},
		{0, "x", []int{0}, []int{0}},
		{0, "x.y.z", []int{0}, []int{0}},
		{0, "z", []int{0}, nil},
		{1, "x.y", []int{0, 1}, []int{0, 1}}, // round to where it was
		{1, "x", []int{0, 1}, []int{0, 1}},
		{1, "z", []int{0, 1}, []int{1}},
		{2, "x.y", []int{2}, []int{2}},
		{2, "x", []int{2}, nil},
	} {
		posts, e := Posts(office(), c.post, c.key)
		if e != api.OK || !slices.Equal(posts, c.posts) {
			t.Errorf("Posts(%d, %q) is %v, %d, and must be %v, OK", c.post, c.key, posts, e, c.posts)
		}
		queues, e := Queues(office(), c.post, c.key)
		if e != api.OK || !slices.Equal(queues, c.queues) {
			t.Errorf("Queues(%d, %q) is %v, %d, and must be %v, OK", c.post, c.key, queues, e, c.queues)
		}
	}
}

// C1, C3: posts and queues rise, none twice, whatever the order of the binds and however they lead round.
func TestRise(t *testing.T) {
	for _, c := range []struct {
		name          string
		p             api.Plan
		post          int
		posts, queues []int
	}{
		{"no bind", fan(), 2, []int{2}, nil},
		{"one plan's one post", api.Plan{Posts: fan().Posts[:1]}, 0, []int{0}, nil},
		{"to itself", fan(on(1, 1)), 1, []int{1}, nil},
		{"to itself, twice, and on", fan(on(1, 1), on(1, 1), in(1, 3)), 1, []int{1}, []int{3}},
		{"downward", fan(in(0, 0), on(1, 0), in(1, 1), on(2, 1), in(2, 2), on(3, 2), in(3, 3)), 3, []int{0, 1, 2, 3}, []int{0, 1, 2, 3}},
		{"just what is behind", fan(in(0, 0), on(1, 0), in(1, 1), on(2, 1), in(2, 2), on(3, 2), in(3, 3)), 1, []int{0, 1}, []int{0, 1}},
		{"a ring", fan(on(0, 2), on(2, 1), on(1, 3), on(3, 0), in(3, 2), in(1, 0)), 2, []int{0, 1, 2, 3}, []int{0, 2}},
		{"two that lead to one another", fan(on(3, 1), on(1, 3), in(1, 2)), 3, []int{1, 3}, []int{2}},
		{"one queue in several ways", fan(in(0, 2), in(0, 2), on(0, 1), in(1, 2), on(1, 3), in(3, 2)), 0, []int{0, 1, 3}, []int{2}},
		{"highest first", fan(in(0, 3), in(0, 1), in(0, 2), in(0, 0), in(0, 3)), 0, []int{0}, []int{0, 1, 2, 3}},
		{"one post in several ways", fan(on(0, 3), on(0, 1), on(1, 3), on(3, 1), on(0, 3)), 0, []int{0, 1, 3}, nil},
		{"a queue's number is no post's", fan(in(0, 1), in(1, 2)), 0, []int{0}, []int{1}},
		{"a post's number is no queue's", fan(on(0, 1), in(1, 0)), 0, []int{0, 1}, []int{0}},
	} {
		posts, e := Posts(c.p, c.post, "x")
		if e != api.OK || !slices.Equal(posts, c.posts) {
			t.Errorf("%s: Posts is %v, %d, and must be %v, OK", c.name, posts, e, c.posts)
		}
		queues, e := Queues(c.p, c.post, "x")
		if e != api.OK || !slices.Equal(queues, c.queues) {
			t.Errorf("%s: Queues is %v, %d, and must be %v, OK", c.name, queues, e, c.queues)
		}
	}
}

// C2: of several ways the one with the fewest binds, and of several such the least; false, if there is none.
func TestWay(t *testing.T) {
	for _, c := range []struct {
		name        string
		p           api.Plan
		post, queue int
		want        []int
	}{
		{"no bind", fan(), 0, 0, nil},
		{"to another queue", fan(in(0, 1)), 0, 0, nil},
		{"from another post", fan(in(1, 0)), 0, 0, nil},
		{"to the post of that number", fan(on(0, 1)), 0, 1, nil},
		{"round, and not there", fan(on(0, 1), on(1, 0), in(2, 3)), 0, 3, nil},
		{"one bind", fan(in(1, 1), in(0, 2)), 0, 2, []int{1}},
		{"two binds that are the same", fan(in(0, 0), in(0, 2), in(0, 2)), 0, 2, []int{1}},
		{"fewest, though they are greater", fan(on(0, 1), in(1, 0), in(0, 0)), 0, 0, []int{2}},
		{"fewest of two and three", fan(on(0, 1), on(1, 2), in(2, 0), on(0, 3), in(3, 0)), 0, 0, []int{3, 4}},
		{"least by the first, greater post", fan(on(0, 2), on(0, 1), in(1, 0), in(2, 0)), 0, 0, []int{0, 3}},
		{"least by the second", fan(in(1, 3), in(1, 3), on(0, 1), on(0, 1)), 0, 3, []int{2, 0}},
		{"least by the first of three", fan(in(3, 0), on(2, 3), in(1, 0), on(0, 2), on(0, 1)), 0, 0, []int{4, 2}},
		{"two posts that meet", fan(on(2, 1), on(3, 1), in(1, 0), on(0, 3), on(0, 2)), 0, 0, []int{3, 1, 2}},
		{"two that go on side by side", fan(in(2, 1), in(3, 1), on(1, 2), on(1, 3), on(0, 1)), 0, 1, []int{4, 2, 0}},
		{"as long as may be", fan(in(0, 0), on(1, 0), on(2, 1), on(3, 2), on(0, 3)), 3, 0, []int{3, 2, 1, 0}},
		{"no step round", fan(on(0, 0), on(0, 1), on(1, 0), in(1, 2)), 0, 2, []int{1, 3}},
		{"round to a queue of its own", fan(on(1, 0), on(0, 1), in(1, 3), in(0, 3)), 0, 3, []int{3}},
	} {
		way, is, e := Way(c.p, c.post, "x", c.queue)
		if e != api.OK || is != (c.want != nil) || !slices.Equal(way, c.want) {
			t.Errorf("%s: Way is %v, %v, %d, and must be %v, OK", c.name, way, is, e, c.want)
		}
	}
}

// C2: binds that the key does not fit are no way, though they would be shorter, or less.
func TestWayByKey(t *testing.T) {
	p := office()
	p.Binds = append(p.Binds, api.Bind{From: 0, To: 1, Pattern: "x.y.#"}, api.Bind{From: 0, To: 1, Pattern: "#.z"})
	for _, c := range []struct {
		post  int
		key   string
		queue int
		want  []int
	}{
		{0, "x.y", 0, []int{0}},
		{0, "x.y", 1, []int{5}},
		{0, "z.y", 1, []int{1, 2}},
		{0, "x.z", 1, []int{6}},
		{0, "x.y.z", 1, []int{5}},
		{0, "y", 1, nil},
		{0, "x.y", 2, nil},
		{1, "x", 0, []int{3, 0}},
		{1, "y", 0, nil},
		{2, "x.y", 2, []int{4}},
		{2, "x.z", 2, nil},
	} {
		way, is, e := Way(p, c.post, c.key, c.queue)
		if e != api.OK || is != (c.want != nil) || !slices.Equal(way, c.want) {
			t.Errorf("Way(%d, %q, %d) is %v, %v, %d, and must be %v, OK", c.post, c.key, c.queue, way, is, e, c.want)
		}
	}
}

// wantErrors: all three calls must tell that error, and nothing beside it.
func wantErrors(t *testing.T, name string, p api.Plan, post int, key string, queue int, want api.Errno) {
	t.Helper()
	if l, e := Posts(p, post, key); e != want || len(l) != 0 {
		t.Errorf("%s: Posts is %v, %d, and must be nothing, %d", name, l, e, want)
	}
	if l, e := Queues(p, post, key); e != want || len(l) != 0 {
		t.Errorf("%s: Queues is %v, %d, and must be nothing, %d", name, l, e, want)
	}
	if l, is, e := Way(p, post, key, queue); e != want || is || len(l) != 0 {
		t.Errorf("%s: Way is %v, %v, %d, and must be nothing, false, %d", name, l, is, e, want)
	}
}

// C1, C2, P1: the plan's errors come first, then ErrNone of the post, then the key's.
func TestErrors(t *testing.T) {
	long := strings.Repeat("x", api.MaxKey+1)
	for name, turn := range map[string]func(p *api.Plan){
		"many":           func(p *api.Plan) { p.Binds = make([]api.Bind, api.MaxBinds+1) },
		"a name":         func(p *api.Plan) { p.Posts[1].Name = "" },
		"one name":       func(p *api.Plan) { p.Queues[1].Name = "a" },
		"a kind":         func(p *api.Plan) { p.Posts[2].Kind = 0 },
		"a limit":        func(p *api.Plan) { p.Queues[2].Limit = 0 },
		"a bind's to":    func(p *api.Plan) { p.Binds[1].To = 3 },
		"a pattern":      func(p *api.Plan) { p.Binds[4].Pattern = "" },
		"a long pattern": func(p *api.Plan) { p.Binds[4].Pattern = long },
	} {
		p := office()
		turn(&p)
		want := plan.Check(p)
		if want == api.OK {
			t.Fatalf("%s: the plan is right", name)
		}
		wantErrors(t, name, p, 0, "x.y", 0, want)
		wantErrors(t, name+", no post", p, 7, "x.y", 0, want)
		wantErrors(t, name+", no key", p, 0, "", 0, want)
		wantErrors(t, name+", no queue", p, 0, "x.y", -1, want)
	}
	for _, post := range []int{-1, 3, math.MinInt, math.MaxInt} {
		wantErrors(t, "no post", office(), post, "x.y", 0, api.ErrNone)
		wantErrors(t, "no post, no key", office(), post, "", 0, api.ErrNone)
		wantErrors(t, "no post, a long key", office(), post, long, 0, api.ErrNone)
	}
	wantErrors(t, "an empty plan", api.Plan{}, 0, "x.y", 0, api.ErrNone)
	for _, key := range []string{"", "#", "*.y", "X", "x..y", "x y", long, "a.b.c.d.e.f.g", "......", "\xff"} {
		_, want := words.Split(key)
		for post := range office().Posts {
			wantErrors(t, "no key", office(), post, key, 0, want)
			wantErrors(t, "no key, no queue", office(), post, key, 9, want)
		}
	}
}

// C2: ErrNone, if there is no such queue, be there a way or none.
func TestWayNoQueue(t *testing.T) {
	for post := range office().Posts {
		for _, key := range []string{"x.y", "z"} {
			for _, queue := range []int{-1, 3, math.MinInt, math.MaxInt} {
				if l, is, e := Way(office(), post, key, queue); e != api.ErrNone || is || len(l) != 0 {
					t.Errorf("Way(%d, %q, %d) is %v, %v, %d, and must be nothing, false, ErrNone", post, key, queue, l, is, e)
				}
			}
		}
	}
	p := office()
	p.Queues, p.Binds = nil, p.Binds[1:2]
	if l, is, e := Way(p, 0, "x.y", 0); e != api.ErrNone || is || len(l) != 0 {
		t.Errorf("without queues Way is %v, %v, %d", l, is, e)
	}
}

// walks goes through all ways of just so many binds from that post, the least first, and tells the post or queue at the
// end of each.
func walks(p api.Plan, post int, key string, length int, way []int, tell func(way []int, end api.Bind)) {
	for n, b := range p.Binds {
		if fits, _ := plan.Fits(p, n, key); b.From != post || !fits {
			continue
		}
		longer := append(slices.Clone(way), n)
		if length == 1 {
			tell(longer, b)
		} else if b.ToPost {
			walks(p, b.To, key, length-1, longer, tell)
		}
	}
}

// wantAll holds the three calls against all ways that there are, one after the other.
func wantAll(t *testing.T, p api.Plan, post int, key string) {
	t.Helper()
	posts := map[int]struct{}{post: {}}
	ways := map[int][]int{}
	for length := 1; length <= len(p.Posts)+1; length++ {
		walks(p, post, key, length, nil, func(way []int, end api.Bind) {
			if end.ToPost {
				posts[end.To] = struct{}{}
			} else if ways[end.To] == nil {
				ways[end.To] = way
			}
		})
	}
	got, e := Posts(p, post, key)
	if _, twice := repeated(got); e != api.OK || !slices.IsSorted(got) || twice || len(got) != len(posts) {
		t.Errorf("%v %d %q: Posts is %v, %d, and must be %v", p, post, key, got, e, posts)
	}
	for _, x := range got {
		if _, there := posts[x]; !there {
			t.Errorf("%v %d %q: Posts is %v, and must be %v", p, post, key, got, posts)
		}
	}
	got, e = Queues(p, post, key)
	if _, twice := repeated(got); e != api.OK || !slices.IsSorted(got) || twice || len(got) != len(ways) {
		t.Errorf("%v %d %q: Queues is %v, %d, and the ways are %v", p, post, key, got, e, ways)
	}
	for queue := range p.Queues {
		way, is, e := Way(p, post, key, queue)
		if e != api.OK || is != slices.Contains(got, queue) || !slices.Equal(way, ways[queue]) {
			t.Errorf("%v %d %q %d: Way is %v, %v, %d, and must be %v", p, post, key, queue, way, is, e, ways[queue])
		}
	}
}

// repeated: a number that is there twice.
func repeated(l []int) (int, bool) {
	for i, x := range l {
		if slices.Contains(l[:i], x) {
			return x, true
		}
	}
	return 0, false
}

// drawn: some right plan.
func drawn(r *rand.Rand) api.Plan {
	p := fan()
	p.Posts, p.Queues = p.Posts[:1+r.Intn(api.MaxPosts)], p.Queues[:1+r.Intn(api.MaxQueues)]
	for i := range p.Posts {
		p.Posts[i].Kind = []int{api.Fanout, api.Topic, api.Topic, api.Direct}[r.Intn(4)]
	}
	patterns := []string{"#", "*", "x", "x.#", "#.y", "x.y", "*.*"}
	for range r.Intn(api.MaxBinds + 1) {
		b := api.Bind{From: r.Intn(len(p.Posts)), To: r.Intn(len(p.Queues)), Pattern: patterns[r.Intn(len(patterns))]}
		if r.Intn(5) < 3 {
			b.ToPost, b.To = true, r.Intn(len(p.Posts))
		}
		p.Binds = append(p.Binds, b)
	}
	return p
}

// C1 to C3: there is a way just to the queues to which a letter comes, and of all ways it is the one that is asked for.
func TestAllWays(t *testing.T) {
	r := rand.New(rand.NewSource(3))
	for range 1500 {
		p := drawn(r)
		for post := range p.Posts {
			for _, key := range []string{"x", "x.y", "z"} {
				wantAll(t, p, post, key)
			}
		}
		if t.Failed() {
			return
		}
	}
}

// C3: where every post leads to every other, a letter comes to each queue once all the same.
func TestAllLeadRound(t *testing.T) {
	p := fan(on(0, 1), on(1, 2), on(2, 3), on(3, 0), on(1, 0), on(2, 0), in(3, 1), in(2, 1), in(1, 1), in(0, 3))
	for post := range p.Posts {
		wantAll(t, p, post, "x.y")
		if l, e := Queues(p, post, "x.y"); e != api.OK || !slices.Equal(l, []int{1, 3}) {
			t.Errorf("Queues(%d) is %v, %d", post, l, e)
		}
	}
}

// whole: the plan with the spare room behind its lists, in new memory.
func whole(p api.Plan) api.Plan {
	return api.Plan{
		Posts:  slices.Clone(p.Posts[:cap(p.Posts)]),
		Queues: slices.Clone(p.Queues[:cap(p.Queues)]),
		Binds:  slices.Clone(p.Binds[:cap(p.Binds)]),
	}
}

// P2, P3: a plan is only read, the spare room behind its lists too, and not kept; an answer is the caller's; the same
// question has the same answer.
func TestPlanIsRead(t *testing.T) {
	p := office()
	p.Posts = append(make([]api.Post, 0, 9), p.Posts...)
	p.Queues = append(make([]api.Queue, 0, 9), p.Queues...)
	p.Binds = append(make([]api.Bind, 0, 19), p.Binds...)
	before := whole(p)
	for range 3 {
		posts, e := Posts(p, 1, "z.y")
		queues, f := Queues(p, 1, "x.y")
		way, is, g := Way(p, 1, "x.y", 0)
		if e != api.OK || f != api.OK || g != api.OK || !is || !slices.Equal(posts, []int{0, 1}) || !slices.Equal(queues, []int{0, 1}) || !slices.Equal(way, []int{3, 0}) {
			t.Errorf("%v %d, %v %d, %v %v %d", posts, e, queues, f, way, is, g)
		}
		for _, l := range [][]int{posts, queues, way} {
			clear(l[:cap(l)])
		}
	}
	if after := whole(p); !reflect.DeepEqual(before, after) {
		t.Errorf("the plan was\n%v\nand is\n%v", before, after)
	}
	p.Binds[3].To = 1
	if l, e := Posts(p, 1, "x.y"); e != api.OK || !slices.Equal(l, []int{1}) {
		t.Errorf("Posts is %v, %d once nothing leads round", l, e)
	}
}

// P1: whatever they are handed, the calls end, none panics, and they agree with one another.
func FuzzRoute(f *testing.F) {
	f.Add(3, 3, []byte("\x00\x01\x01\x01\x01\x00\x01\x00\x02"), "#", 0, "x.y", 0)
	f.Add(0, 0, []byte(nil), "", -1, "", -1)
	f.Add(4, 4, []byte("\x00\x01\x00\xff\x00\x00"), "x.*", math.MaxInt, "x.y", math.MinInt)
	f.Fuzz(func(t *testing.T, posts, queues int, binds []byte, pattern string, post int, key string, queue int) {
		p := fan()
		p.Posts, p.Queues = p.Posts[:uint(posts)%(api.MaxPosts+1)], p.Queues[:uint(queues)%(api.MaxQueues+1)]
		for i := range p.Posts {
			p.Posts[i].Kind = 1 + (posts>>3+i)&3
		}
		for ; len(binds) > 2 && len(p.Binds) <= api.MaxBinds; binds = binds[3:] {
			p.Binds = append(p.Binds, api.Bind{From: int(int8(binds[0])), ToPost: binds[1]&1 == 1, To: int(int8(binds[2])), Pattern: pattern})
		}
		want := check(p, post, key)
		if want != api.OK {
			wantErrors(t, "a wrong one", p, post, key, queue, want)
			return
		}
		if len(p.Binds) <= 6 {
			wantAll(t, p, post, key)
		}
		if l, is, e := Way(p, post, key, queue); (e == api.OK) != (queue >= 0 && queue < len(p.Queues)) || is != (len(l) > 0) {
			t.Errorf("Way is %v, %v, %d", l, is, e)
		}
	})
}
