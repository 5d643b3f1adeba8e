package plan

import (
	"math"
	"reflect"
	"slices"
	"strings"
	"testing"

	"mailcoach/api"
	"mailcoach/words"
)

// office: a right plan with posts of each kind, whose binds lead round.
func office() api.Plan {
	return api.Plan{
		Posts: []api.Post{
			{Name: "main", Kind: api.Topic},
			{Name: "all", Kind: api.Fanout},
			{Name: "dead", Kind: api.Direct},
		},
		Queues: []api.Queue{
			{Name: "a", Limit: 1, Dead: 2},
			{Name: "b", Limit: api.MaxLimit, Dead: -1},
		},
		Binds: []api.Bind{
			{From: 0, To: 0, Pattern: "x.#"},
			{From: 0, ToPost: true, To: 1, Pattern: "*.y"},
			{From: 1, To: 1, Pattern: "z"},
			{From: 1, ToPost: true, To: 2, Pattern: "#"},
			{From: 2, To: 1, Pattern: "x.y"},
			{From: 2, To: 0, Pattern: "#"},
			{From: 2, To: 0, Pattern: "*.y"},
		},
	}
}

// full: a right plan that has as many of everything as there may be.
func full() api.Plan {
	var p api.Plan
	for i := range api.MaxPosts {
		p.Posts = append(p.Posts, api.Post{Name: strings.Repeat("p", i+1), Kind: api.Topic})
	}
	for i := range api.MaxQueues {
		p.Queues = append(p.Queues, api.Queue{Name: strings.Repeat("q", i+1), Limit: 1, Dead: api.MaxPosts - 1})
	}
	for range api.MaxBinds {
		p.Binds = append(p.Binds, api.Bind{From: api.MaxPosts - 1, To: api.MaxQueues - 1, Pattern: "#"})
	}
	return p
}

// B1: names.
func TestName(t *testing.T) {
	for _, c := range []struct {
		s    string
		want bool
	}{
		{"a", true},
		{"z", true},
		{"main", true},
		{strings.Repeat("a", api.MaxName), true},
		{strings.Repeat("a", api.MaxName+1), false},
		{strings.Repeat("a", 1000), false},
		{"", false},
		{"a1", false},
		{"1", false},
		{"Main", false},
		{"a.b", false},
		{"a b", false},
		{"*", false},
		{"aä", false},
	} {
		if got := Name(c.s); got != c.want {
			t.Errorf("Name(%q) is %v", c.s, got)
		}
	}
	for c := range 256 {
		s := string([]byte{byte(c)})
		if want := c >= 'a' && c <= 'z'; Name(s) != want || Name("a"+s+"b") != want {
			t.Errorf("Name tells %q wrong", s)
		}
	}
}

// B1: right plans.
func TestCheckRight(t *testing.T) {
	shared := office()
	shared.Queues[0].Name = "main" // a post and a queue may have one name
	round := office()
	round.Binds[0] = api.Bind{From: 0, ToPost: true, To: 0, Pattern: "#"}
	same := office()
	same.Binds[1] = same.Binds[0]
	for name, p := range map[string]api.Plan{
		"empty":                {},
		"empty lists":          {Posts: []api.Post{}, Queues: []api.Queue{}, Binds: []api.Bind{}},
		"queues alone":         {Queues: []api.Queue{{Name: "a", Limit: 1, Dead: -1}}},
		"office":               office(),
		"full":                 full(),
		"a post's and queue's": shared,
		"to itself":            round,
		"one bind twice":       same,
	} {
		if e := Check(p); e != api.OK {
			t.Errorf("%s: Check is %d", name, e)
		}
	}
}

// A fault is something that makes the right plan office a wrong one.
type fault struct {
	name string
	want api.Errno
	turn func(p *api.Plan)
}

// faults: in the order in which the document names their errors.
func faults() []fault {
	return []fault{
		{"posts", api.ErrMany, func(p *api.Plan) {
			p.Posts = append(p.Posts, api.Post{Name: "e", Kind: 1}, api.Post{Name: "f", Kind: 1})
		}},
		{"queues", api.ErrMany, func(p *api.Plan) {
			for _, s := range []string{"e", "f", "g"} {
				p.Queues = append(p.Queues, api.Queue{Name: s, Limit: 1, Dead: -1})
			}
		}},
		{"binds", api.ErrMany, func(p *api.Plan) {
			for len(p.Binds) <= api.MaxBinds {
				p.Binds = append(p.Binds, p.Binds[0])
			}
		}},
		{"post's name empty", api.ErrName, func(p *api.Plan) { p.Posts[2].Name = "" }},
		{"post's name long", api.ErrName, func(p *api.Plan) { p.Posts[0].Name = "abcdefghi" }},
		{"queue's name", api.ErrName, func(p *api.Plan) { p.Queues[1].Name = "b1" }},
		{"posts of one name", api.ErrThere, func(p *api.Plan) { p.Posts[1].Name = p.Posts[0].Name }},
		{"queues of one name", api.ErrThere, func(p *api.Plan) { p.Queues[0].Name = p.Queues[1].Name }},
		{"kind 0", api.ErrKind, func(p *api.Plan) { p.Posts[0].Kind = 0 }},
		{"kind 4", api.ErrKind, func(p *api.Plan) { p.Posts[2].Kind = 4 }},
		{"kind below 0", api.ErrKind, func(p *api.Plan) { p.Posts[1].Kind = -1 }},
		{"limit 0", api.ErrRange, func(p *api.Plan) { p.Queues[0].Limit = 0 }},
		{"limit below 0", api.ErrRange, func(p *api.Plan) { p.Queues[0].Limit = math.MinInt }},
		{"limit above", api.ErrRange, func(p *api.Plan) { p.Queues[1].Limit = api.MaxLimit + 1 }},
		{"dead -2", api.ErrRange, func(p *api.Plan) { p.Queues[0].Dead = -2 }},
		{"dead above", api.ErrRange, func(p *api.Plan) { p.Queues[1].Dead = len(p.Posts) }},
		{"from -1", api.ErrRange, func(p *api.Plan) { p.Binds[0].From = -1 }},
		{"from above", api.ErrRange, func(p *api.Plan) { p.Binds[4].From = len(p.Posts) }},
		{"from far above", api.ErrRange, func(p *api.Plan) { p.Binds[0].From = math.MaxInt }},
		{"to no queue", api.ErrRange, func(p *api.Plan) { p.Binds[0].To = len(p.Queues) }},
		{"to queue -1", api.ErrRange, func(p *api.Plan) { p.Binds[0].To = -1 }},
		{"to no post", api.ErrRange, func(p *api.Plan) { p.Binds[1].To = len(p.Posts) }},
		{"to post -1", api.ErrRange, func(p *api.Plan) { p.Binds[1].To = -1 }},
		{"a queue's number for a post's", api.ErrRange, func(p *api.Plan) { p.Posts, p.Binds = p.Posts[:1], []api.Bind{{ToPost: true, To: 1, Pattern: "a"}} }},
		{"pattern empty", api.ErrForm, func(p *api.Plan) { p.Binds[0].Pattern = "" }},
		{"pattern of a fanout post", api.ErrForm, func(p *api.Plan) { p.Binds[2].Pattern = "##" }},
		{"pattern of a direct post", api.ErrForm, func(p *api.Plan) { p.Binds[6].Pattern = "X" }},
		{"pattern of many words", api.ErrMany, func(p *api.Plan) { p.Binds[6].Pattern = "a.b.c.d.e.f.g" }},
	}
}

// B1, B2, P1: each error by itself; Fits tells it ahead of its own.
func TestCheckErrors(t *testing.T) {
	for _, f := range faults() {
		p := office()
		f.turn(&p)
		if e := Check(p); e != f.want {
			t.Errorf("%s: Check is %d, and must be %d", f.name, e, f.want)
		}
		for _, n := range []int{0, -1} {
			for _, key := range []string{"x.y", ""} {
				if is, e := Fits(p, n, key); is || e != f.want {
					t.Errorf("%s: Fits(%d, %q) is %v, %d, and must be false, %d", f.name, n, key, is, e, f.want)
				}
			}
		}
	}
}

// B1: of two errors the one that the document names first, wherever the things stand.
func TestCheckOrder(t *testing.T) {
	post := func(n int, name string, kind int) func(p *api.Plan) {
		return func(p *api.Plan) { p.Posts[n] = api.Post{Name: name, Kind: kind} }
	}
	many := func(p *api.Plan) { p.Binds = make([]api.Bind, api.MaxBinds+1) }
	queueName := func(p *api.Plan) { p.Queues[1].Name = "" }
	queuesOne := func(p *api.Plan) { p.Queues[1].Name = p.Queues[0].Name }
	limit := func(p *api.Plan) { p.Queues[0].Limit = 0 }
	to := func(p *api.Plan) { p.Binds[6].To = 9 }
	form := func(p *api.Plan) { p.Binds[0].Pattern = "" }
	long := func(p *api.Plan) { p.Binds[0].Pattern = "a.b.c.d.e.f.g" }
	for _, c := range []struct {
		name  string
		want  api.Errno
		turns []func(p *api.Plan)
	}{
		{"many, a name", api.ErrMany, []func(p *api.Plan){post(0, "", 1), many}},
		{"a queue's name, posts of one name", api.ErrName, []func(p *api.Plan){post(1, "main", 1), queueName}},
		{"a queue's name, a kind", api.ErrName, []func(p *api.Plan){post(0, "main", 0), queueName}},
		{"no names that are the same", api.ErrName, []func(p *api.Plan){post(0, "", 1), post(1, "", 1)}},
		{"queues of one name, a kind", api.ErrThere, []func(p *api.Plan){post(0, "main", 0), queuesOne}},
		{"queues of one name, a limit", api.ErrThere, []func(p *api.Plan){limit, queuesOne}},
		{"a kind, a limit", api.ErrKind, []func(p *api.Plan){limit, post(2, "dead", 4)}},
		{"a kind, a pattern", api.ErrKind, []func(p *api.Plan){form, post(2, "dead", 4)}},
		{"a bind's to, a pattern", api.ErrRange, []func(p *api.Plan){form, to}},
		{"a bind's to, a long pattern", api.ErrRange, []func(p *api.Plan){long, to}},
		{"a name, a long pattern", api.ErrName, []func(p *api.Plan){long, queueName}},
	} {
		p := office()
		for _, turn := range c.turns {
			turn(&p)
		}
		if e := Check(p); e != c.want {
			t.Errorf("%s: Check is %d, and must be %d", c.name, e, c.want)
		}
	}
}

// B1: of several patterns that are none, the first bind's error is told.
func TestCheckFirstPattern(t *testing.T) {
	for _, c := range []struct {
		first, second string
		want          api.Errno
	}{
		{"", "a.b.c.d.e.f.g", api.ErrForm},
		{"a.b.c.d.e.f.g", "", api.ErrMany},
	} {
		p := office()
		p.Binds[1].Pattern, p.Binds[4].Pattern = c.first, c.second
		if e := Check(p); e != c.want {
			t.Errorf("%q and %q: Check is %d, and must be %d", c.first, c.second, e, c.want)
		}
	}
}

// B2: what fits by binds of each kind of post.
func TestFits(t *testing.T) {
	for _, c := range []struct {
		n    int
		key  string
		want bool
	}{
		{0, "x", true}, // a topic post's
		{0, "x.y.z", true},
		{0, "y.x", false},
		{1, "x.y", true},
		{1, "y", false},
		{1, "a.x.y", false},
		{2, "z", true}, // a fanout post's: its pattern counts for nothing
		{2, "x.y", true},
		{3, "x.y", true},
		{4, "x.y", true}, // a direct post's: its pattern is held against the key byte by byte
		{4, "x", false},
		{4, "x.y.z", false},
		{5, "x", false},
		{5, "x.y", false},
		{6, "x.y", false},
	} {
		if is, e := Fits(office(), c.n, c.key); is != c.want || e != api.OK {
			t.Errorf("Fits(%d, %q) is %v, %d, and must be %v, OK", c.n, c.key, is, e, c.want)
		}
	}
}

// B2: it is the bind's post From that counts, not the one to which it leads.
func TestFitsByFrom(t *testing.T) {
	for kind, want := range map[int]bool{api.Direct: false, api.Fanout: true, api.Topic: false} {
		for _, other := range []int{api.Direct, api.Fanout, api.Topic} {
			p := api.Plan{
				Posts: []api.Post{{Name: "a", Kind: other}, {Name: "b", Kind: kind}},
				Binds: []api.Bind{{From: 1, ToPost: true, To: 0, Pattern: "x"}},
			}
			if is, e := Fits(p, 0, "y"); is != want || e != api.OK {
				t.Errorf("kinds %d, %d: Fits is %v, %d, and must be %v, OK", kind, other, is, e, want)
			}
		}
	}
}

// B2, P1: ErrNone comes ahead of the key's errors, and these come of each kind of post.
func TestFitsErrors(t *testing.T) {
	for _, n := range []int{-1, 7, 1000, math.MinInt, math.MaxInt} {
		for _, key := range []string{"x.y", "", "a.b.c.d.e.f.g"} {
			if is, e := Fits(office(), n, key); is || e != api.ErrNone {
				t.Errorf("Fits(%d, %q) is %v, %d, and must be false, ErrNone", n, key, is, e)
			}
		}
	}
	for n, b := range office().Binds {
		for _, key := range []string{"", "#", "*", "*.y", "X", "x..y", "x y", strings.Repeat("x", api.MaxKey+1), "a.b.c.d.e.f.g", "......"} {
			_, want := words.Split(key)
			if is, e := Fits(office(), n, key); is || e != want || e == api.OK {
				t.Errorf("bind %d (%q): Fits of %q is %v, %d, and must be false, %d", n, b.Pattern, key, is, e, want)
			}
		}
	}
	if is, e := Fits(api.Plan{}, 0, "x"); is || e != api.ErrNone {
		t.Errorf("Fits of an empty plan is %v, %d", is, e)
	}
}

// whole: the plan with the spare room behind its lists, in new memory.
func whole(p api.Plan) api.Plan {
	return api.Plan{
		Posts:  slices.Clone(p.Posts[:cap(p.Posts)]),
		Queues: slices.Clone(p.Queues[:cap(p.Queues)]),
		Binds:  slices.Clone(p.Binds[:cap(p.Binds)]),
	}
}

// P2, P3: a plan is only read, the spare room behind its lists too, and not kept; the same question has the same answer.
func TestPlanIsRead(t *testing.T) {
	p := office()
	p.Queues = append(make([]api.Queue, 0, 9), p.Queues...)
	p.Posts = append(make([]api.Post, 0, 9), p.Posts...)
	p.Binds = append(make([]api.Bind, 0, 19), p.Binds...)
	before := whole(p)
	for range 3 {
		if e := Check(p); e != api.OK {
			t.Errorf("Check is %d", e)
		}
		if is, e := Fits(p, 0, "x.b"); !is || e != api.OK {
			t.Errorf("Fits is %v, %d", is, e)
		}
	}
	if after := whole(p); !reflect.DeepEqual(before, after) {
		t.Errorf("the plan was\n%v\nand is\n%v", before, after)
	}
	p.Posts[0].Kind = 9
	if e := Check(p); e != api.ErrKind {
		t.Errorf("Check is %d once a kind is none", e)
	}
}

// P1: whatever they are handed, the calls end, and none panics.
func FuzzPlan(f *testing.F) {
	f.Add("main", 3, 2, -1, 0, false, 0, "x.#", 0, "x.y")
	f.Add("", 0, 0, 9, -1, true, 7, "", -1, "")
	f.Add("a", 1, 6, 0, math.MaxInt, true, math.MinInt, "\xff", math.MaxInt, "a")
	f.Fuzz(func(t *testing.T, name string, kind, limit, dead, from int, toPost bool, to int, pattern string, n int, key string) {
		p := api.Plan{
			Posts:  []api.Post{{Name: name, Kind: kind}},
			Queues: []api.Queue{{Name: name, Limit: limit, Dead: dead}},
			Binds:  []api.Bind{{From: from, ToPost: toPost, To: to, Pattern: pattern}},
		}
		right := Check(p)
		is, e := Fits(p, n, key)
		if is && e != api.OK || right != api.OK && e != right {
			t.Errorf("Check is %d, Fits %v, %d", right, is, e)
		}
	})
}
