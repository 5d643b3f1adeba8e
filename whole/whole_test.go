// Package whole tests what the whole promises: a test for each sentence of that section of the document.
package whole

import (
	"fmt"
	"maps"
	"math/rand"
	"slices"
	"strings"
	"testing"

	"mailcoach/api"
	"mailcoach/arrive"
	"mailcoach/book"
	"mailcoach/hand"
	"mailcoach/lines"
	"mailcoach/log"
	"mailcoach/plan"
	"mailcoach/reply"
	"mailcoach/route"
	"mailcoach/state"
	"mailcoach/takers"
	"mailcoach/words"
)

// drawn: a right plan.
func drawn(r *rand.Rand) api.Plan {
	p := api.Plan{}
	for n := range 1 + r.Intn(api.MaxPosts) {
		p.Posts = append(p.Posts, api.Post{Name: strings.Repeat("p", n+1), Kind: []int{api.Direct, api.Fanout, api.Topic}[r.Intn(3)]})
	}
	for q := range 1 + r.Intn(api.MaxQueues) {
		p.Queues = append(p.Queues, api.Queue{Name: strings.Repeat("q", q+1), Limit: 1 + r.Intn(api.MaxLimit), Dead: r.Intn(len(p.Posts)+1) - 1})
	}
	for range r.Intn(api.MaxBinds + 1) {
		b := api.Bind{From: r.Intn(len(p.Posts)), To: r.Intn(len(p.Queues)), Pattern: []string{"x", "#", "*", "x.#", "x.y", "*.y"}[r.Intn(6)]}
		if r.Intn(3) == 0 {
			b.ToPost, b.To = true, r.Intn(len(p.Posts))
		}
		p.Binds = append(p.Binds, b)
	}
	return p
}

// begun: the beginning of that plan, or, now and then, a state of it in which nearly as many came as may be.
func begun(t *testing.T, r *rand.Rand, p api.Plan) api.State {
	t.Helper()
	s, e := state.Begin(p)
	if e != api.OK {
		t.Fatalf("Begin of %v is %d", p, e)
	}
	if r.Intn(6) == 0 {
		near := api.MaxCount/2 - r.Intn(30)
		s.NextSeq, s.Came, s.Acked, s.NextTag = near, near, near, api.MaxCount-r.Intn(30)
	}
	return s
}

// drawnAct: an act that is drawn, which mostly can be done to that state.
func drawnAct(r *rand.Rand, s api.State) api.Act {
	x := api.Act{Kind: []int{1, 1, 1, 2, 2, 3, 4, 4, 4, 5, 6, 6}[r.Intn(12)], A: r.Intn(5), B: r.Intn(5)}
	switch x.Kind {
	case api.ActPublish:
		x.Key, x.Body = []string{"x", "x.y", "z", "z.y"}[r.Intn(4)], fmt.Sprint(s.NextSeq)
	case api.ActAck, api.ActReject:
		if len(s.Outs) > 0 && r.Intn(6) > 0 {
			x.A = s.Outs[r.Intn(len(s.Outs))].Tag
		}
	}
	return x
}

// same: are the states the same, whether a list of theirs is nil or empty?
func same(a, b api.State) bool {
	return slices.EqualFunc(a.Ready, b.Ready, slices.Equal[[]api.Item]) && slices.Equal(a.Outs, b.Outs) && slices.Equal(a.Takers, b.Takers) &&
		a.NextSeq == b.NextSeq && a.NextTag == b.NextTag && a.Came == b.Came && a.Acked == b.Acked && a.Dropped == b.Dropped
}

// # matches every key; a key itself, and no other key.
func TestWords(t *testing.T) {
	keys := []string{"0", "z9", "a.a", "a.b", "b.a", "a.b.c", "a.b.c.d.e.f", "aa", "aaa", strings.Repeat("k", api.MaxKey), strings.Repeat("k", api.MaxKey-1), "ab.c", "a.bc"}
	for _, a := range keys {
		if ok, e := words.Match("#", a); !ok || e != api.OK {
			t.Errorf("# matches %s: %v, %d", a, ok, e)
		}
		for _, b := range keys {
			if ok, e := words.Match(a, b); ok != (a == b) || e != api.OK {
				t.Errorf("%s matches %s: %v, %d", a, b, ok, e)
			}
		}
	}
}

// leads: do these binds lead from that post to that queue, one behind the other, for that key?
func leads(p api.Plan, post int, key string, queue int, way []int) bool {
	for i, n := range way {
		if ok, e := plan.Fits(p, n, key); !ok || e != api.OK || p.Binds[n].From != post || p.Binds[n].ToPost != (i < len(way)-1) {
			return false
		}
		post = p.Binds[n].To
	}
	return len(way) > 0 && post == queue
}

// There is a way just to the queues to which a letter comes; it comes to each once.
func TestWays(t *testing.T) {
	r := rand.New(rand.NewSource(1))
	come, not := 0, 0
	for range 2000 {
		p := drawn(r)
		post, key := r.Intn(len(p.Posts)), []string{"x", "x.y", "z.y", "z"}[r.Intn(4)]
		begin, _ := state.Begin(p)
		s, n, e := hand.Publish(p, begin, post, key, "b")
		queues, f := route.Queues(p, post, key)
		lying, g := book.Lying(p, s)
		if e != api.OK || f != api.OK || g != api.OK || n != len(queues) {
			t.Fatalf("Publish is %d, %d, Queues %v, %d, Lying %v, %d", n, e, queues, f, lying, g)
		}
		for q := range p.Queues {
			way, ok, e := route.Way(p, post, key, q)
			if e != api.OK || ok != (lying[q] == 1) || lying[q] > 1 || ok != slices.Contains(queues, q) || ok && !leads(p, post, key, q, way) {
				t.Fatalf("of %v: from %d %s comes to %v, there lie %v, and to %d there is a way %v, %v", p, post, key, queues, lying, q, way, ok)
			}
			come, not = come+lying[q], not+1-lying[q]
		}
	}
	if come < 100 || not < 100 {
		t.Errorf("only %d come, and %d do not", come, not)
	}
}

// What is shed, and then what stays, is all there was.
func TestShed(t *testing.T) {
	for n := range 9 {
		var l []api.Item
		for i := range n {
			l = append(l, api.Item{Seq: 3 * i, Key: "x", Body: fmt.Sprint(i), Again: i%2 == 0, Deaths: i % 3})
		}
		for limit := range 11 {
			stays, shed, e := lines.Shed(l, limit)
			if e != api.OK || len(stays) != min(n, limit) || !slices.Equal(slices.Concat(shed, stays), l) {
				t.Errorf("of %v Shed to %d is %v, %v, %d", l, limit, stays, shed, e)
			}
		}
	}
}

// Whatever act is done to a right state, what comes is right.
func TestRight(t *testing.T) {
	r := rand.New(rand.NewSource(2))
	seen := map[string]int{}
	for range 400 {
		p := drawn(r)
		s := begun(t, r, p)
		for range 60 {
			var after api.State
			var e api.Errno
			what := ""
			switch r.Intn(12) {
			case 0:
				after, _, e = book.Drain(p, s, r.Intn(len(p.Queues)))
				what = "drain"
			case 1:
				after, _, e = arrive.Letters(p, s, []api.Arrival{{Queue: r.Intn(len(p.Queues)), Key: "x.y", Deaths: r.Intn(api.MaxDeaths + 1)}})
				what = "arrive"
			default:
				x := drawnAct(r, s)
				after, e = log.Do(p, s, x)
				what = fmt.Sprint("act ", x.Kind)
			}
			seen[fmt.Sprint(what, " ", e == api.OK)]++
			if e != api.OK {
				continue
			}
			if f := state.Check(p, after); f != api.OK {
				t.Fatalf("of %v, %v %s is %v, which is told as %d", p, s, what, after, f)
			}
			s = after
		}
	}
	for _, what := range []string{"drain", "arrive", "act 1", "act 2", "act 3", "act 4", "act 5", "act 6"} {
		if seen[what+" true"] < 10 || seen[what+" false"] < 10 {
			t.Errorf("only few of %s: %v", what, seen)
		}
	}
}

// here: the letters that lie there, or are out, by their Seqs.
func here(s api.State) map[int]string {
	m := map[int]string{}
	for _, l := range s.Ready {
		for _, x := range l {
			m[x.Seq] = x.Key + " " + x.Body
		}
	}
	for _, o := range s.Outs {
		m[o.Item.Seq] = o.Item.Key + " " + o.Item.Body
	}
	return m
}

// No letter is lost: each lies there, is out, was acked or dropped.
func TestNoneLost(t *testing.T) {
	r := rand.New(rand.NewSource(3))
	for range 300 {
		p := drawn(r)
		s, _ := state.Begin(p)
		acked, dropped := map[int]int{}, map[int]int{}
		for range 80 {
			x := drawnAct(r, s)
			after, e := log.Do(p, s, x)
			drain := r.Intn(20) == 0
			if drain {
				after, _, e = book.Drain(p, s, r.Intn(len(p.Queues)))
			}
			if e != api.OK {
				continue
			}
			before, now := here(s), here(after)
			for seq := range after.NextSeq {
				was, lay := before[seq]
				is, lies := now[seq]
				_, over := acked[seq]
				_, fell := dropped[seq]
				switch {
				case (over || fell) && lies, lay && lies && was != is:
					t.Fatalf("%d was %q, acked %v, dropped %v, and is %q", seq, was, over, fell, is)
				case over || fell || lies:
				case drain || x.Kind == api.ActAck:
					acked[seq]++
				default:
					dropped[seq]++
				}
			}
			s = after
			if len(acked) != s.Acked || len(dropped) != s.Dropped || len(now)+len(acked)+len(dropped) != s.NextSeq || s.Came != s.NextSeq {
				t.Fatalf("by %v %d were acked, %d dropped, %d are here; and it is %v", x, len(acked), len(dropped), len(now), s)
			}
		}
	}
}

// lineOf: that line, with these letters Again.
func lineOf(l []api.Item, again map[int]int) []api.Item {
	l = slices.Clone(l)
	for n, x := range l {
		if _, was := again[x.Seq]; was {
			l[n].Again = true
		}
	}
	return l
}

// What was delivered, and goes back, lies where it lay: letter by letter, in whatever order, or all that a taker has.
func TestBack(t *testing.T) {
	r := rand.New(rand.NewSource(4))
	back := 0
	for range 400 {
		p := drawn(r)
		s, _ := state.Begin(p)
		for range r.Intn(40) {
			if after, e := log.Do(p, s, drawnAct(r, s)); e == api.OK {
				s = after
			}
		}
		queue, leave := r.Intn(len(p.Queues)), r.Intn(2) == 0
		joined, taker, e := takers.Join(p, s, queue, 1+r.Intn(api.MaxAtOnce))
		if e != api.OK {
			continue
		}
		now, again, tags := joined, map[int]int{}, []int{}
		for range 1 + r.Intn(4) {
			after, tag, e := takers.Deliver(p, now, queue)
			if e != api.OK {
				break
			}
			o := after.Outs[len(after.Outs)-1]
			now, again[o.Item.Seq] = after, tag
			tags = append(tags, tag)
		}
		r.Shuffle(len(tags), func(i, j int) { tags[i], tags[j] = tags[j], tags[i] })
		for _, tag := range tags {
			if now, e = reply.Reject(p, now, tag, true); e != api.OK {
				t.Fatalf("Reject of %d is %d", tag, e)
			}
			back++
		}
		if leave {
			if now, e = reply.Leave(p, now, taker); e != api.OK {
				t.Fatalf("Leave of %d is %d", taker, e)
			}
		}
		want := joined
		want.Ready, want.Takers, want.NextTag = slices.Clone(joined.Ready), now.Takers, joined.NextTag+len(tags)
		want.Ready[queue] = lineOf(joined.Ready[queue], again)
		if !same(now, want) {
			t.Fatalf("of %v: %v were delivered, went back, and it is\n%v, and must be\n%v", p, slices.Sorted(maps.Keys(again)), now, want)
		}
	}
	if back < 100 {
		t.Errorf("only %d went back", back)
	}
}

// What was delivered, and is still out when its taker leaves, lies where it lay too.
func TestLeave(t *testing.T) {
	p := api.Plan{Posts: []api.Post{{Name: "p", Kind: api.Fanout}}, Queues: []api.Queue{{Name: "q", Limit: 5, Dead: 0}}, Binds: []api.Bind{{Pattern: "#"}}}
	for most := 1; most <= api.MaxAtOnce; most++ {
		s, _ := state.Begin(p)
		for n := range 5 {
			s, _, _ = hand.Publish(p, s, 0, "x", fmt.Sprint(n))
		}
		lay := s.Ready[0]
		s, taker, _ := takers.Join(p, s, 0, most)
		again := map[int]int{}
		for n := range most {
			s, _, _ = takers.Deliver(p, s, 0)
			again[n] = n
		}
		s, e := reply.Leave(p, s, taker)
		if e != api.OK || !slices.Equal(s.Ready[0], lineOf(lay, again)) || len(s.Outs) != 0 || s.Dropped != 0 {
			t.Errorf("Leave with %d is %v, %d", most, s, e)
		}
	}
}

// A queue is emptied in the order in which its letters came, though some were out, and went back.
func TestDrained(t *testing.T) {
	r := rand.New(rand.NewSource(5))
	full := 0
	for range 400 {
		p := drawn(r)
		s, _ := state.Begin(p)
		for range r.Intn(60) {
			if after, e := log.Do(p, s, drawnAct(r, s)); e == api.OK {
				s = after
			}
		}
		for taker := range s.Takers {
			if after, e := reply.Leave(p, s, taker); e == api.OK {
				s = after
			}
		}
		for queue := range p.Queues {
			came := map[int]string{}
			for _, x := range s.Ready[queue] {
				came[x.Seq] = x.Body
			}
			var want []string
			for _, seq := range slices.Sorted(maps.Keys(came)) {
				want = append(want, came[seq])
			}
			after, bodies, e := book.Drain(p, s, queue)
			if e != api.OK || !slices.Equal(bodies, want) || len(after.Ready[queue]) != 0 || after.Acked != s.Acked+len(want) {
				t.Fatalf("Drain of %d of %v is %v, %q, %d, and must be %q", queue, s, after, bodies, e, want)
			}
			if len(want) > 1 {
				full++
			}
		}
	}
	if full < 100 {
		t.Errorf("only %d queues had letters", full)
	}
}

// Wherever a log is cut, what is recovered is what was done by the acts that are whole.
func TestCut(t *testing.T) {
	r := rand.New(rand.NewSource(6))
	for range 60 {
		p := drawn(r)
		s, _ := state.Begin(p)
		text, ends, states := "", []int{0}, []api.State{s}
		for range r.Intn(30) {
			x := drawnAct(r, s)
			b, e := log.Write(x)
			if e != api.OK {
				t.Fatalf("Write of %v is %d", x, e)
			}
			if after, e := log.Do(p, s, x); e == api.OK {
				s = after
			}
			text += b
			ends, states = append(ends, len(text)), append(states, s)
		}
		whole := 0
		for cut := range len(text) + 1 {
			if whole+1 < len(ends) && ends[whole+1] <= cut {
				whole++
			}
			if got, n, e := log.Recover(p, text[:cut]); e != api.OK || n != whole || !same(got, states[whole]) {
				t.Fatalf("cut at %d, Recover is %v, %d, %d, and must be %v, %d", cut, got, n, e, states[whole], whole)
			}
		}
	}
}
