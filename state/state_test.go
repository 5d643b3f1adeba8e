package state

import (
	"math"
	"math/rand"
	"reflect"
	"slices"
	"strings"
	"testing"

	"mailcoach/api"
	"mailcoach/lines"
	"mailcoach/plan"
)

// letter: a right letter, if its Seq is.
func letter(seq int) api.Item { return api.Item{Seq: seq, Key: "x.y", Body: "b"} }

// line: letters of those Seqs.
func line(seqs ...int) []api.Item {
	var l []api.Item
	for _, s := range seqs {
		l = append(l, letter(s))
	}
	return l
}

// out: a letter that is out.
func out(tag, taker, queue, seq int) api.Out {
	return api.Out{Tag: tag, Taker: taker, Queue: queue, Item: letter(seq)}
}

// office: a plan of three queues.
func office() api.Plan {
	return api.Plan{
		Posts:  []api.Post{{Name: "main", Kind: api.Topic}, {Name: "dead", Kind: api.Fanout}},
		Queues: []api.Queue{{Name: "a", Limit: 2, Dead: 1}, {Name: "b", Limit: 3, Dead: -1}, {Name: "d", Limit: 1, Dead: -1}},
		Binds:  []api.Bind{{From: 0, To: 0, Pattern: "x.#"}, {From: 0, To: 1, Pattern: "*.y"}, {From: 1, To: 2, Pattern: "#"}},
	}
}

// busy: a state of it: the first line and the second taker have as many as they may, the first taker is gone.
func busy() api.State {
	return api.State{
		Ready:   [][]api.Item{line(2, 6), line(0, 8), nil},
		Outs:    []api.Out{out(3, 1, 0, 5), out(5, 2, 1, 1), out(6, 1, 0, 3), out(7, 2, 1, 7)},
		Takers:  []api.Taker{{Queue: -1, AtOnce: 1}, {Queue: 0, AtOnce: 2}, {Queue: 1, AtOnce: 3}},
		NextSeq: 12, NextTag: 9, Came: 12, Acked: 3, Dropped: 1,
	}
}

// counted: the state with Came and NextSeq as its letters and sums ask for it.
func counted(s api.State) api.State {
	n := len(s.Outs) + s.Acked + s.Dropped
	for _, l := range s.Ready {
		n += len(l)
	}
	s.NextSeq, s.Came = n, n
	return s
}

// E1: an empty line for each queue, all else 0 or empty.
func TestBegin(t *testing.T) {
	four := office()
	four.Queues = append(four.Queues, api.Queue{Name: "e", Limit: 1, Dead: -1})
	for _, p := range []api.Plan{{}, office(), four, {Posts: office().Posts}} {
		s, e := Begin(p)
		if e != api.OK || len(s.Ready) != len(p.Queues) || Check(p, s) != api.OK {
			t.Errorf("Begin is %v, %d", s, e)
		}
		for q := range s.Ready {
			if len(s.Ready[q]) != 0 {
				t.Errorf("queue %d begins with %v", q, s.Ready[q])
			}
			s.Ready[q] = append(s.Ready[q], letter(q))
		}
		for q := range s.Ready {
			if !slices.Equal(s.Ready[q], line(q)) {
				t.Errorf("queue %d shares memory: %v", q, s.Ready[q])
			}
		}
		if len(s.Outs) != 0 || len(s.Takers) != 0 || s.NextSeq != 0 || s.NextTag != 0 || s.Came != 0 || s.Acked != 0 || s.Dropped != 0 {
			t.Errorf("Begin is %v", s)
		}
	}
	for _, c := range plans() {
		p := office()
		c.turn(&p)
		if s, e := Begin(p); e != c.want || !reflect.DeepEqual(s, api.State{}) {
			t.Errorf("%s: Begin is %v, %d, and must be nothing, %d", c.name, s, e, c.want)
		}
	}
}

// plans: what makes a plan wrong, and its error.
func plans() []struct {
	name string
	turn func(p *api.Plan)
	want api.Errno
} {
	return []struct {
		name string
		turn func(p *api.Plan)
		want api.Errno
	}{
		{"too many queues", func(p *api.Plan) { p.Queues = make([]api.Queue, api.MaxQueues+1) }, api.ErrMany},
		{"no name", func(p *api.Plan) { p.Queues[0].Name = "" }, api.ErrName},
		{"a name twice", func(p *api.Plan) { p.Queues[0].Name = "b" }, api.ErrThere},
		{"no kind", func(p *api.Plan) { p.Posts[0].Kind = 0 }, api.ErrKind},
		{"a limit of 0", func(p *api.Plan) { p.Queues[0].Limit = 0 }, api.ErrRange},
		{"no such dead", func(p *api.Plan) { p.Queues[0].Dead = 2 }, api.ErrRange},
		{"a pattern too long", func(p *api.Plan) { p.Binds[0].Pattern = "a.b.c.d.e.f.g" }, api.ErrMany},
		{"no pattern", func(p *api.Plan) { p.Binds[0].Pattern = "x..y" }, api.ErrForm},
	}
}

// E1: right states, at the edges too.
func TestCheckRight(t *testing.T) {
	none := []api.Taker{{Queue: -1, AtOnce: 1}, {Queue: -1, AtOnce: 4}, {Queue: -1, AtOnce: 2}, {Queue: -1, AtOnce: 3}}
	for _, c := range []struct {
		name string
		p    api.Plan
		s    api.State
	}{
		{"an empty plan's", api.Plan{}, api.State{}},
		{"an empty plan's, with empty lists", api.Plan{}, api.State{Ready: [][]api.Item{}, Outs: []api.Out{}, Takers: []api.Taker{}}},
		{"an empty plan's, all gone", api.Plan{}, counted(api.State{Takers: none, NextTag: 7, Acked: 5, Dropped: 2})},
		{"a busy one", office(), busy()},
		{"empty lines", office(), api.State{Ready: [][]api.Item{nil, {}, nil}}},
		{"lines of just their Limits", office(), counted(api.State{Ready: [][]api.Item{line(1, 4), line(0, 2, 5), line(3)}})},
		{"takers of just their AtOnce", office(), counted(api.State{
			Ready:   make([][]api.Item, 3),
			Outs:    []api.Out{out(0, 0, 0, 5), out(1, 0, 0, 4), out(2, 1, 0, 3), out(3, 0, 0, 2), out(4, 0, 0, 1), out(5, 3, 2, 0)},
			Takers:  []api.Taker{{Queue: 0, AtOnce: api.MaxAtOnce}, {Queue: 0, AtOnce: 1}, {Queue: 1, AtOnce: 1}, {Queue: 2, AtOnce: 1}},
			NextTag: 6,
		})},
		{"all counts at their most", office(), counted(api.State{
			Ready:   [][]api.Item{line(0, api.MaxCount-1), nil, nil},
			Outs:    []api.Out{out(api.MaxCount-1, 0, 1, api.MaxCount-2)},
			Takers:  []api.Taker{{Queue: 1, AtOnce: 1}},
			NextTag: api.MaxCount, Acked: api.MaxCount - 3,
		})},
		{"all dropped", office(), counted(api.State{Ready: make([][]api.Item, 3), Dropped: api.MaxCount})},
		{"all acked", office(), counted(api.State{Ready: make([][]api.Item, 3), Acked: api.MaxCount})},
		{"letters of all sorts", office(), counted(api.State{
			Ready: [][]api.Item{{
				{Seq: 0, Key: strings.Repeat("a", api.MaxKey), Body: strings.Repeat("\xff", api.MaxBody), Again: true, Deaths: api.MaxDeaths},
				{Seq: 1, Key: "a.b.c.d.e.f"},
			}, nil, nil},
			Outs:    []api.Out{{Tag: 0, Taker: 0, Queue: 2, Item: api.Item{Seq: 2, Key: "0", Again: true, Deaths: 1}}},
			Takers:  []api.Taker{{Queue: 2, AtOnce: 1}},
			NextTag: 1,
		})},
	} {
		if e := Check(c.p, c.s); e != api.OK {
			t.Errorf("%s: Check is %d, and must be OK", c.name, e)
		}
	}
}

// fault: a turn that makes a busy state wrong. One can be done behind another.
type fault struct {
	name string
	turn func(s *api.State)
	want api.Errno
}

// more: so many letters came, and were acked, as well.
func more(s *api.State, n int) {
	s.NextSeq, s.Came, s.Acked = s.NextSeq+n, s.Came+n, s.Acked+n
}

// formFaults: what is ErrForm.
func formFaults() []fault {
	var l []fault
	add := func(name string, turn func(s *api.State)) { l = append(l, fault{name, turn, api.ErrForm}) }
	add("a line too few", func(s *api.State) { s.Ready = s.Ready[:2] })
	add("a line too many", func(s *api.State) { s.Ready = append(s.Ready, nil) })
	add("a line that falls", func(s *api.State) { s.Ready[0][0].Seq = 7 })
	add("a letter twice in a line", func(s *api.State) { s.Ready[0][1].Seq = s.Ready[0][0].Seq })
	add("a letter of no key", func(s *api.State) { s.Ready[0][0].Key = "" })
	add("a letter with a key too long", func(s *api.State) { s.Ready[1][0].Key = "a.b.c.d.e.f.g" })
	add("a letter with a pattern", func(s *api.State) { s.Ready[1][0].Key = "#" })
	add("a letter with a body too long", func(s *api.State) { s.Ready[0][1].Body = strings.Repeat("b", api.MaxBody+1) })
	add("a letter with too many deaths", func(s *api.State) { s.Ready[0][0].Deaths = api.MaxDeaths + 1 })
	add("a letter with deaths below 0", func(s *api.State) { s.Ready[0][0].Deaths = -1 })
	add("a Seq below 0", func(s *api.State) { s.Ready[0][0].Seq = -1 })
	add("a Seq of NextSeq", func(s *api.State) { s.Ready[0][1].Seq = s.NextSeq })
	add("a Seq above NextSeq", func(s *api.State) { s.Ready[1][len(s.Ready[1])-1].Seq = s.NextSeq + 1 })
	add("NextSeq of a Seq that lies there", func(s *api.State) { s.NextSeq, s.Came, s.Acked, s.Dropped = 6, 6, 0, 0 })
	add("a taker's queue below -1", func(s *api.State) { s.Takers[0].Queue = -2 })
	add("a taker's queue behind all", func(s *api.State) { s.Takers[0].Queue = 3 })
	add("the greatest taker's queue", func(s *api.State) { s.Takers[0].Queue = math.MaxInt })
	add("AtOnce 0", func(s *api.State) { s.Takers[2].AtOnce = 0 })
	add("AtOnce 0 of one that is gone", func(s *api.State) { s.Takers[0].AtOnce = 0 })
	add("AtOnce too great", func(s *api.State) { s.Takers[2].AtOnce = api.MaxAtOnce + 1 })
	add("AtOnce too great of one that is gone", func(s *api.State) { s.Takers[0].AtOnce = api.MaxAtOnce + 1 })
	add("AtOnce below 0", func(s *api.State) { s.Takers[1].AtOnce = math.MinInt })
	add("a Tag below 0", func(s *api.State) { s.Outs[0].Tag = -1 })
	add("a Tag twice", func(s *api.State) { s.Outs[1].Tag = s.Outs[0].Tag })
	add("a Tag twice, one between", func(s *api.State) { s.Outs[2].Tag = s.Outs[0].Tag })
	add("a Tag that falls", func(s *api.State) { s.Outs[1].Tag = s.Outs[0].Tag - 1 })
	add("a Tag of NextTag", func(s *api.State) { s.Outs[len(s.Outs)-1].Tag = s.NextTag })
	add("a Tag above NextTag", func(s *api.State) { s.Outs[len(s.Outs)-1].Tag = math.MaxInt })
	add("NextTag of a Tag", func(s *api.State) { s.NextTag = s.Outs[len(s.Outs)-1].Tag })
	add("a Taker below 0", func(s *api.State) { s.Outs[0].Taker = -1 })
	add("a Taker behind all", func(s *api.State) { s.Outs[2].Taker = len(s.Takers) })
	add("the greatest Taker", func(s *api.State) { s.Outs[1].Taker = math.MaxInt })
	add("the least Taker", func(s *api.State) { s.Outs[1].Taker = math.MinInt })
	add("a Taker that is gone", func(s *api.State) { s.Takers[2].Queue = -1 })
	add("a Taker that is gone, and its queue", func(s *api.State) { s.Outs[1].Taker, s.Outs[1].Queue = 0, -1 })
	add("a Taker of another queue", func(s *api.State) { s.Outs[1].Taker = 1 })
	add("a Queue of another taker", func(s *api.State) { s.Outs[0].Queue = 1 })
	add("a Queue of none", func(s *api.State) { s.Outs[0].Queue = 3 })
	add("a wrong key out", func(s *api.State) { s.Outs[1].Item.Key = "x..y" })
	add("a wrong body out", func(s *api.State) { s.Outs[0].Item.Body = strings.Repeat("b", api.MaxBody+1) })
	add("wrong deaths out", func(s *api.State) { s.Outs[2].Item.Deaths = -1 })
	add("too many deaths out", func(s *api.State) { s.Outs[2].Item.Deaths = api.MaxDeaths + 1 })
	add("a Seq below 0 out", func(s *api.State) { s.Outs[0].Item.Seq = -1 })
	add("a Seq of NextSeq out", func(s *api.State) { s.Outs[0].Item.Seq = s.NextSeq })
	add("a Seq of MaxCount out", func(s *api.State) { s.Outs[0].Item.Seq = api.MaxCount })
	add("a Seq in two lines", func(s *api.State) { s.Ready[1][0].Seq = s.Ready[0][1].Seq })
	add("a Seq in a line and out", func(s *api.State) { s.Outs[0].Item.Seq = s.Ready[0][1].Seq })
	add("a Seq twice out", func(s *api.State) { s.Outs[0].Item.Seq = s.Outs[2].Item.Seq })
	for _, n := range []int{-1, math.MinInt, api.MaxCount + 1, math.MaxInt} {
		add("NextSeq out of its bounds", func(s *api.State) { s.NextSeq = n })
		add("NextTag out of its bounds", func(s *api.State) { s.NextTag = n })
		add("Came out of its bounds", func(s *api.State) { s.Came = n })
		add("Acked out of its bounds", func(s *api.State) { s.Acked = n })
		add("Dropped out of its bounds", func(s *api.State) { s.Dropped = n })
	}
	// With sums that would be right, but for the bounds.
	add("one more than can come", func(s *api.State) { more(s, api.MaxCount+1-s.Came) })
	add("acked below 0, and dropped instead", func(s *api.State) { s.Acked, s.Dropped = -1, s.Dropped+s.Acked+1 })
	add("dropped below 0, and acked instead", func(s *api.State) { s.Acked, s.Dropped = s.Dropped+s.Acked+1, -1 })
	add("sums that wrap round", func(s *api.State) { s.Acked, s.Dropped = math.MaxInt, s.Acked+s.Dropped+1+math.MaxInt })
	return l
}

// faults: what makes a state wrong, in the order in which the document names the errors.
func faults() []fault {
	l := []fault{
		{"a taker too many", func(s *api.State) {
			for len(s.Takers) <= api.MaxTakers {
				s.Takers = append(s.Takers, api.Taker{Queue: -1, AtOnce: 1})
			}
		}, api.ErrMany},
		{"many takers too many", func(s *api.State) { s.Takers = append(s.Takers, make([]api.Taker, 1000)...) }, api.ErrMany},
	}
	l = append(l, formFaults()...)
	return append(l,
		fault{"a line of one more than its Limit", func(s *api.State) {
			more(s, 1)
			s.Ready[0] = append(s.Ready[0], letter(s.NextSeq-1))
			s.Acked--
		}, api.ErrRange},
		fault{"the last line of one more than its Limit", func(s *api.State) {
			more(s, 2)
			last := len(s.Ready) - 1
			s.Ready[last] = append(s.Ready[last], letter(s.NextSeq-2), letter(s.NextSeq-1))
			s.Acked -= 2
		}, api.ErrRange},
		fault{"a taker with one more than its AtOnce", func(s *api.State) {
			more(s, 1)
			s.Outs = append(s.Outs, out(s.NextTag, 1, 0, s.NextSeq-1))
			s.NextTag++
			s.Acked--
		}, api.ErrRange},
		fault{"AtOnce of one less than it has", func(s *api.State) { s.Takers[1].AtOnce-- }, api.ErrRange},
		fault{"one more came", func(s *api.State) { s.Came, s.NextSeq = s.Came+1, s.NextSeq+1 }, api.ErrSum},
		fault{"one more acked", func(s *api.State) { s.Acked++ }, api.ErrSum},
		fault{"one more dropped", func(s *api.State) { s.Dropped++ }, api.ErrSum},
		fault{"one fewer acked", func(s *api.State) { s.Acked-- }, api.ErrSum},
		fault{"one fewer dropped", func(s *api.State) { s.Dropped-- }, api.ErrSum},
		fault{"a letter that is lost", func(s *api.State) { s.Ready[1] = s.Ready[1][:1] }, api.ErrSum},
		fault{"a letter lost that was out", func(s *api.State) { s.Outs = s.Outs[:len(s.Outs)-1] }, api.ErrSum},
		fault{"a letter of nowhere", func(s *api.State) { s.Ready[1] = append(s.Ready[1], letter(s.NextSeq-1)) }, api.ErrSum},
		fault{"NextSeq above Came", func(s *api.State) { s.NextSeq++ }, api.ErrSum},
		fault{"NextSeq below Came", func(s *api.State) { s.NextSeq-- }, api.ErrSum},
	)
}

// wantErrors: all calls must tell that error of that state, and nothing beside it.
func wantErrors(t *testing.T, name string, p api.Plan, s api.State, want api.Errno) {
	t.Helper()
	if e := Check(p, s); e != want {
		t.Errorf("%s: Check is %d, and must be %d", name, e, want)
	}
	for _, taker := range []int{-1, 0, 1, len(s.Takers), math.MaxInt, math.MinInt} {
		if n, e := Held(p, s, taker); e != want || n != 0 {
			t.Errorf("%s: Held of %d is %d, %d, and must be 0, %d", name, taker, n, e, want)
		}
	}
}

// E1, E2: each fault alone.
func TestCheckErrors(t *testing.T) {
	for _, f := range faults() {
		s := busy()
		f.turn(&s)
		wantErrors(t, f.name, office(), s, f.want)
	}
}

// E1, P1: of two errors the one that is named first is told, wherever they are.
func TestCheckOrder(t *testing.T) {
	l := faults()
	rank := func(e api.Errno) int {
		return slices.Index([]api.Errno{api.ErrMany, api.ErrForm, api.ErrRange, api.ErrSum}, e)
	}
	for _, later := range l {
		for _, first := range l {
			if rank(first.want) >= rank(later.want) {
				continue
			}
			s := busy()
			later.turn(&s)
			first.turn(&s)
			wantErrors(t, first.name+", and "+later.name, office(), s, first.want)
		}
		for _, c := range plans() {
			p, s := office(), busy()
			c.turn(&p)
			later.turn(&s)
			wantErrors(t, c.name+", and "+later.name, p, s, c.want)
		}
	}
}

// E1: what a state of one plan is, is not one of another.
func TestCheckOfPlan(t *testing.T) {
	if e := Check(api.Plan{}, busy()); e != api.ErrForm {
		t.Errorf("Check of the empty plan is %d", e)
	}
	if e := Check(office(), api.State{}); e != api.ErrForm {
		t.Errorf("Check of the empty state is %d", e)
	}
	p := office()
	p.Queues[0].Limit = 1
	if e := Check(p, busy()); e != api.ErrRange {
		t.Errorf("Check with a Limit that is less is %d", e)
	}
	p.Queues[0].Limit = api.MaxLimit
	if e := Check(p, busy()); e != api.OK {
		t.Errorf("Check with a Limit that is more is %d", e)
	}
}

// E2: how many Outs a taker has; one that is gone is a taker, and has none.
func TestHeld(t *testing.T) {
	for taker, want := range []int{0, 2, 2} {
		if n, e := Held(office(), busy(), taker); e != api.OK || n != want {
			t.Errorf("Held of %d is %d, %d, and must be %d, OK", taker, n, e, want)
		}
	}
	for _, taker := range []int{-1, 3, 4, math.MaxInt, math.MinInt} {
		if n, e := Held(office(), busy(), taker); e != api.ErrNone || n != 0 {
			t.Errorf("Held of %d is %d, %d, and must be 0, ErrNone", taker, n, e)
		}
	}
	if n, e := Held(api.Plan{}, api.State{}, 0); e != api.ErrNone || n != 0 {
		t.Errorf("Held of the empty plan's is %d, %d, and must be 0, ErrNone", n, e)
	}
}

// within: is n from least to most?
func within(n, least, most int) bool { return n >= least && n <= most }

// told: Check, told once more, thing by thing as the document names them.
func told(p api.Plan, s api.State) api.Errno {
	if e := plan.Check(p); e != api.OK {
		return e
	}
	if len(s.Takers) > api.MaxTakers {
		return api.ErrMany
	}
	if len(s.Ready) != len(p.Queues) {
		return api.ErrForm
	}
	form, crowd := false, false
	var all []api.Item
	for q, l := range s.Ready {
		form = form || lines.Check(l) != api.OK
		crowd = crowd || len(l) > p.Queues[q].Limit
		all = append(all, l...)
	}
	outs := map[int]int{}
	for i, o := range s.Outs {
		form = form || !within(o.Tag, 0, s.NextTag-1) || i > 0 && o.Tag <= s.Outs[i-1].Tag
		form = form || !within(o.Taker, 0, len(s.Takers)-1) || s.Takers[o.Taker].Queue < 0 || s.Takers[o.Taker].Queue != o.Queue
		form = form || lines.Check([]api.Item{o.Item}) != api.OK
		all = append(all, o.Item)
		outs[o.Taker]++
	}
	for n, t := range s.Takers {
		form = form || !within(t.Queue, -1, len(p.Queues)-1) || !within(t.AtOnce, 1, api.MaxAtOnce)
		crowd = crowd || outs[n] > t.AtOnce
	}
	for i, x := range all {
		form = form || x.Seq >= s.NextSeq || slices.ContainsFunc(all[:i], func(y api.Item) bool { return x.Seq == y.Seq })
	}
	for _, n := range []int{s.NextSeq, s.NextTag, s.Came, s.Acked, s.Dropped} {
		form = form || !within(n, 0, api.MaxCount)
	}
	switch {
	case form:
		return api.ErrForm
	case crowd:
		return api.ErrRange
	case s.Came != len(all)+s.Acked+s.Dropped || s.Came != s.NextSeq:
		return api.ErrSum
	}
	return api.OK
}

// drawn: a state that is right, or nearly so.
func drawn(r *rand.Rand) api.State {
	s := api.State{Acked: r.Intn(3), Dropped: r.Intn(3), NextTag: r.Intn(3) + 4, Ready: make([][]api.Item, 3)}
	for range r.Intn(5) {
		s.Takers = append(s.Takers, api.Taker{Queue: r.Intn(4) - 1, AtOnce: 1 + r.Intn(3)})
	}
	for n := range 3 + r.Intn(6) {
		x := letter(n)
		if taker := r.Intn(8); taker < len(s.Takers) && (s.Takers[taker].Queue >= 0 || r.Intn(20) == 0) {
			s.Outs = append(s.Outs, api.Out{Tag: len(s.Outs), Taker: taker, Queue: s.Takers[taker].Queue, Item: x})
			continue
		}
		q := r.Intn(3)
		s.Ready[q] = append(s.Ready[q], x)
	}
	s = counted(s)
	for r.Intn(4) == 0 {
		shaken(r, &s)
	}
	return s
}

// shaken: one thing of the state is another one.
func shaken(r *rand.Rand, s *api.State) {
	n := r.Intn(14) - 2
	switch q := r.Intn(3); r.Intn(8) {
	case 0:
		s.NextSeq = n
	case 1:
		s.NextTag = n
	case 2:
		s.Came, s.NextSeq = n, n
	case 3:
		if len(s.Ready[q]) > 0 {
			s.Ready[q][r.Intn(len(s.Ready[q]))].Seq = n
		}
	case 4:
		if len(s.Outs) > 0 {
			s.Outs[r.Intn(len(s.Outs))].Item.Seq = n
		}
	case 5:
		if len(s.Outs) > 0 {
			s.Outs[r.Intn(len(s.Outs))].Tag = n
		}
	case 6:
		if len(s.Outs) > 0 {
			s.Outs[r.Intn(len(s.Outs))].Taker = r.Intn(6) - 1
		}
	case 7:
		if len(s.Takers) > 0 {
			s.Takers[r.Intn(len(s.Takers))].Queue = r.Intn(6) - 2
		}
	}
}

// E1, E2: states of all sorts, right and wrong.
func TestDrawn(t *testing.T) {
	r := rand.New(rand.NewSource(5))
	seen := map[api.Errno]int{}
	for range 20000 {
		s := drawn(r)
		want := told(office(), s)
		seen[want]++
		if e := Check(office(), s); e != want {
			t.Fatalf("Check of %v is %d, and must be %d", s, e, want)
		}
		all := 0
		for taker := range s.Takers {
			n, e := Held(office(), s, taker)
			if e != want {
				t.Fatalf("Held of %v is %d, %d, and must tell %d", s, n, e, want)
			}
			all += n
		}
		if want == api.OK && all != len(s.Outs) {
			t.Fatalf("%v: all takers have %d", s, all)
		}
	}
	for _, e := range []api.Errno{api.OK, api.ErrForm, api.ErrRange, api.ErrSum} {
		if seen[e] < 100 {
			t.Errorf("only %d states of %d were drawn", seen[e], e)
		}
	}
}

// E1: lines as long as they can be are gone through, and told of.
func TestLongLines(t *testing.T) {
	l := make([]api.Item, api.MaxCount)
	for i := range l {
		l[i] = api.Item{Seq: i, Key: "a"}
	}
	s := counted(api.State{Ready: [][]api.Item{l, nil, nil}})
	if e := Check(office(), s); e != api.ErrRange {
		t.Errorf("Check of a long line is %d", e)
	}
	s.Ready[2] = l[len(l)-1:]
	if e := Check(office(), s); e != api.ErrForm {
		t.Errorf("Check of a letter that is in it too is %d", e)
	}
}

// whole: a copy of all that the state has, the spare room behind its lists too.
func whole(s api.State) api.State {
	s.Ready = slices.Clone(s.Ready[:cap(s.Ready)])
	for q, l := range s.Ready {
		s.Ready[q] = slices.Clone(l[:cap(l)])
	}
	s.Outs, s.Takers = slices.Clone(s.Outs[:cap(s.Outs)]), slices.Clone(s.Takers[:cap(s.Takers)])
	return s
}

// P2, P3: a plan and a state are only read, the spare room too, and nothing of them is kept.
func TestStateIsRead(t *testing.T) {
	p, s := office(), busy()
	s.Ready[0] = append(make([]api.Item, 0, 5), s.Ready[0]...)
	s.Ready = append(make([][]api.Item, 0, 7), s.Ready...)
	s.Outs = append(make([]api.Out, 0, 9), s.Outs...)
	s.Takers = append(make([]api.Taker, 0, 4), s.Takers...)
	before := whole(s)
	for range 3 {
		b, e := Begin(p)
		n, f := Held(p, s, 1)
		if e != api.OK || f != api.OK || n != 2 || Check(p, s) != api.OK || Check(p, b) != api.OK {
			t.Errorf("Begin is %v, %d, Held %d, %d", b, e, n, f)
		}
		b.Ready[0] = line(9)
	}
	if after := whole(s); !reflect.DeepEqual(before, after) {
		t.Errorf("the state was\n%v\nand is\n%v", before, after)
	}
	if !reflect.DeepEqual(p, office()) {
		t.Errorf("the plan is\n%v", p)
	}
	s.Outs[0].Item.Seq = 2
	if e := Check(p, s); e != api.ErrForm {
		t.Errorf("Check is %d once a Seq is there twice", e)
	}
}

// P1: whatever they are handed, the calls end, none panics, and they tell what the document names.
func FuzzState(f *testing.F) {
	f.Add([]byte{2, 6}, []byte{0}, []byte{3, 1, 0, 5}, []byte{0, 1, 1, 2}, 10, 8, 10, 3, 1, 1, "x.y")
	f.Add([]byte(nil), []byte(nil), []byte(nil), []byte(nil), 0, 0, 0, 0, 0, 0, "")
	f.Add([]byte{255}, []byte{1, 1}, []byte{0, 255, 0, 0}, []byte{9, 9}, -1, math.MaxInt, math.MinInt, 1, 1, -1, "#")
	f.Fuzz(func(t *testing.T, a, b, outs, takers []byte, seq, tag, came, acked, dropped, taker int, key string) {
		s := api.State{Ready: make([][]api.Item, 3), NextSeq: seq, NextTag: tag, Came: came, Acked: acked, Dropped: dropped}
		for q, l := range [][]byte{a, b} {
			for _, n := range l {
				s.Ready[q] = append(s.Ready[q], api.Item{Seq: int(int8(n)), Key: key})
			}
		}
		for ; len(outs) > 3; outs = outs[4:] {
			s.Outs = append(s.Outs, out(int(int8(outs[0])), int(int8(outs[1])), int(int8(outs[2])), int(int8(outs[3]))))
		}
		for ; len(takers) > 1; takers = takers[2:] {
			s.Takers = append(s.Takers, api.Taker{Queue: int(int8(takers[0])), AtOnce: int(int8(takers[1]))})
		}
		want := told(office(), s)
		if e := Check(office(), s); e != want {
			t.Errorf("Check is %d, and must be %d", e, want)
		}
		if want == api.OK && !within(taker, 0, len(s.Takers)-1) {
			want = api.ErrNone
		}
		if n, e := Held(office(), s, taker); e != want || e != api.OK && n != 0 {
			t.Errorf("Held is %d, %d, and must tell %d", n, e, want)
		}
	})
}
