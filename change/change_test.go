package change

import (
	"reflect"
	"slices"
	"testing"

	"mailcoach/api"
	"mailcoach/ask"
	"mailcoach/state"
)

// letter: a letter of the key x.y.
func letter(seq, deaths int) api.Item {
	return api.Item{Seq: seq, Key: "x.y", Body: "b", Deaths: deaths}
}

// office: a plan: what falls out of the first queue comes to the last two, if its key is x.y; of the others nowhere.
func office() api.Plan {
	return api.Plan{
		Posts:  []api.Post{{Name: "dead", Kind: api.Direct}},
		Queues: []api.Queue{{Name: "a", Limit: 2, Dead: 0}, {Name: "b", Limit: 1, Dead: -1}, {Name: "c", Limit: 1, Dead: -1}},
		Binds:  []api.Bind{{From: 0, To: 2, Pattern: "x.y"}, {From: 0, To: 1, Pattern: "x.y"}},
	}
}

// busy: a state of it.
func busy() api.State {
	return api.State{
		Ready:   [][]api.Item{{letter(1, 0), letter(3, 1)}, nil, {letter(0, 0)}},
		Outs:    []api.Out{{Tag: 5, Taker: 1, Queue: 0, Item: letter(2, 2)}},
		Takers:  []api.Taker{{Queue: Gone, AtOnce: 1}, {Queue: 0, AtOnce: 2}},
		NextSeq: 5, NextTag: 6, Came: 5, Acked: 1,
	}
}

// spoiled: each list of that state has something else in it.
func spoiled(s *api.State) {
	for _, l := range s.Ready {
		clear(l)
	}
	clear(s.Ready)
	clear(s.Outs)
	clear(s.Takers)
	s.NextSeq, s.NextTag, s.Came, s.Acked, s.Dropped = -1, -1, -1, -1, -1
}

// What is handed to the function is the state in memory of its own; what it makes of it, and tells, is the answer.
func TestTold(t *testing.T) {
	s := busy()
	got, n, e := Told(office(), s, func(x *api.State) int {
		if !reflect.DeepEqual(*x, busy()) {
			t.Errorf("it is handed %v", *x)
		}
		x.Acked = 77
		x.Ready[1] = append(x.Ready[1], letter(9, 0))
		return 42
	})
	want := busy()
	want.Acked, want.Ready[1] = 77, []api.Item{letter(9, 0)}
	if e != api.OK || n != 42 || !reflect.DeepEqual(got, want) {
		t.Errorf("Told is %v, %d, %d", got, n, e)
	}
	if _, _, e := Told(office(), s, func(x *api.State) int { spoiled(x); return 0 }); e != api.OK || !reflect.DeepEqual(s, busy()) {
		t.Errorf("Told is %d, the state is %v", e, s)
	}
	made, e := Made(office(), s, func(x *api.State) { x.Dropped = 5 })
	want = busy()
	want.Dropped = 5
	if e != api.OK || !reflect.DeepEqual(made, want) || !reflect.DeepEqual(s, busy()) {
		t.Errorf("Made is %v, %d, the state is %v", made, e, s)
	}
}

// With an error, be it the state's or one with which the function was left, nothing else is told.
func TestToldErrors(t *testing.T) {
	wrong := busy()
	wrong.Acked++
	none := office()
	none.Posts[0].Kind = 0
	leave := func(x *api.State) { x.Acked = 77; ask.Never(api.ErrBusy, true) }
	never := func(x *api.State) { t.Errorf("a wrong state is changed") }
	for _, c := range []struct {
		p    api.Plan
		s    api.State
		do   func(x *api.State)
		want api.Errno
	}{
		{none, wrong, never, api.ErrKind}, {office(), wrong, never, api.ErrSum}, {office(), api.State{}, never, api.ErrForm}, {office(), busy(), leave, api.ErrBusy},
	} {
		if got, n, e := Told(c.p, c.s, func(x *api.State) int { c.do(x); return 42 }); e != c.want || n != 0 || !reflect.DeepEqual(got, api.State{}) {
			t.Errorf("Told is %v, %d, %d, and must be nothing, 0, %d", got, n, e, c.want)
		}
		if got, e := Made(c.p, c.s, c.do); e != c.want || !reflect.DeepEqual(got, api.State{}) {
			t.Errorf("Made is %v, %d, and must be nothing, %d", got, e, c.want)
		}
	}
}

// changed: Put or Drop, done to a busy state.
func changed(t *testing.T, do func(x *api.State) []api.Arrival) (api.State, []api.Arrival) {
	t.Helper()
	var l []api.Arrival
	s, e := Made(office(), busy(), func(x *api.State) { l = do(x) })
	if e != api.OK {
		t.Fatalf("it is left with %d", e)
	}
	return s, l
}

// A letter lies where its Seq says; the first one falls out of a line that is full, and arrives by its queue's Dead.
func TestPut(t *testing.T) {
	dead := func(deaths int) []api.Arrival {
		return []api.Arrival{{Queue: 1, Key: "x.y", Body: "b", Deaths: deaths}, {Queue: 2, Key: "x.y", Body: "b", Deaths: deaths}}
	}
	for _, c := range []struct {
		queue   int
		x       api.Item
		line    []api.Item
		dropped int
		want    []api.Arrival
	}{
		{1, letter(9, 0), []api.Item{letter(9, 0)}, 0, nil},
		{0, letter(9, 0), []api.Item{letter(3, 1), letter(9, 0)}, 1, dead(1)},
		{0, letter(2, 0), []api.Item{letter(2, 0), letter(3, 1)}, 1, dead(1)},
		{0, letter(0, 0), []api.Item{letter(1, 0), letter(3, 1)}, 1, dead(1)},
		{0, letter(0, 1), []api.Item{letter(1, 0), letter(3, 1)}, 1, dead(2)},
		{0, letter(0, 2), []api.Item{letter(1, 0), letter(3, 1)}, 1, nil},
		{0, api.Item{Seq: 0, Key: "x", Again: true}, []api.Item{letter(1, 0), letter(3, 1)}, 1, nil},
		{2, letter(9, 0), []api.Item{letter(9, 0)}, 1, nil},
	} {
		s, l := changed(t, func(x *api.State) []api.Arrival { return Put(office(), x, c.queue, c.x) })
		want := busy()
		want.Ready[c.queue], want.Dropped = c.line, c.dropped
		if !slices.Equal(l, c.want) || !reflect.DeepEqual(s, want) {
			t.Errorf("Put of %v to %d is\n%v, %v, and must be\n%v, %v", c.x, c.queue, s, l, want, c.want)
		}
	}
	if _, e := Made(office(), busy(), func(x *api.State) { Put(office(), x, 0, letter(3, 0)) }); e != api.ErrThere {
		t.Errorf("Put of a letter that is there is %d", e)
	}
}

// A letter that is dropped is counted, and no line is another one.
func TestDrop(t *testing.T) {
	for _, c := range []struct {
		queue int
		x     api.Item
		want  []api.Arrival
	}{
		{0, letter(2, 1), []api.Arrival{{Queue: 1, Key: "x.y", Body: "b", Deaths: 2}, {Queue: 2, Key: "x.y", Body: "b", Deaths: 2}}},
		{0, letter(2, 2), nil},
		{0, api.Item{Seq: 2, Key: "x"}, nil},
		{1, letter(2, 0), nil},
	} {
		s, l := changed(t, func(x *api.State) []api.Arrival { return Drop(office(), x, c.queue, c.x) })
		want := busy()
		want.Dropped = 1
		if !slices.Equal(l, c.want) || !reflect.DeepEqual(s, want) {
			t.Errorf("Drop of %v is\n%v, %v, and must be\n%v, %v", c.x, s, l, want, c.want)
		}
	}
}

// An arrival at each queue, in their order.
func TestArrivals(t *testing.T) {
	if l := Arrivals(nil, "x", "b", 1); len(l) != 0 {
		t.Errorf("Arrivals at no queue is %v", l)
	}
	want := []api.Arrival{{Queue: 2, Key: "x", Body: "b", Deaths: 1}, {Queue: 0, Key: "x", Body: "b", Deaths: 1}}
	if l := Arrivals([]int{2, 0}, "x", "b", 1); !slices.Equal(l, want) {
		t.Errorf("Arrivals is %v, and must be %v", l, want)
	}
}

// A copy shares no memory with what it is of, the spare room behind its lists neither.
func TestCopied(t *testing.T) {
	s := busy()
	s.Ready = append(make([][]api.Item, 0, 9), s.Ready...)
	s.Ready[1] = make([]api.Item, 0, 9)
	s.Outs = append(make([]api.Out, 0, 9), s.Outs...)
	s.Takers = append(make([]api.Taker, 0, 9), s.Takers...)
	c := copied(s)
	if e := state.Check(office(), c); e != api.OK {
		t.Fatalf("the copy is %v, %d", c, e)
	}
	c.Ready[1] = append(c.Ready[1], letter(7, 0))
	c.Ready = append(c.Ready, []api.Item{letter(8, 0)})
	c.Outs = append(c.Outs, api.Out{Tag: 7})
	c.Takers = append(c.Takers, api.Taker{AtOnce: 7})
	if s.Ready[1][:1][0].Seq != 0 || s.Ready[:4][3] != nil || s.Outs[:2][1].Tag != 0 || s.Takers[:3][2].AtOnce != 0 {
		t.Errorf("the spare room is written to: %v", s)
	}
	spoiled(&c)
	s.Ready[1] = nil
	if !reflect.DeepEqual(s, busy()) {
		t.Errorf("the state is %v", s)
	}
}
