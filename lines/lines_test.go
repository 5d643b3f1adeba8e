package lines

import (
	"math"
	"math/rand"
	"slices"
	"strings"
	"testing"

	"mailcoach/api"
)

// letter: a right letter, if its Seq is.
func letter(seq int) api.Item { return api.Item{Seq: seq, Key: "x.y", Body: "b"} }

// line: letters of those Seqs.
func line(seqs ...int) []api.Item {
	var l []api.Item
	for _, s := range seqs {
		l = append(l, letter(s))
	}
	return l
}

// letters: one with each thing at its edge, right or not.
func letters() []struct {
	name  string
	x     api.Item
	right bool
} {
	turned := func(turn func(x *api.Item)) api.Item {
		x := letter(5)
		turn(&x)
		return x
	}
	key := func(s string) api.Item { return turned(func(x *api.Item) { x.Key = s }) }
	body := func(s string) api.Item { return turned(func(x *api.Item) { x.Body = s }) }
	deaths := func(n int) api.Item { return turned(func(x *api.Item) { x.Deaths = n }) }
	return []struct {
		name  string
		x     api.Item
		right bool
	}{
		{"an ordinary one", letter(5), true},
		{"Seq 0", letter(0), true},
		{"the last Seq", letter(api.MaxCount - 1), true},
		{"a Seq below 0", letter(-1), false},
		{"the least Seq", letter(math.MinInt), false},
		{"a Seq of MaxCount", letter(api.MaxCount), false},
		{"the greatest Seq", letter(math.MaxInt), false},
		{"a key of one byte", key("0"), true},
		{"the longest key", key(strings.Repeat("a", api.MaxKey)), true},
		{"a key too long", key(strings.Repeat("a", api.MaxKey+1)), false},
		{"as many words as may be", key("a.b.c.d.e.f"), true},
		{"too many words", key("a.b.c.d.e.f.g"), false},
		{"no key", key(""), false},
		{"a pattern for a key", key("x.#"), false},
		{"a star for a key", key("*"), false},
		{"an empty word", key("x..y"), false},
		{"a capital", key("X"), false},
		{"no body", body(""), true},
		{"the longest body", body(strings.Repeat("b", api.MaxBody)), true},
		{"a body of any bytes", body("\x00\xff\n.#*"), true},
		{"a body too long", body(strings.Repeat("b", api.MaxBody+1)), false},
		{"a body too long by its bytes", body(strings.Repeat("ä", api.MaxBody/2+1)), false},
		{"one death", deaths(1), true},
		{"as many deaths as may be", deaths(api.MaxDeaths), true},
		{"too many deaths", deaths(api.MaxDeaths + 1), false},
		{"deaths below 0", deaths(-1), false},
		{"the least deaths", deaths(math.MinInt), false},
		{"out before", turned(func(x *api.Item) { x.Again = true }), true},
		{"nothing at all", api.Item{}, false},
	}
}

// errno: ErrForm, unless it is right.
func errno(right bool) api.Errno {
	if right {
		return api.OK
	}
	return api.ErrForm
}

// wantForm: all calls must tell ErrForm of that line, ahead of all else, and nothing beside it.
func wantForm(t *testing.T, name string, l []api.Item) {
	t.Helper()
	if e := Check(l); e != api.ErrForm {
		t.Errorf("%s: Check is %d, and must be ErrForm", name, e)
	}
	there := letter(l[0].Seq)
	for _, x := range []api.Item{letter(77), there, {}} {
		if got, e := Push(l, x); e != api.ErrForm || len(got) != 0 {
			t.Errorf("%s: Push is %v, %d, and must be nothing, ErrForm", name, got, e)
		}
	}
	for _, limit := range []int{-1, 0, 1, 100, math.MinInt} {
		if stays, shed, e := Shed(l, limit); e != api.ErrForm || len(stays) != 0 || len(shed) != 0 {
			t.Errorf("%s: Shed to %d is %v, %v, %d, and must be nothing, ErrForm", name, limit, stays, shed, e)
		}
	}
}

// D1, D2: each thing of a letter at its edges, for a letter alone, and at each place of a line.
func TestLetters(t *testing.T) {
	for _, c := range letters() {
		if e := Check([]api.Item{c.x}); e != errno(c.right) {
			t.Errorf("%s: Check is %d, and must be %d", c.name, e, errno(c.right))
		}
		got, e := Push(nil, c.x)
		if e != errno(c.right) || c.right != (len(got) == 1 && got[0] == c.x) || !c.right && len(got) != 0 {
			t.Errorf("%s: Push is %v, %d, and must tell %d", c.name, got, e, errno(c.right))
		}
		if c.right {
			continue
		}
		wantForm(t, c.name, []api.Item{c.x})
		if c.x.Seq == 5 {
			wantForm(t, c.name+" in front", []api.Item{c.x, letter(8), letter(9)})
			wantForm(t, c.name+" in the midst", []api.Item{letter(1), c.x, letter(9)})
			wantForm(t, c.name+" behind", []api.Item{letter(1), letter(2), c.x})
		}
	}
}

// D1: Seqs rise, none twice.
func TestCheck(t *testing.T) {
	for _, l := range [][]api.Item{nil, {}, line(0), line(0, 1), line(1, 4), line(0, api.MaxCount-1), line(3, 4, 5, 9, 100)} {
		if e := Check(l); e != api.OK {
			t.Errorf("Check(%v) is %d, and must be OK", l, e)
		}
	}
	for name, l := range map[string][]api.Item{
		"one twice":                line(1, 1),
		"0 twice":                  line(0, 0),
		"falling":                  line(2, 1),
		"falling at the end":       line(1, 2, 4, 3),
		"falling at the beginning": line(2, 1, 3, 4),
		"twice in the midst":       line(1, 2, 2, 3),
		"twice, one between":       line(1, 2, 1),
		"behind the last one":      line(api.MaxCount-1, api.MaxCount),
		"ahead of the first one":   line(-1, 0),
	} {
		wantForm(t, name, l)
	}
	// That what is beside the Seq differs does not help.
	other := letter(1)
	other.Body, other.Again = "other", true
	wantForm(t, "two letters of one Seq", []api.Item{letter(1), other})
}

// D1: a line may be as long as there are Seqs, no longer.
func TestLongLine(t *testing.T) {
	l := make([]api.Item, api.MaxCount)
	for i := range l {
		l[i] = api.Item{Seq: i, Key: "a"}
	}
	if e := Check(l); e != api.OK {
		t.Errorf("Check is %d", e)
	}
	if e := Check(append(l, letter(api.MaxCount-1))); e != api.ErrForm {
		t.Errorf("Check of one letter more is %d", e)
	}
	if got, e := Push(l[1:], l[0]); e != api.OK || !slices.Equal(got, l) {
		t.Errorf("Push tells %d letters, %d", len(got), e)
	}
}

// D2: a letter stands where its Seq says.
func TestPush(t *testing.T) {
	for _, c := range []struct {
		l    []api.Item
		seq  int
		want []api.Item
	}{
		{nil, 0, line(0)},
		{[]api.Item{}, 7, line(7)},
		{line(1), 0, line(0, 1)},
		{line(1), 2, line(1, 2)},
		{line(1, 4), 2, line(1, 2, 4)},
		{line(1, 4), 3, line(1, 3, 4)},
		{line(1, 4), 0, line(0, 1, 4)},
		{line(1, 4), 5, line(1, 4, 5)},
		{line(1, 4), api.MaxCount - 1, line(1, 4, api.MaxCount-1)},
		{line(1, 2, 3, 5, 6), 4, line(1, 2, 3, 4, 5, 6)},
		{line(0, 10, 20, 30), 11, line(0, 10, 11, 20, 30)},
	} {
		if got, e := Push(c.l, letter(c.seq)); e != api.OK || !slices.Equal(got, c.want) {
			t.Errorf("Push(%v, %d) is %v, %d, and must be %v, OK", c.l, c.seq, got, e, c.want)
		}
	}
}

// D2: the letter keeps all that it has, and the others too.
func TestPushKeepsAll(t *testing.T) {
	a := api.Item{Seq: 1, Key: "a", Body: "first", Again: true, Deaths: 2}
	b := api.Item{Seq: 2, Key: "b.c", Body: "\x00", Again: true, Deaths: 1}
	c := api.Item{Seq: 3, Key: "d", Body: ""}
	if got, e := Push([]api.Item{a, c}, b); e != api.OK || !slices.Equal(got, []api.Item{a, b, c}) {
		t.Errorf("Push is %v, %d", got, e)
	}
}

// D2, P1: ErrThere of each that is there; a letter that is not right is told ahead of it.
func TestPushErrors(t *testing.T) {
	l := line(0, 3, 4, 9)
	for _, x := range l {
		if got, e := Push(l, x); e != api.ErrThere || len(got) != 0 {
			t.Errorf("Push of %d is %v, %d, and must be nothing, ErrThere", x.Seq, got, e)
		}
		other := api.Item{Seq: x.Seq, Key: "other", Deaths: 1}
		if got, e := Push(l, other); e != api.ErrThere || len(got) != 0 {
			t.Errorf("Push of another %d is %v, %d, and must be nothing, ErrThere", x.Seq, got, e)
		}
		x.Key = ""
		if got, e := Push(l, x); e != api.ErrForm || len(got) != 0 {
			t.Errorf("Push of a wrong %d is %v, %d, and must be nothing, ErrForm", x.Seq, got, e)
		}
	}
	for _, c := range letters() {
		if got, e := Push(line(1, 8), c.x); e != errno(c.right) || !c.right && len(got) != 0 {
			t.Errorf("%s: Push is %v, %d, and must tell %d", c.name, got, e, errno(c.right))
		}
	}
}

// D2: as many as are more than limit are shed, from the front.
func TestShed(t *testing.T) {
	for _, c := range []struct {
		l           []api.Item
		limit       int
		stays, shed []api.Item
	}{
		{nil, 0, nil, nil},
		{nil, 3, nil, nil},
		{[]api.Item{}, 0, nil, nil},
		{line(1), 0, nil, line(1)},
		{line(1), 1, line(1), nil},
		{line(1, 2, 4), 0, nil, line(1, 2, 4)},
		{line(1, 2, 4), 1, line(4), line(1, 2)},
		{line(1, 2, 4), 2, line(2, 4), line(1)},
		{line(1, 2, 4), 3, line(1, 2, 4), nil},
		{line(1, 2, 4), 4, line(1, 2, 4), nil},
		{line(1, 2, 4), math.MaxInt, line(1, 2, 4), nil},
	} {
		stays, shed, e := Shed(c.l, c.limit)
		if e != api.OK || !slices.Equal(stays, c.stays) || !slices.Equal(shed, c.shed) {
			t.Errorf("Shed(%v, %d) is %v, %v, %d, and must be %v, %v, OK", c.l, c.limit, stays, shed, e, c.stays, c.shed)
		}
	}
}

// D2: a limit below 0 is told of a right line, an empty one too.
func TestShedBelow(t *testing.T) {
	for _, l := range [][]api.Item{nil, {}, line(1), line(1, 2, 3)} {
		for _, limit := range []int{-1, -2, math.MinInt} {
			if stays, shed, e := Shed(l, limit); e != api.ErrRange || len(stays) != 0 || len(shed) != 0 {
				t.Errorf("Shed(%v, %d) is %v, %v, %d, and must be nothing, ErrRange", l, limit, stays, shed, e)
			}
		}
	}
}

// D2: however letters are pushed and shed, what is shed, and then what stays, is all there was, and it is right.
func TestPushAndShed(t *testing.T) {
	r := rand.New(rand.NewSource(4))
	for range 200 {
		var l []api.Item
		for range 30 {
			x := letter(r.Intn(25))
			there := slices.Contains(l, x)
			more, e := Push(l, x)
			if there != (e == api.ErrThere) || there == (e == api.OK) {
				t.Fatalf("Push(%v, %d) is %v, %d", l, x.Seq, more, e)
			}
			if e == api.OK {
				n := slices.Index(more, x)
				if n < 0 || Check(more) != api.OK || !slices.Equal(slices.Delete(slices.Clone(more), n, n+1), l) {
					t.Fatalf("Push(%v, %d) is %v", l, x.Seq, more)
				}
				l = more
			}
			limit := r.Intn(12)
			stays, shed, e := Shed(l, limit)
			if e != api.OK || len(stays) != min(len(l), limit) || !slices.Equal(slices.Concat(shed, stays), l) {
				t.Fatalf("Shed(%v, %d) is %v, %v, %d", l, limit, stays, shed, e)
			}
			if r.Intn(5) == 0 {
				l = stays
			}
		}
	}
}

// P2, P3: a line is only read, the spare room behind it too; answers are the caller's, and share nothing.
func TestLineIsRead(t *testing.T) {
	room := line(1, 2, 4, 6, 8)
	l := room[:3]
	// Reslicing and growing of what comes out, as far as it goes, is the caller's right.
	spoil := func(l []api.Item) {
		clear(l[:cap(l)])
		_ = append(l, letter(99))
	}
	for range 3 {
		for _, seq := range []int{0, 3, 5} {
			got, e := Push(l, letter(seq))
			if e != api.OK || len(got) != 4 {
				t.Errorf("Push is %v, %d", got, e)
			}
			spoil(got)
		}
		for limit := range 5 {
			stays, shed, e := Shed(l, limit)
			if e != api.OK || len(stays) != min(limit, 3) {
				t.Errorf("Shed is %v, %v, %d", stays, shed, e)
			}
			before := slices.Clone(stays)
			spoil(shed)
			if !slices.Equal(before, stays) {
				t.Errorf("what stays was %v, and is %v, once what was shed is changed", before, stays)
			}
			spoil(stays)
		}
		Check(l)
	}
	if !slices.Equal(room, line(1, 2, 4, 6, 8)) {
		t.Errorf("the line is now %v", room)
	}
	got, _ := Push(l, letter(3))
	l[0].Body = "changed"
	if got[0].Body != "b" {
		t.Errorf("what was pushed to is kept: %v", got)
	}
}

// P1: whatever they are handed, the calls end, none panics, and they agree with one another.
func FuzzLines(f *testing.F) {
	f.Add(1, 4, 2, "x.y", "hi", 0, 1)
	f.Add(2, 1, 2, "", "", -1, -1)
	f.Add(math.MinInt, math.MaxInt, api.MaxCount, "#", "abcdefghijklm", math.MaxInt, math.MinInt)
	f.Fuzz(func(t *testing.T, first, second, seq int, key, body string, deaths, limit int) {
		l := []api.Item{letter(first), letter(second)}
		x := api.Item{Seq: seq, Key: key, Body: body, Deaths: deaths}
		right := Check(l)
		got, e := Push(l, x)
		if right != api.OK && e != right || e == api.OK && (len(got) != 3 || Check(got) != api.OK || !slices.Contains(got, x)) {
			t.Errorf("Check is %d, Push %v, %d", right, got, e)
		}
		if e != api.OK && len(got) != 0 {
			t.Errorf("Push is %v, %d", got, e)
		}
		stays, shed, e := Shed(l, limit)
		if right != api.OK && e != right || right == api.OK && (e == api.ErrRange) != (limit < 0) {
			t.Errorf("Check is %d, Shed to %d %v, %v, %d", right, limit, stays, shed, e)
		}
		if e == api.OK && (len(stays) > limit || !slices.Equal(slices.Concat(shed, stays), l)) {
			t.Errorf("Shed to %d is %v, %v", limit, stays, shed)
		}
	})
}
