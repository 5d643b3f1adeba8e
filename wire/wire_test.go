package wire

import (
	"fmt"
	"math/rand"
	"reflect"
	"slices"
	"strings"
	"testing"

	"mailcoach/api"
	"mailcoach/plan"
)

// office: a plan of three posts, three queues and five binds.
func office() api.Plan {
	return api.Plan{
		Posts:  []api.Post{{Name: "main", Kind: api.Topic}, {Name: "all", Kind: api.Fanout}, {Name: "dead", Kind: api.Direct}},
		Queues: []api.Queue{{Name: "a", Limit: 2, Dead: 2}, {Name: "b", Limit: 3, Dead: -1}, {Name: "d", Limit: 6, Dead: 0}},
		Binds: []api.Bind{
			{From: 0, To: 0, Pattern: "x.#"}, {From: 0, ToPost: true, To: 1, Pattern: "*.y"}, {From: 1, To: 1, Pattern: "#"},
			{From: 1, ToPost: true, To: 0, Pattern: "#"}, {From: 2, To: 2, Pattern: "x.y"},
		},
	}
}

// officeBytes: the bytes of it, part by part.
func officeBytes() string {
	return "\x03" + "\x04main\x03" + "\x03all\x02" + "\x04dead\x01" +
		"\x03" + "\x01a\x02\x03" + "\x01b\x03\x00" + "\x01d\x06\x01" +
		"\x05" + "\x00\x00\x00\x03x.#" + "\x00\x01\x01\x03*.y" + "\x01\x00\x01\x01#" + "\x01\x01\x00\x01#" + "\x02\x00\x02\x03x.y"
}

// greatest: a plan of the most posts, queues and binds, with the longest names and patterns.
func greatest() api.Plan {
	p := api.Plan{}
	for n := range api.MaxPosts {
		p.Posts = append(p.Posts, api.Post{Name: strings.Repeat(string(rune('a'+n)), api.MaxName), Kind: api.Topic})
	}
	for n := range api.MaxQueues {
		p.Queues = append(p.Queues, api.Queue{Name: strings.Repeat(string(rune('a'+n)), api.MaxName), Limit: api.MaxLimit, Dead: api.MaxPosts - 1})
	}
	for n := range api.MaxBinds {
		p.Binds = append(p.Binds, api.Bind{From: n % api.MaxPosts, ToPost: n%2 == 0, To: 3 - n%4, Pattern: strings.Repeat("k", api.MaxKey)})
	}
	return p
}

// same: are the plans the same, whether a list of theirs is nil or empty?
func same(a, b api.Plan) bool {
	return slices.Equal(a.Posts, b.Posts) && slices.Equal(a.Queues, b.Queues) && slices.Equal(a.Binds, b.Binds)
}

// wantBoth: a plan must be written so, and read from that as it was.
func wantBoth(t *testing.T, p api.Plan, want string) {
	t.Helper()
	if got, e := Write(p); e != api.OK || got != want {
		t.Errorf("Write of %v is\n%q, %d, and must be\n%q, OK", p, got, e, want)
	}
	if got, e := Read(want); e != api.OK || !same(got, p) {
		t.Errorf("Read of %q is\n%v, %d, and must be\n%v, OK", want, got, e, p)
	}
}

// L1, L2: plans as bytes, at their edges too.
func TestWriteAndRead(t *testing.T) {
	if len(officeBytes()) != 63 {
		t.Errorf("the plan has %d bytes", len(officeBytes()))
	}
	wantBoth(t, office(), officeBytes())
	wantBoth(t, api.Plan{}, "\x00\x00\x00")
	wantBoth(t, api.Plan{Posts: []api.Post{}, Queues: []api.Queue{}, Binds: []api.Bind{}}, "\x00\x00\x00")
	wantBoth(t, api.Plan{Posts: office().Posts[1:2]}, "\x01\x03all\x02\x00\x00")
	wantBoth(t, api.Plan{Queues: office().Queues[1:2]}, "\x00\x01\x01b\x03\x00\x00")
	great, e := Write(greatest())
	if e != api.OK || len(great) != 1+4*10+1+4*11+1+10*28 {
		t.Errorf("Write of the greatest plan is %q, %d", great, e)
	}
	wantBoth(t, greatest(), great)
}

// wantNone: there must be no plan of these bytes.
func wantNone(t *testing.T, name, text string, want api.Errno) {
	t.Helper()
	if p, e := Read(text); e != want || !reflect.DeepEqual(p, api.Plan{}) {
		t.Errorf("%s: Read of %q is %v, %d, and must be nothing, %d", name, text, p, e, want)
	}
}

// L1: a byte too few, wherever it is cut, and bytes behind a plan, are told.
func TestCutAndMore(t *testing.T) {
	great, _ := Write(greatest())
	for _, text := range []string{officeBytes(), great, "\x00\x00\x00"} {
		for cut := range len(text) {
			wantNone(t, "too few", text[:cut], api.ErrForm)
			wantNone(t, "the first ones are not there", text[cut+1:], api.ErrForm)
		}
		for _, more := range []string{"\x00", "\x01", "\xff", text} {
			wantNone(t, "bytes behind", text+more, api.ErrForm)
		}
	}
}

// L1: a ToPost byte that is neither 0 nor 1 is told, though the bind would be right either way.
func TestToPost(t *testing.T) {
	head := "\x01\x01p\x03\x01\x01q\x01\x00\x01\x00"
	for n := range 256 {
		text := head + string([]byte{byte(n), 0, 1, '#'})
		if n > 1 {
			wantNone(t, fmt.Sprint("ToPost of ", n), text, api.ErrForm)
			continue
		}
		if p, e := Read(text); e != api.OK || p.Binds[0].ToPost != (n == 1) {
			t.Errorf("Read of %q is %v, %d", text, p, e)
		}
	}
}

// L1: bytes of which there is a plan, but no right one.
func TestNotRight(t *testing.T) {
	for name, text := range map[string]string{
		"too many posts":     "\x05\x01a\x01\x01b\x01\x01c\x01\x01d\x01\x01e\x01\x00\x00",
		"too many queues":    "\x00\x05\x01a\x01\x00\x01b\x01\x00\x01c\x01\x00\x01d\x01\x00\x01e\x01\x00\x00",
		"too many binds":     "\x01\x01p\x03\x00\x0b" + strings.Repeat("\x00\x01\x00\x01#", 11),
		"no name":            "\x01\x00\x01\x00\x00",
		"a name too long":    "\x01\x09aaaaaaaaa\x01\x00\x00",
		"a name twice":       "\x02\x01a\x01\x01a\x01\x00\x00",
		"no kind":            "\x01\x01a\x00\x00\x00",
		"no such kind":       "\x01\x01a\x04\x00\x00",
		"a limit of 0":       "\x00\x01\x01a\x00\x00\x00",
		"a limit of 7":       "\x00\x01\x01a\x07\x00\x00",
		"no such dead":       "\x00\x01\x01a\x01\x01\x00",
		"a dead of 254":      "\x00\x01\x01a\x01\xff\x00",
		"no such from":       "\x01\x01p\x03\x01\x01q\x01\x00\x01\x01\x00\x00\x01#",
		"no such queue":      "\x01\x01p\x03\x01\x01q\x01\x00\x01\x00\x00\x01\x01#",
		"no such post":       "\x01\x01p\x03\x01\x01q\x01\x00\x01\x00\x01\x01\x01#",
		"no pattern":         "\x01\x01p\x03\x01\x01q\x01\x00\x01\x00\x00\x00\x00",
		"a pattern too long": "\x01\x01p\x03\x01\x01q\x01\x00\x01\x00\x00\x00\x19" + strings.Repeat("k", 25),
		"many posts":         "\xff" + strings.Repeat("\x01a\x01", 255) + "\x00\x00",
		"one byte":           "\x00",
		"nothing":            "",
	} {
		wantNone(t, name, text, api.ErrForm)
	}
}

// L1: just MaxBytes bytes have no plan, and one more is told as such.
func TestMaxBytes(t *testing.T) {
	for _, c := range []string{"\x00", "a", "\xff"} {
		wantNone(t, "just MaxBytes", strings.Repeat(c, api.MaxBytes), api.ErrForm)
		wantNone(t, "one more", strings.Repeat(c, api.MaxBytes+1), api.ErrMany)
		wantNone(t, "many more", strings.Repeat(c, 1<<20), api.ErrMany)
	}
	behind := officeBytes() + strings.Repeat("\x00", api.MaxBytes)
	wantNone(t, "a plan, and just MaxBytes in all", behind[:api.MaxBytes], api.ErrForm)
	wantNone(t, "a plan, and one more in all", behind[:api.MaxBytes+1], api.ErrMany)
}

// L1: a wrong plan has plan.Check's error, and no bytes.
func TestWriteErrors(t *testing.T) {
	for _, c := range []struct {
		turn func(p *api.Plan)
		want api.Errno
	}{
		{func(p *api.Plan) { p.Posts = make([]api.Post, api.MaxPosts+1) }, api.ErrMany},
		{func(p *api.Plan) { p.Binds = make([]api.Bind, 256) }, api.ErrMany},
		{func(p *api.Plan) { p.Queues[1].Name = "B" }, api.ErrName},
		{func(p *api.Plan) { p.Queues[1].Name = strings.Repeat("b", 256) }, api.ErrName},
		{func(p *api.Plan) { p.Posts[1].Name = "main" }, api.ErrThere},
		{func(p *api.Plan) { p.Posts[1].Kind = 0 }, api.ErrKind},
		{func(p *api.Plan) { p.Posts[1].Kind = 256 + api.Topic }, api.ErrKind},
		{func(p *api.Plan) { p.Queues[1].Limit = 257 }, api.ErrRange},
		{func(p *api.Plan) { p.Queues[1].Dead = 255 }, api.ErrRange},
		{func(p *api.Plan) { p.Queues[1].Dead = -2 }, api.ErrRange},
		{func(p *api.Plan) { p.Binds[1].From = -1 }, api.ErrRange},
		{func(p *api.Plan) { p.Binds[1].To = 256 }, api.ErrRange},
		{func(p *api.Plan) { p.Binds[1].Pattern = strings.Repeat("k", 256) }, api.ErrMany},
		{func(p *api.Plan) { p.Binds[1].Pattern = "" }, api.ErrForm},
		{func(p *api.Plan) { p.Binds[1].Pattern, p.Posts[2].Kind = "", 0 }, api.ErrKind},
	} {
		p := office()
		c.turn(&p)
		if got, e := Write(p); e != c.want || got != "" {
			t.Errorf("Write of %v is %q, %d, and must be nothing, %d", p, got, e, c.want)
		}
	}
}

// wantWay: of any bytes there is a plan only if it is right, and written as just these bytes.
func wantWay(t *testing.T, text string) bool {
	t.Helper()
	p, e := Read(text)
	if len(text) > api.MaxBytes {
		wantNone(t, "too many bytes", text, api.ErrMany)
		return false
	}
	if e != api.OK {
		wantNone(t, "no plan", text, api.ErrForm)
		return false
	}
	if back, f := Write(p); f != api.OK || back != text || plan.Check(p) != api.OK {
		t.Errorf("Read of %q is %v, and Write of that %q, %d", text, p, back, f)
	}
	return true
}

// L2: each byte of a plan, changed to each other one: what is still read is written as it is by then.
func TestEachByte(t *testing.T) {
	read := 0
	for i := range len(officeBytes()) {
		for n := range 256 {
			b := []byte(officeBytes())
			b[i] = byte(n)
			if wantWay(t, string(b)) {
				read++
			}
		}
	}
	if read < 500 {
		t.Errorf("only %d of them are read", read)
	}
}

// drawn: a right plan.
func drawn(r *rand.Rand) api.Plan {
	p := api.Plan{}
	for n := range 1 + r.Intn(api.MaxPosts) {
		p.Posts = append(p.Posts, api.Post{Name: strings.Repeat("p", 2*n+1), Kind: []int{api.Direct, api.Fanout, api.Topic}[r.Intn(3)]})
	}
	for q := range 1 + r.Intn(api.MaxQueues) {
		p.Queues = append(p.Queues, api.Queue{Name: strings.Repeat("q", 2*q+1), Limit: 1 + r.Intn(api.MaxLimit), Dead: r.Intn(len(p.Posts)+1) - 1})
	}
	for range r.Intn(api.MaxBinds + 1) {
		b := api.Bind{From: r.Intn(len(p.Posts)), To: r.Intn(len(p.Queues)), Pattern: []string{"x", "#", "*", "x.#", "0.*.y.#.z.9", "abcdefghijklmnopqrstuvwx"}[r.Intn(6)]}
		if r.Intn(3) == 0 {
			b.ToPost, b.To = true, r.Intn(len(p.Posts))
		}
		p.Binds = append(p.Binds, b)
	}
	return p
}

// L2: plans that are drawn are read as they were.
func TestDrawn(t *testing.T) {
	r := rand.New(rand.NewSource(12))
	for range 2000 {
		p := drawn(r)
		text, e := Write(p)
		back, f := Read(text)
		if e != api.OK || f != api.OK || !same(p, back) {
			t.Fatalf("Write of %v is %q, %d, and Read of that %v, %d", p, text, e, back, f)
		}
	}
}

// P2, P3: a plan is only read, the spare room behind its lists too; an answer is the caller's, and the same each time.
func TestPlanIsRead(t *testing.T) {
	p := office()
	p.Posts = append(p.Posts, api.Post{Name: "spare"})[:3]
	p.Queues = append(p.Queues, api.Queue{Name: "spare"})[:3]
	p.Binds = append(p.Binds, api.Bind{Pattern: "spare"})[:5]
	if _, e := Write(p); e != api.OK || !reflect.DeepEqual(p, office()) {
		t.Errorf("it is %d, the plan is %v", e, p)
	}
	if p.Posts[:4][3].Name != "spare" || p.Queues[:4][3].Name != "spare" || p.Binds[:6][5].Pattern != "spare" {
		t.Errorf("the spare room is %v %v %v", p.Posts[:4], p.Queues[:4], p.Binds[:6])
	}
	first, _ := Read(officeBytes())
	clear(first.Posts)
	clear(first.Queues)
	clear(first.Binds)
	wantBoth(t, office(), officeBytes())
}

// P1: whatever they are handed, the calls end, none panics, and they agree with one another.
func FuzzWire(f *testing.F) {
	f.Add(officeBytes(), "a", 1, 2, 3, "#")
	f.Add("\x00\x00\x00", "", 0, -1, 0, "")
	f.Add("\xff\xff", "aaaaaaaaa", 256, 1<<40, -1<<40, "a..b")
	f.Add(strings.Repeat("a", api.MaxBytes+1), "b", 3, 0, 1, "*.#")
	f.Fuzz(func(t *testing.T, text, name string, kind, a, b int, pattern string) {
		wantWay(t, text)
		p := api.Plan{
			Posts:  []api.Post{{Name: name, Kind: kind}, {Name: "b", Kind: api.Direct}},
			Queues: []api.Queue{{Name: name, Limit: kind, Dead: a}, {Name: "b", Limit: 1, Dead: -1}},
			Binds:  []api.Bind{{From: a, ToPost: kind == 1, To: b, Pattern: pattern}},
		}
		bytes, e := Write(p)
		if want := plan.Check(p); e != want || e != api.OK && bytes != "" {
			t.Errorf("Write of %v is %q, %d, and must be %d", p, bytes, e, want)
		}
		if back, f := Read(bytes); e == api.OK && (f != api.OK || !same(back, p)) {
			t.Errorf("Read of %q is %v, %d, and must be %v, OK", bytes, back, f, p)
		}
	})
}
