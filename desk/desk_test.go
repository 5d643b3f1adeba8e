package desk

import (
	"fmt"
	"math/rand"
	"reflect"
	"regexp"
	"slices"
	"strconv"
	"strings"
	"testing"

	"mailcoach/api"
	"mailcoach/book"
	"mailcoach/hand"
	"mailcoach/reply"
	"mailcoach/state"
	"mailcoach/takers"
)

// office: a plan: x.y comes from main to both of the first two queues; what falls out of the first one comes to the last one.
func office() api.Plan {
	return api.Plan{
		Posts:  []api.Post{{Name: "main", Kind: api.Topic}, {Name: "dead", Kind: api.Direct}},
		Queues: []api.Queue{{Name: "a", Limit: 2, Dead: 1}, {Name: "b", Limit: 3, Dead: -1}, {Name: "main", Limit: 1, Dead: -1}},
		Binds:  []api.Bind{{From: 0, To: 0, Pattern: "x.#"}, {From: 0, To: 1, Pattern: "*.y"}, {From: 1, To: 2, Pattern: "x.y"}},
	}
}

// line: a line of a script, and what it must give.
type line struct{ asked, want string }

// wantLines: the lines must give what they must, one behind the other.
func wantLines(t *testing.T, name string, p api.Plan, lines ...line) {
	t.Helper()
	script, want := "", ""
	for _, l := range lines {
		script += l.asked + "\n"
		want += l.want + "\n"
	}
	got, e := Play(p, script)
	if e != api.OK || got != want {
		t.Errorf("%s: of %q it is %d,\n%q, and must be OK,\n%q", name, script, e, got, want)
	}
}

// M1, M2: a day at the desk: each sort of line, and what it gives.
func TestPlay(t *testing.T) {
	wantLines(t, "a day", office(),
		line{"lying", "0 0 0"}, line{"sums", "0 0 0"},
		line{"send main x.y one", "2"}, line{"send main x.y two", "2"}, line{"lying", "2 2 0"}, line{"sums", "4 0 0"},
		line{"join a 2", "0"}, line{"join b 1", "1"}, line{"next a", "0 0 new one"}, line{"next a", "1 0 new two"}, line{"next a", "error 8"},
		line{"back 0", "ok"}, line{"lying", "1 2 0"}, line{"next a", "2 0 again one"}, line{"ack 2", "ok"}, line{"sums", "4 1 0"},
		line{"drop 1", "ok"}, line{"lying", "0 2 1"}, line{"sums", "5 1 1"},
		line{"next b", "3 1 new one"}, line{"next b", "error 9"}, line{"leave 1", "ok"}, line{"lying", "0 2 1"}, line{"next b", "error 9"},
		line{"join b 4", "1"}, line{"next b", "4 1 again one"}, line{"next b", "5 1 new two"}, line{"ack 5", "ok"}, line{"ack 4", "ok"},
		line{"join main 1", "2"}, line{"next main", "6 2 new two"}, line{"drop 6", "ok"}, line{"sums", "5 3 2"}, line{"lying", "0 0 0"},
	)
	wantLines(t, "taken, and given back", office(), line{"send main x hi", "1"}, line{"join a 1", "0"}, line{"next a", "0 0 new hi"}, line{"back 0", "ok"}, line{"next a", "1 0 again hi"})
}

// M1: all that is left of a send is the body: with blanks, with any bytes, or empty; it is told as it was.
func TestBodies(t *testing.T) {
	for _, body := range []string{"", "x", " ", "  ", "a b", " a", "a ", "a  b c", "\x00\xff\r\t", "ok", "twelve bytes", "            ", "\u00e9"} {
		wantLines(t, body, office(), line{"send main x " + body, "1"}, line{"join a 1", "0"}, line{"next a", "0 0 new " + body})
	}
	for _, body := range []string{"thirteen byte", "             ", " twelve bytes", strings.Repeat("x", 300)} {
		wantLines(t, body, office(), line{"send main x " + body, "error 1"}, line{"sums", "0 0 0"})
	}
}

// M1: a line that is none of these, in one way or another.
func TestNoLine(t *testing.T) {
	for _, asked := range []string{
		"", " ", "  ", "x", "Sums", "sum", "sumsx", "sums ", " sums", "sums 1", "lying ", "lying a", "\tsums", "sums\r", "error 1", "drain a", "nextX a",
		"send", "send ", "send main", "send main ", "send main x", "send none", "send none x", "send  main", "sendmain x b",
		"join", "join ", "join a", "join a ", "join a  1", "join a 1 ", "join a 1 1", "join a b 1", "join a x", "join a +1", "join a -1", "join a 01", "join a 1x", "join a 1.",
		"join none", "join none x", "join none 01", "join none 1234567", "join none 1 1",
		"leave", "leave ", "leave a", "leave  0", "leave 0 ", "leave 0 0", "leave +0", "leave -0", "leave -1", "leave 00",
		"ack", "ack ", "ack x", "ack  0", "ack 0 ", "ack 0 0", "ack -1", "ack +1", "ack 01", "ack 0x1", "ack 1_0", "ack 1e1", "ack \u0661", "ack 1234567", "ack 0000000", "ack 99999999999999999999",
		"back", "back ", "back x", "back 0 0", "back 00", "back 1000000", "drop", "drop ", "drop x", "drop 0 0", "drop 00", "drop 1000000",
		"next", "next a b", "next a ", "next a  ", "next none b", "next  a",
	} {
		wantLines(t, asked, office(), line{"send main x hi", "1"}, line{"join a 1", "0"}, line{"next a", "0 0 new hi"}, line{asked, "error 1"}, line{"ack 0", "ok"})
	}
}

// M1: numbers of as many digits as may be, and 0 itself, are numbers: the call tells what it has of them.
func TestNumbers(t *testing.T) {
	for _, n := range []string{"0", "1", "9", "10", "999999", "100000", "524288"} {
		for _, word := range []string{"leave ", "ack ", "back ", "drop "} {
			wantLines(t, n, office(), line{word + n, "error 5"})
		}
	}
	for _, n := range []string{"0", "5", "10", "999999"} {
		wantLines(t, n, office(), line{"join a " + n, "error 3"})
	}
	for _, n := range []string{"1", "2", "3", "4"} {
		wantLines(t, n, office(), line{"join a " + n, "0"}, line{"leave 0", "ok"})
	}
}

// M1: a name that the plan has not, be it a name or not, an empty one too; posts and queues are told apart.
func TestNoName(t *testing.T) {
	for _, name := range []string{"none", "A", "0", "ma", "mainx", "a.b", "#", "", "\x00", "abcdefghijk", "1"} {
		wantLines(t, name, office(),
			line{"send " + name + " x hi", "error 5"}, line{"send " + name + " x ", "error 5"}, line{"send " + name + " X thirteen bytes", "error 5"},
			line{"join " + name + " 1", "error 5"}, line{"join " + name + " 0", "error 5"}, line{"next " + name, "error 5"}, line{"sums", "0 0 0"})
	}
	wantLines(t, "a queue's name, and a post's", office(), line{"send a x hi", "error 5"}, line{"send b x hi", "error 5"}, line{"next dead", "error 5"}, line{"join dead 1", "error 5"})
	wantLines(t, "both have that name", office(), line{"send main x hi", "1"}, line{"next main", "error 8"})
	wantLines(t, "nothing is there", api.Plan{}, line{"send main x hi", "error 5"}, line{"next a", "error 5"}, line{"join a 1", "error 5"}, line{"lying", ""}, line{"sums", "0 0 0"})
}

// M1: the calls' own errors, each as its number; with an error nothing has changed.
func TestOwnErrors(t *testing.T) {
	wantLines(t, "send", office(),
		line{"send main  hi", "error 1"}, line{"send main X hi", "error 1"}, line{"send main x.# hi", "error 1"}, line{"send main a.b.c.d.e.f.g hi", "error 2"},
		line{"send main " + strings.Repeat("k", api.MaxKey+1) + " hi", "error 2"}, line{"send main " + strings.Repeat("k", api.MaxKey+1) + " thirteen bytes", "error 2"},
		line{"send main " + strings.Repeat("k", api.MaxKey) + " hi", "0"}, line{"send main z hi", "0"}, line{"sums", "0 0 0"}, line{"lying", "0 0 0"})
	wantLines(t, "join", office(), line{"join a 1", "0"}, line{"join a 5", "error 3"}, line{"join a 1", "1"}, line{"join b 1", "2"}, line{"join b 1", "3"}, line{"join b 1", "error 2"},
		line{"join b 0", "error 3"}, line{"join none 1", "error 5"}, line{"leave 1", "ok"}, line{"leave 1", "error 5"}, line{"join main 4", "1"}, line{"leave 4", "error 5"})
	wantLines(t, "replies", office(), line{"send main x one", "1"}, line{"next a", "error 9"}, line{"join a 1", "0"}, line{"next b", "error 8"}, line{"next a", "0 0 new one"},
		line{"ack 1", "error 5"}, line{"back 1", "error 5"}, line{"drop 1", "error 5"}, line{"sums", "1 0 0"}, line{"ack 0", "ok"}, line{"back 0", "error 5"}, line{"sums", "1 1 0"})
}

// wantScriptError: that error must be told, and nothing beside it.
func wantScriptError(t *testing.T, name string, p api.Plan, script string, want api.Errno) {
	t.Helper()
	if got, e := Play(p, script); e != want || got != "" {
		t.Errorf("%s: it is %q, %d, and must be nothing, %d", name, got, e, want)
	}
}

// M1: a script that is empty gives nothing; one that does not end with a line feed is told.
func TestEnds(t *testing.T) {
	wantLines(t, "an empty script", office())
	wantLines(t, "an empty script of an empty plan", api.Plan{})
	for _, script := range []string{"sums", " ", "sums\nsums", "sums\n ", "sums\r", "\nsums", "sums\n\x00", strings.Repeat("x", api.MaxBytes)} {
		wantScriptError(t, script, office(), script, api.ErrForm)
	}
	wantLines(t, "a line without a word", office(), line{"", "error 1"}, line{"", "error 1"}, line{"sums", "0 0 0"})
}

// M1: just MaxActs lines, and one more; what has no line feed behind it is no line.
func TestMaxActs(t *testing.T) {
	for _, asked := range []string{"sums\n", "\n", "x\n"} {
		given := map[string]string{"sums\n": "0 0 0\n"}[asked]
		if given == "" {
			given = "error 1\n"
		}
		if got, e := Play(office(), strings.Repeat(asked, api.MaxActs)); e != api.OK || got != strings.Repeat(given, api.MaxActs) {
			t.Errorf("just MaxActs lines are %q, %d", got, e)
		}
		wantScriptError(t, "one more", office(), strings.Repeat(asked, api.MaxActs+1), api.ErrMany)
		wantScriptError(t, "one more, and no line feed", office(), strings.Repeat(asked, api.MaxActs+1)+"x", api.ErrMany)
		wantScriptError(t, "just MaxActs, and no line feed", office(), strings.Repeat(asked, api.MaxActs)+"x", api.ErrForm)
	}
}

// M1: just MaxBytes bytes, and one more.
func TestMaxBytes(t *testing.T) {
	long := strings.Repeat("x", api.MaxBytes-1) + "\n"
	wantLines(t, "just MaxBytes", office(), line{strings.Repeat("x", api.MaxBytes-1), "error 1"})
	wantLines(t, "just MaxBytes, a body", office(), line{"send main x " + strings.Repeat("x", api.MaxBytes-13), "error 1"})
	wantScriptError(t, "one more", office(), "x"+long, api.ErrMany)
	wantScriptError(t, "one more, and no line feed", office(), long+"x", api.ErrMany)
	wantScriptError(t, "many more", office(), strings.Repeat("\n", 1<<20), api.ErrMany)
}

// M1: the plan's errors come ahead of the script's.
func TestPlanErrors(t *testing.T) {
	for _, c := range []struct {
		turn func(p *api.Plan)
		want api.Errno
	}{
		{func(p *api.Plan) { p.Queues = make([]api.Queue, api.MaxQueues+1) }, api.ErrMany},
		{func(p *api.Plan) { p.Posts[0].Name = "" }, api.ErrName},
		{func(p *api.Plan) { p.Posts[0].Name = "dead" }, api.ErrThere},
		{func(p *api.Plan) { p.Posts[0].Kind = 4 }, api.ErrKind},
		{func(p *api.Plan) { p.Queues[0].Limit = 0 }, api.ErrRange},
		{func(p *api.Plan) { p.Binds[0].Pattern = "x..y" }, api.ErrForm},
	} {
		p := office()
		c.turn(&p)
		for _, script := range []string{"", "sums\n", "sums", strings.Repeat("\n", api.MaxActs+1), strings.Repeat("x", api.MaxBytes+1)} {
			wantScriptError(t, "a wrong plan", p, script, c.want)
		}
	}
}

// forms: what a line may be, told once more.
var forms = map[string]*regexp.Regexp{
	"send":  regexp.MustCompile(`(?s)^send ([^ ]*) ([^ ]*) (.*)$`),
	"join":  regexp.MustCompile(`(?s)^join ([^ ]*) (0|[1-9][0-9]{0,5})$`),
	"reply": regexp.MustCompile(`^(leave|ack|back|drop) (0|[1-9][0-9]{0,5})$`),
	"next":  regexp.MustCompile(`(?s)^next ([^ ]*)$`),
	"tell":  regexp.MustCompile(`^(lying|sums)$`),
}

// letterTold: what a next gives.
var letterTold = regexp.MustCompile(`[0-9]+ [0-9]+ (new|again) .*`)

// post, queue: the number of the one that has that name; -1, if there is none, of which the calls tell themselves.
func post(p api.Plan, name string) int {
	return slices.IndexFunc(p.Posts, func(x api.Post) bool { return x.Name == name })
}

func queue(p api.Plan, name string) int {
	return slices.IndexFunc(p.Queues, func(x api.Queue) bool { return x.Name == name })
}

// given: what a line gives, told once more, and the state then.
func given(p api.Plan, s api.State, asked string) (string, api.State, api.Errno) {
	found := map[string][]string{}
	for name, form := range forms {
		if m := form.FindStringSubmatch(asked); m != nil {
			found[name] = m
		}
	}
	if m := found["send"]; m != nil {
		after, n, e := hand.Publish(p, s, post(p, m[1]), m[2], m[3])
		return fmt.Sprint(n), after, e
	}
	if m := found["join"]; m != nil {
		most, _ := strconv.Atoi(m[2])
		after, n, e := takers.Join(p, s, queue(p, m[1]), most)
		return fmt.Sprint(n), after, e
	}
	if m := found["reply"]; m != nil {
		n, _ := strconv.Atoi(m[2])
		after, e := replied(p, s, m[1], n)
		return "ok", after, e
	}
	if m := found["next"]; m != nil {
		after, tag, e := takers.Deliver(p, s, queue(p, m[1]))
		if e != api.OK {
			return "", after, e
		}
		o := after.Outs[len(after.Outs)-1]
		return fmt.Sprintf("%d %d %s %s", tag, o.Taker, map[bool]string{true: "again", false: "new"}[o.Item.Again], o.Item.Body), after, e
	}
	if m := found["tell"]; m != nil {
		if m[1] == "sums" {
			return fmt.Sprintf("%d %d %d", s.Came, s.Acked, s.Dropped), s, api.OK
		}
		l, e := book.Lying(p, s)
		return strings.Trim(fmt.Sprint(l), "[]"), s, e
	}
	return "", s, api.ErrForm
}

// replied: a reply of that word.
func replied(p api.Plan, s api.State, word string, n int) (api.State, api.Errno) {
	switch word {
	case "leave":
		return reply.Leave(p, s, n)
	case "ack":
		return reply.Ack(p, s, n)
	}
	return reply.Reject(p, s, n, word == "back")
}

// wantPlay: the script must give what it is told once more to give.
func wantPlay(t *testing.T, p api.Plan, script string) []string {
	t.Helper()
	s, e := state.Begin(p)
	if e != api.OK {
		t.Fatalf("Begin is %d", e)
	}
	var want []string
	for asked := range strings.Lines(script) {
		g, after, e := given(p, s, strings.TrimSuffix(asked, "\n"))
		if e != api.OK {
			want = append(want, fmt.Sprintf("error %d\n", e))
			continue
		}
		s = after
		want = append(want, g+"\n")
	}
	if got, e := Play(p, script); e != api.OK || got != strings.Join(want, "") {
		t.Fatalf("of %q it is %d,\n%q, and must be OK,\n%q", script, e, got, strings.Join(want, ""))
	}
	return want
}

// drawnLine: a line that is drawn, mostly a right one.
func drawnLine(r *rand.Rand) string {
	of := func(l ...string) string { return l[r.Intn(len(l))] }
	number := fmt.Sprint(r.Intn(6))
	if r.Intn(12) == 0 {
		number = of("", "01", "+1", "-1", "999999", "1000000", "x")
	}
	post, queue := of("main", "main", "main", "dead", "none"), of("a", "a", "b", "b", "main", "none")
	asked := of("send "+post+" "+of("x", "x.y", "x.y", "z.y", "X")+" "+of("", "one", "two words", "much too long"), "join "+queue+" "+number, "next "+queue, "next "+queue,
		of("ack ", "back ", "drop ")+number, of("ack ", "back ", "drop ")+number, "leave "+number, of("lying", "sums"))
	if r.Intn(15) == 0 {
		asked = strings.Replace(asked, " ", of("", "  ", "\t"), 1)
	}
	return asked
}

// M1, M2: scripts that are drawn.
func TestDrawn(t *testing.T) {
	r := rand.New(rand.NewSource(13))
	seen := map[string]int{}
	for range 600 {
		script := ""
		for range r.Intn(api.MaxActs + 1) {
			script += drawnLine(r) + "\n"
		}
		for _, l := range wantPlay(t, office(), script) {
			seen[letterTold.ReplaceAllString(strings.TrimSuffix(l, "\n"), "$1")]++
		}
	}
	for _, l := range []string{"new", "again", "ok", "0", "1", "2", "3", "error 1", "error 2", "error 3", "error 5", "error 8", "error 9"} {
		if seen[l] < 10 {
			t.Errorf("only %d of %s", seen[l], l)
		}
	}
}

// P2, P3: a plan is only read, and a script gives the same each time.
func TestPlanIsRead(t *testing.T) {
	p := office()
	p.Queues = append(p.Queues, api.Queue{Name: "spare"})[:3]
	for range 3 {
		wantPlay(t, p, "send main x.y one\njoin a 1\nnext a\nback 0\nlying\nsums\n")
	}
	if !reflect.DeepEqual(p, office()) || p.Queues[:4][3].Name != "spare" {
		t.Errorf("the plan is %v", p)
	}
}

// P1: whatever it is handed, it ends, does not panic, and gives what the document names.
func FuzzPlay(f *testing.F) {
	f.Add("send main x.y one\njoin a 1\nnext a\nback 0\nnext a\nack 1\nlying\nsums\n")
	f.Add("send main x  \nsend  x b\nnext \njoin  1\n\n \n")
	f.Add("ack 000001\nleave 999999\nback -1\ndrop +1\n")
	f.Add(strings.Repeat("\n", api.MaxActs+1))
	f.Fuzz(func(t *testing.T, script string) {
		switch {
		case len(script) > api.MaxBytes || strings.Count(script, "\n") > api.MaxActs:
			wantScriptError(t, "too many", office(), script, api.ErrMany)
		case script != "" && script[len(script)-1] != '\n':
			wantScriptError(t, "no line feed", office(), script, api.ErrForm)
		default:
			wantPlay(t, office(), script)
		}
	})
}
