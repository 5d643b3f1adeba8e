package pack

import (
	"math"
	"slices"
	"strings"
	"testing"

	"mailcoach/api"
	"mailcoach/ask"
)

// Numbers are a byte each, bools 0 or 1, texts have their lengths ahead.
func TestPut(t *testing.T) {
	long := strings.Repeat("k", math.MaxUint8)
	for _, c := range []struct {
		things []any
		want   string
	}{
		{nil, ""},
		{[]any{0, 7, 255}, "\x00\x07\xff"},
		{[]any{"", "ab", "\x00\n"}, "\x00\x02ab\x02\x00\n"},
		{[]any{true, false}, "\x01\x00"},
		{[]any{1, "x", true, 2}, "\x01\x01x\x01\x02"},
		{[]any{long}, "\xff" + long},
	} {
		if got, e := Put(c.things...); e != api.OK || got != c.want {
			t.Errorf("Put of %v is %q, %d, and must be %q, OK", c.things, got, e, c.want)
		}
	}
}

// What is no byte, wherever it stands, has its error, and no bytes; the first one that is met is told.
func TestPutErrors(t *testing.T) {
	for _, c := range []struct {
		things []any
		want   api.Errno
	}{
		{[]any{-1}, api.ErrRange}, {[]any{256}, api.ErrRange}, {[]any{math.MaxInt}, api.ErrRange}, {[]any{math.MinInt}, api.ErrRange},
		{[]any{1, "a", 256}, api.ErrRange}, {[]any{256, 1, "a"}, api.ErrRange},
		{[]any{strings.Repeat("k", 256)}, api.ErrRange}, {[]any{strings.Repeat("k", 512)}, api.ErrRange},
		{[]any{nil}, api.ErrKind}, {[]any{1, byte(1)}, api.ErrKind}, {[]any{256, 'a'}, api.ErrRange}, {[]any{'a', 256}, api.ErrKind},
	} {
		if got, e := Put(c.things...); e != c.want || got != "" {
			t.Errorf("Put is %q, %d, and must be nothing, %d", got, e, c.want)
		}
	}
}

// What was put is read as it was, and the reader is at the end then.
func TestReader(t *testing.T) {
	long := strings.Repeat("\n", math.MaxUint8)
	text, _ := Put(0, 255, "", "ab", true, long, false)
	e := ask.Tried(func() {
		r := From(text)
		a, b, c, d, f, g, h := r.Number(), r.Number(), r.Text(), r.Text(), r.Flag(), r.Text(), r.Flag()
		if a != 0 || b != 255 || c != "" || d != "ab" || !f || g != long || h || r.At() != len(text) {
			t.Errorf("it is %d %d %q %q %v %q %v, at %d", a, b, c, d, f, g, h, r.At())
		}
		r.End()
	})
	if e != api.OK {
		t.Errorf("it is left with %d", e)
	}
}

// What ends too early is left, and what is nothing that Put puts.
func TestReaderLeaves(t *testing.T) {
	list := func(r *Reader) { List(r, func(r *Reader) string { return r.Text() }) }
	for _, c := range []struct {
		text string
		read func(r *Reader)
		want api.Errno
	}{
		{"", func(r *Reader) { r.End() }, api.OK},
		{"a", func(r *Reader) { r.End() }, api.ErrForm},
		{"ab", func(r *Reader) { r.Number(); r.End() }, api.ErrForm},
		{"", func(r *Reader) { r.Number() }, api.ErrForm},
		{"a", func(r *Reader) { r.Number() }, api.OK},
		{"a", func(r *Reader) { r.Number(); r.Number() }, api.ErrForm},
		{"", func(r *Reader) { r.Text() }, api.ErrForm},
		{"\x01", func(r *Reader) { r.Text() }, api.ErrForm},
		{"\x02a", func(r *Reader) { r.Text() }, api.ErrForm},
		{"\x02ab", func(r *Reader) { r.Text() }, api.OK},
		{"", func(r *Reader) { r.Flag() }, api.ErrForm},
		{"\x02", func(r *Reader) { r.Flag() }, api.ErrForm},
		{"\xff", func(r *Reader) { r.Flag() }, api.ErrForm},
		{"", list, api.ErrForm},
		{"\x00", list, api.OK},
		{"\x02\x00\x00", list, api.OK},
		{"\x02\x00", list, api.ErrForm},
		{"\x02\x00\x01", list, api.ErrForm},
	} {
		if e := ask.Tried(func() { c.read(From(c.text)) }); e != c.want {
			t.Errorf("of %q it is %d, and must be %d", c.text, e, c.want)
		}
	}
}

// As many as the number ahead says are read, and no more.
func TestList(t *testing.T) {
	r := From("\x03abcd")
	l := List(r, func(r *Reader) int { return r.Number() })
	if !slices.Equal(l, []int{'a', 'b', 'c'}) || r.At() != 4 || r.Number() != 'd' {
		t.Errorf("it is %v, at %d", l, r.At())
	}
	if l := List(From("\x00a"), func(r *Reader) int { return r.Number() }); len(l) != 0 {
		t.Errorf("of none it is %v", l)
	}
}
