package pack

import (
	"mailcoach/api"
	"mailcoach/ask"
)

// Reader reads what Put has put, from the front of a text on. What ends too early, or is nothing that Put puts, is left
// with ErrForm: so whoever reads is tried by package ask.
type Reader struct {
	text string
	at   int
}

// From: a reader at the front of that text.
func From(text string) *Reader {
	return &Reader{text: text}
}

// At: how many bytes were read.
func (r *Reader) At() int {
	return r.at
}

// End leaves, unless all bytes were read.
func (r *Reader) End() {
	ask.Never(api.ErrForm, r.at != len(r.text))
}

// Number: the next thing, a number.
func (r *Reader) Number() int {
	return int(r.take(1)[0])
}

// Flag: the next thing, a bool.
func (r *Reader) Flag() bool {
	n := r.Number()
	ask.Never(api.ErrForm, n != flag(false) && n != flag(true))
	return n == flag(true)
}

// Text: the next thing, a text.
func (r *Reader) Text() string {
	return r.take(r.Number())
}

// List: the next things: how many there are, and they, each of which is read by one.
func List[T any](r *Reader, one func(r *Reader) T) []T {
	var l []T
	for range r.Number() {
		l = append(l, one(r))
	}
	return l
}

// take: the next n bytes.
func (r *Reader) take(n int) string {
	ask.Never(api.ErrForm, n > len(r.text)-r.at)
	from := r.at
	r.at += n
	return r.text[from:r.at]
}
