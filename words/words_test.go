package words

import (
	"slices"
	"strings"
	"testing"

	"mailcoach/api"
)

var (
	longest   = strings.Repeat("a", api.MaxKey)
	tooLong   = strings.Repeat("a", api.MaxKey+1)
	mostWords = strings.TrimSuffix(strings.Repeat("a.", api.MaxWords), ".")
	moreWords = mostWords + ".a"
)

// A1: the words of keys.
func TestSplitKeys(t *testing.T) {
	for _, c := range []struct {
		key  string
		want []string
	}{
		{"a", []string{"a"}},
		{"0", []string{"0"}},
		{"az09", []string{"az09"}},
		{"a.b", []string{"a", "b"}},
		{"x1.y.22", []string{"x1", "y", "22"}},
		{"a.a.a", []string{"a", "a", "a"}},
		{longest, []string{longest}},
		{mostWords, []string{"a", "a", "a", "a", "a", "a"}},
		{"aaaa.aaaa.aaaa.aaaa.aaaa", []string{"aaaa", "aaaa", "aaaa", "aaaa", "aaaa"}},
	} {
		got, e := Split(c.key)
		if e != api.OK || !slices.Equal(got, c.want) {
			t.Errorf("Split(%q) is %q, %d, and must be %q, OK", c.key, got, e, c.want)
		}
	}
}

// A1, P1: what is no key has its error, and no words.
func TestSplitErrors(t *testing.T) {
	for _, c := range []struct {
		key  string
		want api.Errno
	}{
		{"", api.ErrForm},
		{".", api.ErrForm},
		{"a.", api.ErrForm},
		{".a", api.ErrForm},
		{"a..b", api.ErrForm},
		{".....", api.ErrForm},
		{"A", api.ErrForm},
		{"a b", api.ErrForm},
		{"a-b", api.ErrForm},
		{"a\n", api.ErrForm},
		{"a\x00", api.ErrForm},
		{"\xff", api.ErrForm},
		{"ä", api.ErrForm},
		{"*", api.ErrForm},
		{"#", api.ErrForm},
		{"a.*", api.ErrForm},
		{"a.#.b", api.ErrForm},
		{tooLong, api.ErrMany},
		{strings.Repeat("a.", 12) + "a", api.ErrMany},
		{strings.Repeat(".", 1000), api.ErrMany},
		{moreWords, api.ErrMany},
		// Too many, and ill-formed too: ErrMany is named first.
		{"......", api.ErrMany},
		{"A.b.c.d.e.f.g", api.ErrMany},
		{"a.b.c.d.e.f.", api.ErrMany},
		{strings.Repeat("A", api.MaxKey+1), api.ErrMany},
	} {
		got, e := Split(c.key)
		if e != c.want || len(got) != 0 {
			t.Errorf("Split(%q) is %q, %d, and must be nothing, %d", c.key, got, e, c.want)
		}
	}
}

// A1: of all bytes just a to z and 0 to 9 are a word's; `*` and `#` are words of patterns.
func TestBytes(t *testing.T) {
	for c := range 256 {
		s := string([]byte{byte(c)})
		key := strings.Contains("abcdefghijklmnopqrstuvwxyz0123456789", s)
		if _, e := Split(s); (e == api.OK) != key {
			t.Errorf("Split(%q): %d", s, e)
		}
		if e := Pattern(s); (e == api.OK) != (key || s == "*" || s == "#") {
			t.Errorf("Pattern(%q): %d", s, e)
		}
		// Within a longer word no other byte is let through either, nor are `*` and `#`.
		if _, e := Split("a" + s + "b"); (e == api.OK) != (key || s == ".") {
			t.Errorf("Split(a%qb): %d", s, e)
		}
		if e := Pattern("a" + s + "b"); (e == api.OK) != (key || s == ".") {
			t.Errorf("Pattern(a%qb): %d", s, e)
		}
	}
}

// A1: patterns, and what is none.
func TestPattern(t *testing.T) {
	for _, c := range []struct {
		pattern string
		want    api.Errno
	}{
		{"a", api.OK},
		{"a.b9", api.OK},
		{"*", api.OK},
		{"#", api.OK},
		{"*.#", api.OK},
		{"#.*", api.OK},
		{"#.#", api.OK},
		{"a.*.#.b", api.OK},
		{"#.#.#.#.#.#", api.OK},
		{longest, api.OK},
		{mostWords, api.OK},
		{"", api.ErrForm},
		{".", api.ErrForm},
		{"*.", api.ErrForm},
		{".#", api.ErrForm},
		{"#..#", api.ErrForm},
		{"**", api.ErrForm},
		{"##", api.ErrForm},
		{"*#", api.ErrForm},
		{"a*", api.ErrForm},
		{"#a", api.ErrForm},
		{"* ", api.ErrForm},
		{"B.*", api.ErrForm},
		{tooLong, api.ErrMany},
		{moreWords, api.ErrMany},
		{"#.#.#.#.#.#.#", api.ErrMany},
		{"......", api.ErrMany},
		{"##.a.a.a.a.a.a", api.ErrMany},
		{strings.Repeat("*", api.MaxKey+1), api.ErrMany},
	} {
		if e := Pattern(c.pattern); e != c.want {
			t.Errorf("Pattern(%q) is %d, and must be %d", c.pattern, e, c.want)
		}
	}
}

// A2: what matches, and what does not.
func TestMatch(t *testing.T) {
	for _, c := range []struct {
		pattern, key string
		want         bool
	}{
		{"a", "a", true},
		{"a", "b", false},
		{"a", "aa", false},
		{"aa", "a", false},
		{"a.b", "a", false},
		{"a", "a.b", false},
		{"*", "a", true},
		{"*", "a.b", false},
		{"*.*", "a", false},
		{"#", "a", true},
		{"#", mostWords, true},
		{"#", longest, true},
		{"a.#", "a", true},
		{"a.#", "b", false},
		{"#.a", "a", true},
		{"#.a", "a.b", false},
		{"a.#.c", "a.c", true},
		{"a.*.c", "a.c", false},
		{"a.#.c", "a.b.b.c", true},
		{"a.*.c", "a.b.b.c", false},
		{"#.#", "a", true},
		{"#.*", "a", true},
		{"*.#", "a", true},
		{"*.#.*", "a", false},
		{"*.#.*", "a.b", true},
		{"#.*.#", "a.b.c", true},
		{"#.*.*.#", "a", false},
		{"#.a.#.a.#", "a", false},
		{"#.a.#.a.#", "b.a.b.a.b", true},
		// The first word that fits behind # is not always the one to take.
		{"#.a.b", "a.a.b", true},
		{"#.a.b", "a.b.a.b", true},
		{"#.a.*", "a.b.a.c", true},
		{"a.#.b.#.c", "a.c.b.c.b.c", true},
		{"#.#.#.#.#.#", "a", true},
	} {
		got, e := Match(c.pattern, c.key)
		if e != api.OK || got != c.want {
			t.Errorf("Match(%q, %q) is %v, %d, and must be %v, OK", c.pattern, c.key, got, e, c.want)
		}
	}
}

// A2, P1: the pattern's errors come ahead of the key's; a false goes with each.
func TestMatchErrors(t *testing.T) {
	for _, c := range []struct {
		pattern, key string
		want         api.Errno
	}{
		{"", "a", api.ErrForm},
		{"##", "a", api.ErrForm},
		{moreWords, "a", api.ErrMany},
		{"#", "", api.ErrForm},
		{"#", "#", api.ErrForm},
		{"*", "*", api.ErrForm},
		{"#", "a..b", api.ErrForm},
		{"#", moreWords, api.ErrMany},
		{"#", tooLong, api.ErrMany},
		{"", tooLong, api.ErrForm},
		{tooLong, "", api.ErrMany},
		{"a", "A", api.ErrForm}, // told even though it could not match
	} {
		got, e := Match(c.pattern, c.key)
		if got || e != c.want {
			t.Errorf("Match(%q, %q) is %v, %d, and must be false, %d", c.pattern, c.key, got, e, c.want)
		}
	}
}

// laid says it as the document does: each word is tried in all the ways in which it can be laid.
func laid(pattern, key []string) bool {
	if len(pattern) == 0 {
		return len(key) == 0
	}
	if pattern[0] == "#" {
		for n := range len(key) + 1 {
			if laid(pattern[1:], key[n:]) {
				return true
			}
		}
		return false
	}
	return len(key) > 0 && (pattern[0] == "*" || pattern[0] == key[0]) && laid(pattern[1:], key[1:])
}

// texts: all texts of 1 to most of those words.
func texts(most int, words ...string) []string {
	all, last := []string{}, []string{""}
	for range most {
		var next []string
		for _, s := range last {
			for _, w := range words {
				next = append(next, strings.TrimPrefix(s+"."+w, "."))
			}
		}
		all, last = append(all, next...), next
	}
	return all
}

// A2: all short patterns against all short keys.
func TestMatchAll(t *testing.T) {
	keys := texts(5, "a", "b")
	for _, p := range texts(4, "a", "b", "*", "#") {
		for _, k := range keys {
			got, e := Match(p, k)
			if want := laid(strings.Split(p, "."), strings.Split(k, ".")); e != api.OK || got != want {
				t.Fatalf("Match(%q, %q) is %v, %d, and must be %v, OK", p, k, got, e, want)
			}
		}
	}
}

// # matches every key; a key itself, and no other key.
func TestMatchWhole(t *testing.T) {
	keys := append(texts(6, "a", "b"), longest, "ab", "a1.b")
	for _, k := range keys {
		if is, e := Match("#", k); !is || e != api.OK {
			t.Errorf("Match(#, %q) is %v, %d", k, is, e)
		}
		for _, other := range keys {
			if is, e := Match(k, other); is != (k == other) || e != api.OK {
				t.Errorf("Match(%q, %q) is %v, %d", k, other, is, e)
			}
		}
	}
}

// P2, P3: an answer is the caller's, and what is done to it is not seen later.
func TestSplitIsNew(t *testing.T) {
	first, _ := Split("a.b.c")
	for i := range first {
		first[i] = "z"
	}
	_ = append(first, "more")
	if again, e := Split("a.b.c"); e != api.OK || !slices.Equal(again, []string{"a", "b", "c"}) {
		t.Errorf("Split of the same key is now %q, %d", again, e)
	}
}

// P1: whatever they are handed, the calls end, none panics, and they agree with one another.
func FuzzWords(f *testing.F) {
	for _, s := range []string{"", "a", "a.b", "#", "*.#", "..", tooLong, moreWords, "\xff.\x00"} {
		f.Add(s, "a.b")
		f.Add("#", s)
		f.Add(s, s)
	}
	f.Fuzz(func(t *testing.T, pattern, key string) {
		l, split := Split(key)
		if split == api.OK && strings.Join(l, ".") != key || split != api.OK && len(l) != 0 {
			t.Errorf("Split(%q) is %q, %d", key, l, split)
		}
		if split == api.OK && Pattern(key) != api.OK {
			t.Errorf("%q is a key and no pattern", key)
		}
		want := Pattern(pattern)
		if want == api.OK {
			want = split
		}
		is, e := Match(pattern, key)
		if e != want || is != (e == api.OK && laid(strings.Split(pattern, "."), l)) {
			t.Errorf("Match(%q, %q) is %v, %d", pattern, key, is, e)
		}
	})
}
