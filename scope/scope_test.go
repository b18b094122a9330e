package scope_test

import (
	"slices"
	"strconv"
	"strings"
	"testing"

	"rotor/api"
	"rotor/plain"
	"rotor/scope"
)

// wantErr holds an error against the Errno that it is to be, without a place.
func wantErr(t *testing.T, what string, err error, want api.Errno) {
	t.Helper()
	if got, bare := plain.Bare(err); got != want || !bare {
		t.Errorf("%.200s: error %d, without a place %v; want error %d", what, got, bare, want)
	}
}

// wantWords holds what Read and Least answer against the words that they are to be.
func wantWords(t *testing.T, s string, words ...string) {
	t.Helper()
	got, err := scope.Read(s)
	wantErr(t, "Read of "+strconv.Quote(s), err, api.OK)
	if !slices.Equal(got, words) {
		t.Errorf("Read of %.200q is %q; want %q", s, got, words)
	}
	least, err := scope.Least(s)
	wantErr(t, "Least of "+strconv.Quote(s), err, api.OK)
	if want := strings.Join(words, "+"); least != want {
		t.Errorf("Least of %.200q is %q; want %q", s, least, want)
	}
}

// wantWrong holds what all functions answer of a text against the error that it is to be; no answer stands beside it.
func wantWrong(t *testing.T, s string, e api.Errno) {
	t.Helper()
	words, err := scope.Read(s)
	wantErr(t, "Read of "+strconv.Quote(s), err, e)
	if len(words) > 0 {
		t.Errorf("with an error Read of %.200q answers %q", s, words)
	}
	least, err := scope.Least(s)
	wantErr(t, "Least of "+strconv.Quote(s), err, e)
	if least != "" {
		t.Errorf("with an error Least of %.200q answers %q", s, least)
	}
	for _, other := range []string{"", "a", "a+b+c+d+e"} {
		wantWithinErr(t, s, other, e)
		wantWithinErr(t, other, s, e)
	}
	wantWithinErr(t, s, s, e)
}

// wantWithinErr holds Within's error against what it is to be; false stands beside it.
func wantWithinErr(t *testing.T, a, b string, e api.Errno) {
	t.Helper()
	in, err := scope.Within(a, b)
	wantErr(t, "Within of "+strconv.Quote(a)+" and "+strconv.Quote(b), err, e)
	if in {
		t.Errorf("with an error Within of %.200q and %.200q is true", a, b)
	}
}

// wantWithin holds what Within answers against what it is to be.
func wantWithin(t *testing.T, a, b string, want bool) {
	t.Helper()
	got, err := scope.Within(a, b)
	wantErr(t, "Within of "+strconv.Quote(a)+" and "+strconv.Quote(b), err, api.OK)
	if got != want {
		t.Errorf("Within of %.200q and %.200q is %v; want %v", a, b, got, want)
	}
}

// shuffles calls f with every order of the words.
func shuffles(words []string, f func([]string)) {
	var put func(done, left []string)
	put = func(done, left []string) {
		if len(left) == 0 {
			f(done)
		}
		for i, w := range left {
			put(append(slices.Clone(done), w), slices.Delete(slices.Clone(left), i, i+1))
		}
	}
	put(nil, words)
}

// 4.1: ordinary scopes: the words in order, each once.
func TestWords(t *testing.T) {
	wantWords(t, "")
	wantWords(t, "read", "read")
	wantWords(t, "b+a+b", "a", "b")
	wantWords(t, "write+read", "read", "write")
	wantWords(t, "read+write", "read", "write")
	wantWords(t, "z+a", "a", "z")
	wantWords(t, "abcdefgh+zyxwvuts", "abcdefgh", "zyxwvuts")
	wantWords(t, "opqrstuv+ghijklmn", "ghijklmn", "opqrstuv")
}

// 4.1: what is a beginning comes first; else the first letter that is unlike tells.
func TestOrder(t *testing.T) {
	wantWords(t, "ab+a", "a", "ab")
	wantWords(t, "b+ab+a", "a", "ab", "b")
	wantWords(t, "abc+b+ab+a", "a", "ab", "abc", "b")
	wantWords(t, "zz+aaaaaaaa+z", "aaaaaaaa", "z", "zz")
	wantWords(t, "read+re+reader+r+ready", "r", "re", "read", "reader", "ready")
}

// 4.1: in whatever order the words stand, they are the same ones.
func TestAllOrders(t *testing.T) {
	words := []string{"a", "aa", "ab", "b", "ba"}
	shuffles(words, func(l []string) {
		s := strings.Join(l, "+")
		wantWords(t, s, words...)
		wantWords(t, s+"+"+l[0]+"+"+l[3], words...)
	})
}

// 4.1: every letter may stand in a word, at its ends, too.
func TestLetters(t *testing.T) {
	for c := 'a'; c <= 'z'; c++ {
		w := string(c)
		wantWords(t, w, w)
		wantWords(t, "m"+w+"m", "m"+w+"m")
		wantWords(t, w+"+"+w+w, w, w+w)
	}
}

// 4.1: as many words as may be, and one more.
func TestHowManyWords(t *testing.T) {
	wantWords(t, "e+d+c+b+a", "a", "b", "c", "d", "e")
	shuffles([]string{"a", "b", "c", "d", "e", "f"}, func(l []string) {
		wantWrong(t, strings.Join(l, "+"), api.ErrLimit)
	})
	wantWrong(t, "a+b+c+d+e+f+g", api.ErrLimit)
	wantWrong(t, "a+aa+aaa+aaaa+aaaaa+aaaaaa", api.ErrLimit)
	wantWrong(t, "a+b+c+d+e+a+b+c+d+e+f", api.ErrLimit)
}

// 4.1: words that are alike count once.
func TestAlike(t *testing.T) {
	wantWords(t, "a+a+a+a+a+a+a", "a")
	wantWords(t, "a+b+c+d+e+a+b+c+d+e", "a", "b", "c", "d", "e")
	wantWords(t, "e+e+d+d+c+c+b+b+a+a+e", "a", "b", "c", "d", "e")
	wantWords(t, "read+write+read+write+read+write", "read", "write")
}

// 4.1: as long a word as may be, and one letter more, wherever it stands.
func TestHowLongAWord(t *testing.T) {
	const most, more = "abcdefgh", "abcdefghi"
	wantWords(t, most, most)
	wantWords(t, "b+"+most+"+a", "a", most, "b")
	for _, s := range []string{more, "a+" + more, more + "+b", "a+" + more + "+b", "zzzzzzzzz+a", "a+zzzzzzzzz", more + "+" + more, most + "+" + more, strings.Repeat("x", 16)} {
		wantWrong(t, s, api.ErrLimit)
	}
	wantWrong(t, "a+b+c+d+"+more, api.ErrLimit)
	wantWrong(t, "a+b+c+d+e+"+more, api.ErrLimit)
}

// 4.1: an empty word, wherever it stands; the empty text alone has none.
func TestEmptyWord(t *testing.T) {
	for _, s := range []string{"+", "++", "+++", "a+", "+a", "a++b", "+a+", "a+b+", "+a+b", "a+b++c", "++++++", "a+a+"} {
		wantWrong(t, s, api.ErrForm)
	}
}

// 4.1: every other byte, wherever it stands.
func TestOtherLetters(t *testing.T) {
	for b := range 256 {
		if b >= 'a' && b <= 'z' || b == '+' {
			continue
		}
		c := string([]byte{byte(b)})
		for _, s := range []string{c, c + "a", "a" + c, "a" + c + "a", "a+" + c, c + "+a", "a+b" + c + "+c", c + c} {
			wantWrong(t, s, api.ErrForm)
		}
	}
	for _, s := range []string{"Read", "READ", "read write", "read,write", "read-only", "a1", " ", "a +b", "a+ b", "é", "ａ", "a\n", "_", "а"} {
		wantWrong(t, s, api.ErrForm)
	}
}

// 4.1 and P3: the form is looked at ahead of the bounds, wherever it is wrong.
func TestFormAheadOfLimit(t *testing.T) {
	for _, s := range []string{
		"abcdefghi+", "+abcdefghi", "abcdefghi++a", "abcdefghiJ", "abcdefghi+A", "A+abcdefghi", "abcdefghi 1",
		"a+b+c+d+e+f+", "+a+b+c+d+e+f", "a+b+c+d+e+f++g", "a+b+c+d+e+f+G", "A+b+c+d+e+f+g", "a+b+c+d+e+f+g+h+i+j+.",
		"abcdefghi+b+c+d+e+f+1", strings.Repeat("a", 1000) + "!",
	} {
		wantWrong(t, s, api.ErrForm)
	}
}

// 4.1: less is less: all words of a are words of b.
func TestWithin(t *testing.T) {
	wantWithin(t, "read", "write+read", true)
	wantWithin(t, "write+read", "read", false)
	wantWithin(t, "write+read", "read+write", true)
	wantWithin(t, "b+a+b", "a+b", true)
	wantWithin(t, "a+b", "b+a+b", true)
	wantWithin(t, "", "", true)
	wantWithin(t, "", "a", true)
	wantWithin(t, "a", "", false)
	wantWithin(t, "a", "a", true)
	wantWithin(t, "a", "b", false)
	wantWithin(t, "a+b+c", "a+b+d", false)
	wantWithin(t, "c+d+e", "a+b+c+d+e", true)
	wantWithin(t, "a+b+c+d+e", "e+d+c+b+a", true)
	wantWithin(t, "a+b+c+d+e", "a+b+c+d", false)
	wantWithin(t, "a+b+c+d", "a+b+c+d+e", true)
}

// 4.1: a word is within a scope as a whole, not as a piece.
func TestWithinWholeWords(t *testing.T) {
	wantWithin(t, "a", "ab", false)
	wantWithin(t, "b", "ab", false)
	wantWithin(t, "ab", "a+b", false)
	wantWithin(t, "ab", "a", false)
	wantWithin(t, "a+b", "ab", false)
	wantWithin(t, "read", "reader+ready", false)
	wantWithin(t, "a+b", "a+bb+b", true)
}

// 4.1: within goes by sets of words: all of five words against all others.
func TestWithinAll(t *testing.T) {
	words := []string{"a", "ab", "b", "read", "z"}
	some := func(set int) string {
		var l []string
		for i, w := range words {
			if set>>i&1 == 1 {
				l = append([]string{w}, l...)
			}
		}
		return strings.Join(l, "+")
	}
	for a := range 1 << len(words) {
		for b := range 1 << len(words) {
			wantWithin(t, some(a), some(b), a&^b == 0)
		}
	}
}

// 4.1 and P3: the errors of a, all of them, come ahead of those of b.
func TestWithinErrors(t *testing.T) {
	const form, limit = "a++b", "abcdefghi"
	wantWithinErr(t, form, limit, api.ErrForm)
	wantWithinErr(t, limit, form, api.ErrLimit)
	wantWithinErr(t, "a+b+c+d+e+f", form, api.ErrLimit)
	wantWithinErr(t, form, "a+b+c+d+e+f", api.ErrForm)
	wantWithinErr(t, "z", form, api.ErrForm)
	wantWithinErr(t, "z", limit, api.ErrLimit)
	wantWithinErr(t, "", form, api.ErrForm)
	wantWithinErr(t, form, "", api.ErrForm)
}

// 4.1: the least form is its own least form.
func TestLeastOfLeast(t *testing.T) {
	for _, s := range []string{"", "a", "b+a+b", "e+d+c+b+a", "ab+a+abc", "write+read+list"} {
		once, err := scope.Least(s)
		wantErr(t, "Least", err, api.OK)
		twice, err := scope.Least(once)
		wantErr(t, "Least", err, api.OK)
		if once != twice {
			t.Errorf("the least form of %q is %q, and of that %q", s, once, twice)
		}
		wantWithin(t, s, once, true)
		wantWithin(t, once, s, true)
	}
}

// P1: long texts, of many words and of one.
func TestLongTexts(t *testing.T) {
	wantWords(t, strings.Repeat("b+", 1<<20)+"a", "a", "b")
	wantWords(t, strings.Repeat("e+d+c+b+a+", 1<<18)+"a", "a", "b", "c", "d", "e")
	wantWrong(t, strings.Repeat("a", 1<<20), api.ErrLimit)
	wantWrong(t, strings.Repeat("a+", 1<<18), api.ErrForm)
	wantWrong(t, strings.Repeat("+", 1<<20), api.ErrForm)
	wantWrong(t, strings.Repeat("a+b+c+d+e+f+", 1<<17)+"a", api.ErrLimit)
	wantWrong(t, strings.Repeat("a+b+c+d+e+f+", 1<<17)+"A", api.ErrForm)
}

// P4: what comes out is the caller's, and later answers don't hang on it.
func TestFreshLists(t *testing.T) {
	first, err := scope.Read("b+a")
	wantErr(t, "Read", err, api.OK)
	for i := range first {
		first[i] = "spoilt"
	}
	_ = append(first[:0], "x", "y", "z")
	wantWords(t, "b+a", "a", "b")
	wantWithin(t, "a", "b+a", true)
}
