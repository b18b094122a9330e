package token_test

import (
	"math"
	"strconv"
	"strings"
	"testing"

	"rotor/api"
	"rotor/mac"
	"rotor/plain"
	"rotor/token"
)

// written are tokens, and their texts by keys (the tags are of another SipHash).
var written = []struct {
	key  int
	t    token.Token
	text string
}{
	{1, token.Token{Kind: token.Refresh, Family: 3}, "r.3.0.d7e1371330f46834"},
	{0, token.Token{Kind: token.Refresh, Family: 12, Generation: 345}, "r.12.345.381c146da92c105a"},
	{1, token.Token{Kind: token.Refresh}, "r.0.0.d7f4fc476db689c2"},
	{1, token.Token{Kind: token.Refresh, Family: api.MaxNumber, Generation: api.MaxNumber}, "r.1099511627776.1099511627776.c42873c810e86b0d"},
	{5, token.Token{Kind: token.Refresh, Family: 203}, "r.203.0.01b16b73802ffb00"},
	{-1, token.Token{Kind: token.Refresh, Family: 3}, "r.3.0.679700894baa8c69"},
	{math.MaxInt64, token.Token{Kind: token.Refresh, Family: 7, Generation: 8}, "r.7.8.fa9713d61faf9ffe"},
	{math.MinInt64, token.Token{Kind: token.Refresh, Family: 7, Generation: 8}, "r.7.8.363288745ba28510"},
	{1, token.Token{Kind: token.Access, Family: 3, Ends: 5}, "a.3.0.5.c431a2be73ac1a8b"},
	{1, token.Token{Kind: token.Access}, "a.0.0.0.7f6cd138c708233a"},
	{1, token.Token{Kind: token.Access, Family: api.MaxNumber, Generation: api.MaxNumber, Ends: api.MaxNumber}, "a.1099511627776.1099511627776.1099511627776.2a7bdbac4359c465"},
	{api.MaxNumber, token.Token{Kind: token.Access, Family: 10, Generation: 20, Ends: 30}, "a.10.20.30.a1d2283e7848ecb7"},
	{7, token.Token{Kind: token.Access, Family: 1, Generation: 2, Ends: api.MaxNumber}, "a.1.2.1099511627776.7be53437036503dc"},
	{7, token.Token{Kind: token.Access, Family: 1, Generation: 2}, "a.1.2.0.1962a769f7c98c85"},
}

// wantErr holds an error against the Errno that it is to be, without a place.
func wantErr(t *testing.T, what string, err error, want api.Errno) {
	t.Helper()
	if got, bare := plain.Bare(err); got != want || !bare {
		t.Errorf("%s: error %d, without a place %v; want error %d", what, got, bare, want)
	}
}

// wantRead holds what Read answers against the token, or the error without one, that it is to be.
func wantRead(t *testing.T, key int, text string, want token.Token, e api.Errno) {
	t.Helper()
	got, err := token.Read(key, text)
	wantErr(t, "Read of "+strconv.Quote(text), err, e)
	if got != want {
		t.Errorf("Read of %q by %d is %v; want %v", text, key, got, want)
	}
}

// tagged is a text with its own tag behind it, so that nothing but the text can be wrong.
func tagged(key int, body string) string { return body + "." + mac.Tag(key, body) }

// 3.1: the kinds.
func TestKinds(t *testing.T) {
	if token.Refresh != 1 || token.Access != 2 {
		t.Errorf("the kinds are %d and %d; want 1 and 2", token.Refresh, token.Access)
	}
}

// 3.1: ordinary tokens, and those with the least and the greatest numbers, are written so, and read again.
func TestWriteRead(t *testing.T) {
	for _, c := range written {
		text, err := token.Write(c.key, c.t)
		wantErr(t, "Write", err, api.OK)
		if text != c.text {
			t.Errorf("Write by %d of %v is %q; want %q", c.key, c.t, text, c.text)
		}
		wantRead(t, c.key, c.text, c.t, api.OK)
	}
}

// 3.1: numbers of all lengths are written without noughts ahead, and read again.
func TestNumbers(t *testing.T) {
	for n := 1; n <= api.MaxNumber; n *= 2 {
		for _, c := range []token.Token{
			{Kind: token.Refresh, Family: n, Generation: n - 1},
			{Kind: token.Access, Family: n - 1, Generation: n, Ends: n},
			{Kind: token.Access, Family: n, Generation: n / 3, Ends: n - 1},
		} {
			text, err := token.Write(n, c)
			wantErr(t, "Write", err, api.OK)
			wantRead(t, n, text, c, api.OK)
		}
	}
}

// 3.1 and P2: tokens that may not be; there is no text then.
func TestWriteErrArg(t *testing.T) {
	var wrong []token.Token
	for _, kind := range []int{0, 3, -1, -2, 'r', 'a', math.MaxInt, math.MinInt} {
		wrong = append(wrong, token.Token{Kind: kind, Family: 1, Generation: 2})
	}
	for _, ends := range []int{1, -1, api.MaxNumber, api.MaxNumber + 1, math.MinInt} {
		wrong = append(wrong, token.Token{Kind: token.Refresh, Family: 1, Generation: 2, Ends: ends})
	}
	for _, n := range []int{-1, api.MaxNumber + 1, math.MaxInt, math.MinInt} {
		wrong = append(wrong,
			token.Token{Kind: token.Refresh, Family: n, Generation: 2},
			token.Token{Kind: token.Refresh, Family: 1, Generation: n},
			token.Token{Kind: token.Access, Family: n, Generation: 2, Ends: 3},
			token.Token{Kind: token.Access, Family: 1, Generation: n, Ends: 3},
			token.Token{Kind: token.Access, Family: 1, Generation: 2, Ends: n})
	}
	wrong = append(wrong, token.Token{})
	for _, c := range wrong {
		text, err := token.Write(1, c)
		wantErr(t, "Write", err, api.ErrArg)
		if text != "" {
			t.Errorf("with an error Write of %v answers %q", c, text)
		}
	}
}

// 3.1: texts that are no body, with the tag that would be theirs.
func TestNoBody(t *testing.T) {
	for _, body := range []string{
		"", ".", "..", "...", "r", "a", "r.", "a.", "1.2", "1.2.3",
		"r.1", "a.1", "a.1.2", "r.1.2.3", "a.1.2.3.4", "r.1.2.0", "a.1.2.3.", "r.1.2.", ".r.1.2", "r.1.2.a.1.2.3",
		".1.2", ".1.2.3", "R.1.2", "A.1.2.3", "x.1.2", "x.1.2.3", "rr.1.2", "ra.1.2", "1.1.2", "2.1.2.3",
		"r..2", "r.1.", "a..2.3", "a.1..3", "r1.2", "r,1,2", "r-1-2",
		"r.01.2", "r.1.02", "r.00.2", "r.1.00", "a.01.2.3", "a.1.02.3", "a.1.2.03", "a.1.2.00",
		"r.+1.2", "r.1.+2", "a.1.2.+3", "r.-1.2", "r.1.-2", "a.1.2.-3", "r.-0.2", "r.1.-0", "a.1.2.-0",
		"r.1099511627777.2", "r.1.1099511627777", "a.1099511627777.2.3", "a.1.1099511627777.3", "a.1.2.1099511627777",
		"r.9999999999999.2", "r.9223372036854775807.2", "r.9223372036854775808.2", "r.18446744073709551617.2", "r.-9223372036854775808.2",
		"r.1." + strings.Repeat("9", 1000), "r." + strings.Repeat("0", 1000) + ".1",
		" r.1.2", "r.1.2 ", "r .1.2", "r. 1.2", "r.1 .2", "r.1.2\n", "\tr.1.2", "r.1.2\x00", "\x00r.1.2",
		"r.1_0.2", "r.0x1.2", "r.1e3.2", "r.f.2", "r.1.b", "r.one.2", "r.١.2", "r.1.２", "ř.1.2", "r\xff.1.2", "r.1\xff.2",
	} {
		wantRead(t, 1, tagged(1, body), token.Token{}, api.ErrForm)
	}
}

// 3.1: what stands behind a body, and is no 16 hexadecimal digits.
func TestNoTag(t *testing.T) {
	for _, body := range []string{"r.3.0", "a.3.0.5"} {
		tag := mac.Tag(1, body)
		for _, text := range []string{
			body, body + ".", body + tag, body + "." + tag[1:], body + "." + tag[:15], body + "." + tag + "0", body + ".0" + tag,
			body + "." + strings.ToUpper(tag), body + ".g" + tag[1:], body + "." + tag[:15] + "g",
			body + "./" + tag[1:], body + ".:" + tag[1:], body + ".`" + tag[1:], body + ".A" + tag[1:], body + ".F" + tag[1:],
			body + ". " + tag[1:], body + "." + tag[:15] + "\n", body + "." + tag + "\n", body + "." + tag + " ", " " + body + "." + tag,
			body + ".-" + tag[1:], body + ".+" + tag[1:], body + ".\x00" + tag[1:], body + ".\xff" + tag[1:], body + ".é" + tag[2:],
			body + "." + tag[:7] + "." + tag[8:], body + ".." + tag, body + "." + tag + ".", body + "." + tag + "." + tag, body + " " + tag,
			tag, "." + tag, tag + "." + body, body + "." + strings.Repeat("0", 1000),
		} {
			wantRead(t, 1, text, token.Token{}, api.ErrForm)
		}
	}
}

// 3.1: 16 hexadecimal digits that are not the body's tag, whatever they are.
func TestWrongTag(t *testing.T) {
	for _, body := range []string{"r.3.0", "a.3.0.5"} {
		tag := mac.Tag(1, body)
		for i := range len(tag) {
			for _, digit := range "0123456789abcdef" {
				if byte(digit) != tag[i] {
					wantRead(t, 1, body+"."+tag[:i]+string(digit)+tag[i+1:], token.Token{}, api.ErrName)
				}
			}
		}
		for _, other := range []string{
			"0000000000000000", "ffffffffffffffff", "0123456789abcdef",
			mac.Tag(0, body), mac.Tag(2, body), mac.Tag(-1, body),
			mac.Tag(1, body+"."), mac.Tag(1, ""), mac.Tag(1, body[2:]), mac.Tag(1, "r.3.1"), mac.Tag(1, "a.3.0.6"),
			tag[8:] + tag[:8],
		} {
			wantRead(t, 1, body+"."+other, token.Token{}, api.ErrName)
		}
	}
}

// 3.1: a token is one by its own key alone, and of its own kind.
func TestOtherKeyOrKind(t *testing.T) {
	for _, c := range written {
		for _, key := range []int{c.key ^ 1, c.key ^ math.MinInt64, ^c.key} {
			wantRead(t, key, c.text, token.Token{}, api.ErrName)
		}
	}
	wantRead(t, 1, "a.3.0.5."+mac.Tag(1, "r.3.0"), token.Token{}, api.ErrName)
	wantRead(t, 1, "r.3.0."+mac.Tag(1, "a.3.0.0"), token.Token{}, api.ErrName)
}

// 3.1 and P3: the form is looked at ahead of the tag.
func TestFormAheadOfTag(t *testing.T) {
	const some = ".0123456789abcdef"
	for _, body := range []string{"", "x.1.2", "r.01.2", "r.1.2.3", "a.1.2", "r.1.1099511627777"} {
		wantRead(t, 1, body+some, token.Token{}, api.ErrForm)
	}
	wantRead(t, 1, "r.1.1099511627776"+some, token.Token{}, api.ErrName)
}

// 3.1: no piece of a token is one, nor is one with a byte left out.
func TestPieces(t *testing.T) {
	for _, c := range written {
		for i := range len(c.text) {
			wantRead(t, c.key, c.text[:i], token.Token{}, api.ErrForm)
			for _, text := range []string{c.text[i+1:], c.text[:i] + c.text[i+1:]} {
				if got, err := token.Read(c.key, text); err == nil || got != (token.Token{}) {
					t.Errorf("Read of %q is %v, %v", text, got, err)
				}
			}
		}
	}
}

// 3.1: whatever byte is another one, or is put between, it is the same token no more.
func TestOtherBytes(t *testing.T) {
	for _, c := range written {
		for i := range len(c.text) {
			for b := range 256 {
				more := c.text[:i] + string([]byte{byte(b)}) + c.text[i:]
				other := c.text[:i] + string([]byte{byte(b)}) + c.text[i+1:]
				for _, text := range []string{more, other} {
					got, err := token.Read(c.key, text)
					if text != c.text && (err == nil || got != (token.Token{})) {
						t.Errorf("Read of %q is %v, %v", text, got, err)
					}
				}
			}
		}
	}
}

// P1: texts that are long, or have many dots, are no tokens.
func TestLongTexts(t *testing.T) {
	for _, text := range []string{
		strings.Repeat(".", 1<<20), strings.Repeat("r.1.2.", 1<<17), "r.1." + strings.Repeat("1", 1<<20),
		strings.Repeat("r", 1<<20), "r.1.2." + strings.Repeat("a", 1<<20), tagged(1, "r"+strings.Repeat(".1", 1<<19)),
	} {
		got, err := token.Read(1, text)
		wantErr(t, "Read of a long text", err, api.ErrForm)
		if got != (token.Token{}) {
			t.Errorf("with an error Read answers %v", got)
		}
	}
}

// P4: what is answered hangs on what is told alone.
func TestAgain(t *testing.T) {
	for range 3 {
		for _, c := range written {
			wantRead(t, c.key, c.text[1:], token.Token{}, api.ErrForm)
			wantRead(t, c.key, c.text, c.t, api.OK)
			if text, err := token.Write(c.key, c.t); err != nil || text != c.text {
				t.Errorf("Write once more of %v is %q, %v", c.t, text, err)
			}
		}
	}
}
