package missive_test

import (
	"encoding/base64"
	"math/rand"
	"regexp"
	"slices"
	"strings"
	"sync"
	"testing"

	"missive/api"
	"missive/missive"
)

const (
	begin = "-----BEGIN MISSIVE-----\n"
	end   = "-----END MISSIVE-----\n"
)

// full is a whole line, of 48 bytes 0.
var full = strings.Repeat("A", 64) + "\n"

// libraryText is the text of bytes, by the library's base 64.
func libraryText(bytes string) string {
	var out strings.Builder
	out.WriteString(begin)
	for line := range slices.Chunk([]byte(base64.StdEncoding.EncodeToString([]byte(bytes))), 64) {
		out.WriteString(string(line) + "\n")
	}
	return out.String() + end
}

// Patterns of the document's words: a whole line, a last line that is not whole, and what texts are and begin with.
const (
	letterOf  = `[A-Za-z0-9+/]`
	wholeLine = `(` + letterOf + `{64}\n)`
	endings   = `(` + letterOf + `{4}|` + letterOf + `{2}[AEIMQUYcgkosw048]=|` + letterOf + `[AQgw]==)`
	partLine  = `((` + letterOf + `{4}){0,15}` + endings + `\n)`
)

var (
	isText = regexp.MustCompile(`^` + begin + wholeLine + `*` + partLine + `?` + end + `$`)
	goesOn = regexp.MustCompile(`^` + begin + wholeLine + `*` + partLine + `?(` + end + `)?$`)
)

// plainRead is what Read has to answer.
func plainRead(text string) (string, int, api.Errno) {
	if len(text) > 20000 {
		return "", 0, api.ErrSize
	}
	if !isText.MatchString(text) {
		lines := strings.SplitAfter(text, "\n")
		for n := range len(lines) - 1 {
			if !goesOn.MatchString(strings.Join(lines[:n+1], "")) {
				return "", n, api.ErrText
			}
		}
		return "", len(lines) - 1, api.ErrText
	}
	letters := strings.ReplaceAll(text[len(begin):len(text)-len(end)], "\n", "")
	bytes, err := base64.StdEncoding.Strict().DecodeString(letters)
	if err != nil {
		panic(err)
	}
	if len(bytes) > 12000 {
		return "", 0, api.ErrSize
	}
	return string(bytes), 0, api.OK
}

func checkWrite(t *testing.T, bytes string) {
	t.Helper()
	want := libraryText(bytes)
	got, errno := missive.Write(bytes)
	if got != want || errno != api.OK {
		t.Errorf("P8: Write(%x) = %q, %d, want %q", bytes, got, errno, want)
	}
	if !apart(got, bytes) {
		t.Errorf("P1: the text of %x shares memory with it", bytes)
	}
}

func checkRead(t *testing.T, text, want string) {
	t.Helper()
	got, line, errno := missive.Read(text)
	if got != want || line != 0 || errno != api.OK {
		t.Errorf("P8: Read(%q) = %x, %d, %d, want %x", text, got, line, errno, want)
	}
	if !apart(got, text) {
		t.Errorf("P1: the bytes of %q share memory with it", text)
	}
}

// checkNotRead asks for an error and a line, and no bytes beside them.
func checkNotRead(t *testing.T, text string, wantLine int, want api.Errno) {
	t.Helper()
	if got, line, errno := missive.Read(text); got != "" || line != wantLine || errno != want {
		t.Errorf("P8: Read(%q) = %x, %d, %d, want %d, %d", text, got, line, errno, wantLine, want)
	}
}

// checkAsWorded holds Read against the patterns, and tells whether it was a text.
func checkAsWorded(t *testing.T, text string) bool {
	t.Helper()
	want, wantLine, wantErrno := plainRead(text)
	if got, line, errno := missive.Read(text); got != want || line != wantLine || errno != wantErrno {
		t.Errorf("P8: Read(%q) = %x, %d, %d, want %x, %d, %d", text, got, line, errno, want, wantLine, wantErrno)
	}
	return wantErrno == api.OK
}

func TestTextExamples(t *testing.T) {
	for bytes, lines := range map[string]string{
		"":             "",
		"Hi":           "SGk=\n",
		"f":            "Zg==\n",
		"fo":           "Zm8=\n",
		"foo":          "Zm9v\n",
		"foob":         "Zm9vYg==\n",
		"fooba":        "Zm9vYmE=\n",
		"foobar":       "Zm9vYmFy\n",
		"\x00":         "AA==\n",
		"\x00\x00":     "AAA=\n",
		"\xff":         "/w==\n",
		"\xff\xff":     "//8=\n",
		"\xff\xff\xff": "////\n",
		"\xfb\xef\xbe": "++++\n",
		"\x00\x10\x83\x10\x51\x87\x20\x92\x8b\x30\xd3\x8f\x41\x14\x93\x51\x55\x97\x61\x96\x9b\x71\xd7\x9f\x82\x18\xa3\x92\x59\xa7\xa2\x9a\xab\xb2\xdb\xaf\xc3\x1c\xb3\xd3\x5d\xb7\xe3\x9e\xbb\xf3\xdf\xbf": "ABCDEFGHIJKLMNOPQRSTUVWXYZabcdefghijklmnopqrstuvwxyz0123456789+/\n",
		strings.Repeat("\x00", 46): strings.Repeat("A", 62) + "==\n",
		strings.Repeat("\x00", 47): strings.Repeat("A", 63) + "=\n",
		strings.Repeat("\x00", 48): full,
		strings.Repeat("\x00", 49): full + "AA==\n",
		strings.Repeat("\x00", 96): full + full,
		strings.Repeat("\x00", 97): full + full + "AA==\n",
	} {
		if got, errno := missive.Write(bytes); got != begin+lines+end || errno != api.OK {
			t.Errorf("P8: Write(%x) = %q, %d", bytes, got, errno)
		}
		checkRead(t, begin+lines+end, bytes)
	}
}

func TestTextSizes(t *testing.T) {
	for n := range 201 {
		for _, bytes := range []string{sample(n), strings.Repeat("\xff", n), strings.Repeat("\x00", n), strings.Repeat("\n", n)} {
			checkWrite(t, bytes)
			checkRead(t, libraryText(bytes), bytes)
		}
	}
	for _, n := range []int{10000, 10536, 11951, 11952, 11953, 11998, 11999, 12000} {
		checkWrite(t, sample(n))
		checkRead(t, libraryText(sample(n)), sample(n))
	}
	for _, n := range []int{12001, 12002, 12003, 12048, 14733, 20001, 1 << 20} {
		if got, errno := missive.Write(sample(n)); got != "" || errno != api.ErrSize {
			t.Errorf("P8: Write of %d bytes: %d bytes, %d", n, len(got), errno)
		}
	}
}

// Each byte at each of the three places, with each neighbour that shares a letter with it.
func TestTextOfAllBytes(t *testing.T) {
	var all []byte
	for a := range 256 {
		for _, b := range []byte{0, 1, 15, 16, 63, 64, 128, 170, 255} {
			all = append(all, byte(a), b, byte(a), b, b, byte(a), byte(a))
			for n := 1; n <= 3; n++ {
				for _, bytes := range []string{string([]byte{byte(a), b, b}[:n]), string([]byte{b, byte(a), b}[:n]), string([]byte{b, b, byte(a)}[:n])} {
					checkWrite(t, bytes)
					checkRead(t, libraryText(bytes), bytes)
				}
			}
		}
	}
	for from := 0; from+12000 <= len(all); from += 1000 {
		checkWrite(t, string(all[from:from+12000]))
		checkRead(t, libraryText(string(all[from:from+12000])), string(all[from:from+12000]))
	}
}

// The number of the line with each fault.
func TestTextsThatAreNone(t *testing.T) {
	part := "SGk=\n"
	for _, c := range []struct {
		text string
		line int
	}{
		// It ends too early, or without a newline.
		{"", 0}, {"\n", 0}, {"x", 0}, {"-", 0}, {begin, 1}, {begin[:23], 0}, {begin + full, 2}, {begin + full + full, 3}, {begin + part, 2}, {begin + full + part, 3},
		{begin + full[:64], 1}, {begin + "SGk=", 1}, {begin + "x", 1}, {begin + full + full[:20], 2}, {begin + end[:21], 1}, {begin + full + end[:21], 2}, {begin + part + end[:21], 2}, {begin + end[:5], 1}, {begin + part + "-", 2},
		// A line ahead of that is wrong already.
		{"x\n" + begin[:23], 0}, {begin + "x\n" + end[:21], 1}, {begin + part + part + full[:9], 2}, {begin + end + end[:21], 2}, {end[:21], 0}, {begin + "\n" + part, 1},
		// The first line is missing, doubled, or another.
		{end, 0}, {part + end, 0}, {full + end, 0}, {begin + begin + end, 1}, {begin + begin + part + end, 1}, {begin + part + begin + end, 2}, {begin + full + begin + end, 2}, {"\n" + begin + end, 0}, {end + begin, 0},
		{strings.ToLower(begin) + end, 0}, {begin[1:] + end, 0}, {"-" + begin + end, 0}, {" " + begin + end, 0}, {begin[:23] + " \n" + end, 0}, {begin[:23] + "\r\n" + end, 0}, {"\ufeff" + begin + end, 0}, {begin[:22] + "\n" + end, 0}, {strings.Replace(begin, " ", "  ", 1) + end, 0},
		// The last line is doubled, or another, or there are lines behind it.
		{begin + end + end, 2}, {begin + part + end + end, 3}, {begin + end + "\n", 2}, {begin + end + "x", 2}, {begin + end + " ", 2}, {begin + end + "x\n", 2}, {begin + end + begin + end, 2}, {begin + end + part, 2}, {begin + full + end + full + end, 3}, {begin + end + "\n\n\n", 2},
		{begin + end[1:], 1}, {begin + "-" + end, 1}, {begin + strings.ToLower(end), 1}, {begin + part + end[:21] + " \n", 2}, {begin + full + end[:21] + "\r\n", 2}, {begin + part + end[:20] + "\n", 2}, {begin + full + "-----\n" + end, 2},
		// Empty lines, short ones that are not the last, and long ones.
		{begin + "\n" + end, 1}, {begin + full + "\n" + end, 2}, {begin + part + "\n" + end, 2}, {begin + "\n" + full + end, 1}, {begin + part + part + end, 2}, {begin + part + full + end, 2}, {begin + full + part + full + end, 3}, {begin + "AAAA\nAAAA\n" + end, 2}, {begin + full[4:] + full + end, 2}, {begin + full + full[4:] + "AAAA\n" + end, 3},
		{begin + full[:64] + "AAAA\n" + end, 1}, {begin + full + full[:64] + "AA==\n" + end, 2}, {begin + full[:64] + full + end, 1}, {begin + full[:64] + "=\n" + end, 1}, {begin + full[:64] + "====\n" + end, 1}, {begin + full[:64] + "A\n" + end, 1},
		{begin + full[:63] + "=\n" + full + end, 2}, {begin + full[:62] + "==\n" + part + end, 2}, {begin + full[:63] + "=\n\n" + end, 2},
		{begin + "A\n" + end, 1}, {begin + "AA\n" + end, 1}, {begin + "AAA\n" + end, 1}, {begin + "AAAAA\n" + end, 1}, {begin + full[1:] + end, 1}, {begin + full[2:] + end, 1}, {begin + full[3:] + end, 1}, {begin + full + full[3:] + end, 2},
		// Carriage returns, blanks and other letters.
		{strings.ReplaceAll(begin+part+end, "\n", "\r\n"), 0}, {begin + "SGk=\r\n" + end, 1}, {begin + full[:64] + "\r\n" + end, 1}, {begin + full[:63] + "\r\n" + end, 1}, {begin + "SG\rk\n" + end, 1}, {begin + "SGk\r\n" + end, 1},
		{begin + "SGk= \n" + end, 1}, {begin + " SGk=\n" + end, 1}, {begin + "SGk =\n" + end, 1}, {begin + "SG k\n" + end, 1}, {begin + "\tSGk\n" + end, 1}, {begin + full + " " + full + end, 2}, {begin + "    \n" + end, 1},
		{begin + "SGk*\n" + end, 1}, {begin + "SG-_\n" + end, 1}, {begin + "S.Gk\n" + end, 1}, {begin + "SGk\x00\n" + end, 1}, {begin + "SG\xc3\xa4\n" + end, 1}, {begin + "SGk\xff\n" + end, 1}, {begin + full + "*" + full[1:] + end, 2}, {begin + full + full[:63] + "~\n" + end, 2},
		// Fillers.
		{begin + "SG=k\n" + end, 1}, {begin + "S=Gk\n" + end, 1}, {begin + "=SGk\n" + end, 1}, {begin + "SA=A\n" + end, 1}, {begin + "S===\n" + end, 1}, {begin + "====\n" + end, 1}, {begin + "=\n" + end, 1}, {begin + "==\n" + end, 1}, {begin + "A===\n" + end, 1},
		{begin + "SGk==\n" + end, 1}, {begin + "SGkh=\n" + end, 1}, {begin + "SGkh==\n" + end, 1}, {begin + "SGkh====\n" + end, 1}, {begin + "SA=\n" + end, 1}, {begin + "SA===\n" + end, 1}, {begin + "SGk\n" + end, 1}, {begin + "SA\n" + end, 1}, {begin + "SA==SGk=\n" + end, 1}, {begin + "SGk=SGkh\n" + end, 1}, {begin + "SGk=A\n" + end, 1}, {begin + full + "====\n" + end, 2},
		// Bits behind the last byte.
		{begin + "SGl=\n" + end, 1}, {begin + "SGm=\n" + end, 1}, {begin + "SGn=\n" + end, 1}, {begin + "SB==\n" + end, 1}, {begin + "SI==\n" + end, 1}, {begin + "SP==\n" + end, 1}, {begin + "//9=\n" + end, 1}, {begin + "/x==\n" + end, 1}, {begin + full + "AB==\n" + end, 2}, {begin + full + full[:62] + "B=\n" + end, 2}, {begin + full[:61] + "B==\n" + end, 1},
	} {
		checkNotRead(t, c.text, c.line, api.ErrText)
		if want, line, errno := plainRead(c.text); want != "" || line != c.line || errno != api.ErrText {
			t.Errorf("the patterns say %x, %d, %d of %q", want, line, errno, c.text)
		}
	}
}

// baseTexts are texts whose spoiling meets every kind of line.
func baseTexts() []string {
	var out []string
	for _, n := range []int{0, 1, 2, 3, 4, 46, 47, 48, 49, 50, 51, 94, 95, 96, 97, 98} {
		out = append(out, libraryText(sample(n)))
	}
	return out
}

func TestTextsCutOff(t *testing.T) {
	for _, text := range baseTexts() {
		for cut := range text {
			checkNotRead(t, text[:cut], strings.Count(text[:cut], "\n"), api.ErrText)
			checkAsWorded(t, text[cut+1:])
		}
		checkAsWorded(t, text)
	}
}

// Each byte left out, doubled, or another one in its place, ahead of it and behind it.
func TestTextsWithOneByteSpoilt(t *testing.T) {
	texts, others := 0, 0
	for _, text := range baseTexts() {
		for at := range text {
			spoilt := []string{text[:at] + text[at+1:], text[:at+1] + text[at:]}
			for _, b := range "=A/+wQBz9-_ \n\r\t*\x00" {
				spoilt = append(spoilt, text[:at]+string(b)+text[at+1:], text[:at]+string(b)+text[at:])
			}
			spoilt = append(spoilt, text[:at]+"\xff"+text[at+1:], text[:at]+"==\n"+text[at:], text[:at]+"\n\n"+text[at:])
			for _, s := range spoilt {
				if checkAsWorded(t, s) {
					texts++
				} else {
					others++
				}
			}
		}
	}
	if texts < 1000 || others < 10000 {
		t.Errorf("%d were texts, %d were not", texts, others)
	}
}

// Lines left out, doubled, emptied, joined, and in another order.
func TestTextsWithLinesSpoilt(t *testing.T) {
	for _, text := range append(baseTexts(), libraryText(sample(48*5+2)), libraryText(sample(48*4))) {
		lines := strings.SplitAfter(text, "\n")
		lines = lines[:len(lines)-1]
		for i := range lines {
			for j := range lines {
				for _, put := range []string{"", lines[j], lines[i] + lines[j], lines[j] + lines[i], "\n", strings.TrimSuffix(lines[i], "\n"), strings.TrimSuffix(lines[i], "\n") + lines[j], " " + lines[i], lines[i] + "\n"} {
					spoilt := slices.Clone(lines)
					spoilt[i] = put
					checkAsWorded(t, strings.Join(spoilt, ""))
					spoilt[j] = lines[i]
					checkAsWorded(t, strings.Join(spoilt, ""))
				}
			}
		}
	}
}

// A line at a time of all pieces that lines are made of.
func TestTextsOfPieces(t *testing.T) {
	pieces := []string{begin, end, full, "AAAA\n", "AAA=\n", "AA==\n", "\n", "A\n", "AAAA", "x"}
	chance := rand.New(rand.NewSource(8))
	right := 0
	for range 20000 {
		text := begin
		if chance.Intn(8) == 0 {
			text = ""
		}
		for range chance.Intn(6) {
			text += pieces[chance.Intn(len(pieces))]
		}
		if chance.Intn(2) == 0 {
			text += end
		}
		if checkAsWorded(t, text) {
			right++
		}
	}
	if right < 300 {
		t.Errorf("only %d of them were texts", right)
	}
}

// Of the letters ahead of fillers, each of the 64.
func TestBitsBehindTheLastByte(t *testing.T) {
	const letters = "ABCDEFGHIJKLMNOPQRSTUVWXYZabcdefghijklmnopqrstuvwxyz0123456789+/"
	for i := range letters {
		if two := begin + "Q" + letters[i:i+1] + "==\n" + end; i%16 == 0 {
			checkRead(t, two, string([]byte{64 + byte(i/16)}))
		} else {
			checkNotRead(t, two, 1, api.ErrText)
		}
		if three := begin + full + "QQ" + letters[i:i+1] + "=\n" + end; i%4 == 0 {
			checkRead(t, three, strings.Repeat("\x00", 48)+string([]byte{65, byte(i / 4)}))
		} else {
			checkNotRead(t, three, 2, api.ErrText)
		}
	}
}

// Each of the 256 bytes in each place of four letters.
func TestLettersOfBase64(t *testing.T) {
	for b := range 256 {
		for at := range 4 {
			four := []byte("QUJD")
			four[at] = byte(b)
			checkAsWorded(t, begin+string(four)+"\n"+end)
			checkAsWorded(t, begin+full[:60]+string(four)+"\n"+end)
			checkAsWorded(t, begin+full[:60]+string(four)+"\n"+full+end)
		}
	}
}

// 20000 bytes are read; from 20001 on the size alone is told, whatever is in them.
func TestTextsOfTwentyThousand(t *testing.T) {
	checkNotRead(t, strings.Repeat("x", 20000), 0, api.ErrText)
	checkNotRead(t, strings.Repeat("x", 20001), 0, api.ErrSize)
	checkNotRead(t, strings.Repeat("\n", 20000), 0, api.ErrText)
	checkNotRead(t, strings.Repeat("\n", 20001), 0, api.ErrSize)
	whole := begin + strings.Repeat(full, 307) + end
	if len(whole) != 20001 {
		t.Fatalf("it has %d bytes", len(whole))
	}
	checkNotRead(t, whole, 0, api.ErrSize)
	checkNotRead(t, whole[:20000], 308, api.ErrText)
	checkNotRead(t, whole[1:], 0, api.ErrText)
	checkNotRead(t, whole+"\n", 0, api.ErrSize)
	checkNotRead(t, begin+strings.Repeat(full, 306)+full[1:]+end, 307, api.ErrText)
	checkNotRead(t, begin+"x\n"+whole[26:], 0, api.ErrSize)
	text := begin + "SGk=\n" + end
	checkNotRead(t, text+strings.Repeat("\n", 20000-len(text)), 3, api.ErrText)
	checkNotRead(t, text+strings.Repeat("\n", 20001-len(text)), 0, api.ErrSize)
	checkNotRead(t, text+strings.Repeat("x", 1<<20), 0, api.ErrSize)
}

// Texts of more than 12000 bytes: their size is told, if they are texts; else the line.
func TestTextsOfTooManyBytes(t *testing.T) {
	for _, n := range []int{12001, 12002, 12003, 12047, 12048, 12049, 14000, 14732, 14733} {
		text := libraryText(sample(n))
		if len(text) > 20000 {
			t.Fatalf("the text of %d bytes has %d", n, len(text))
		}
		lines := strings.Count(text, "\n")
		checkNotRead(t, text, 0, api.ErrSize)
		checkNotRead(t, text[:len(text)-1], lines-1, api.ErrText)
		checkNotRead(t, text[:len(text)-len(end)], lines-1, api.ErrText)
		checkNotRead(t, text+"\n", lines, api.ErrText)
		checkNotRead(t, text[1:], 0, api.ErrText)
		checkNotRead(t, text[:len(text)-len(end)]+" "+end, lines-1, api.ErrText)
		for _, at := range []int{len(begin), len(begin) + 65*3 + 5, len(begin) + 65*250 - 2} {
			checkNotRead(t, text[:at]+"*"+text[at+1:], strings.Count(text[:at], "\n"), api.ErrText)
		}
	}
	checkRead(t, libraryText(sample(12000)), sample(12000))
}

// P9 beside P8: what was written is read. P1: and all this hangs on the arguments alone.
func TestTextsHangOnArgumentsAlone(t *testing.T) {
	var group sync.WaitGroup
	for worker := range 8 {
		group.Go(func() {
			for i := range 60 {
				bytes := sample(i*7 + worker)
				before := strings.Clone(bytes)
				missive.Write(sample(12001))
				checkNotRead(t, begin+"SGk=\n"+"x", 2, api.ErrText)
				text, errno := missive.Write(bytes)
				if errno != api.OK || bytes != before {
					t.Errorf("P1: Write of %d bytes: %d, %x", len(bytes), errno, bytes)
				}
				told := strings.Clone(text)
				checkRead(t, text, bytes)
				checkRead(t, text, bytes)
				if text != told {
					t.Errorf("P1: a text was changed: %q", text)
				}
			}
		})
	}
	group.Wait()
}
