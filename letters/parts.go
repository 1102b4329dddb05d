package letters

import "missive/api"

// A reading is a letter that has been read up to a place.
type reading struct {
	letter string
	at     int
}

// partsOf takes a letter apart, or gives up.
func partsOf(letter string) parts {
	insist(len(letter) <= api.MaxLetter, api.ErrForm)
	r := &reading{letter: letter}
	insist(r.next(len(mark)) == mark, api.ErrForm)
	var p parts
	p.point = r.next(api.KeySize)
	p.shares = r.shares()
	p.sender = r.next(api.KeySize)
	size := r.count()
	p.title = r.soFar()
	p.closed = r.next(size + api.TagSize)
	p.signed = r.soFar()
	p.signature = r.next(api.SignSize)
	insist(r.at == len(letter), api.ErrForm)
	return p
}

// next reads n bytes.
func (r *reading) next(n int) string {
	insist(n <= len(r.letter)-r.at, api.ErrForm)
	from := r.at
	r.at += n
	return r.letter[from:r.at]
}

// soFar is all that has been read.
func (r *reading) soFar() string { return r.letter[:r.at] }

// shares reads how many readers there are, and the share of each.
func (r *reading) shares() []string {
	readers := int(r.next(1)[0])
	insist(readers >= 1 && readers <= api.MaxReaders, api.ErrForm)
	shares := make([]string, readers)
	for i := range shares {
		shares[i] = r.next(shareSize)
	}
	return shares
}

// count reads how many bytes the data has.
func (r *reading) count() int {
	var n uint32
	for i, b := range []byte(r.next(countSize)) {
		n |= uint32(b) << (8 * i)
	}
	// Asked while it is a number of 32 bits, for an int may not hold it.
	insist(n <= api.MaxData, api.ErrForm)
	return int(n)
}
