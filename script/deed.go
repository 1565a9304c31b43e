package script

import (
	"iter"
	"strings"

	"palaver/api"
)

// field is a bit for each field of a deed but its kind; in a line, fields stand in the order of their bits.
type field uint8

const (
	fieldWho field = 1 << iota
	fieldN
	fieldText
	fieldBits
	fieldEnd // the bit behind those of the fields
)

// layout is what the line of a kind consists of.
type layout struct {
	word   string
	fields field
}

// layouts are those of the kinds.
var layouts = [api.DeedCount]layout{
	api.DeedClient:  {"client", fieldWho | fieldText},
	api.DeedTick:    {"tick", fieldWho},
	api.DeedGossip:  {"gossip", fieldWho},
	api.DeedHead:    {"head", fieldWho},
	api.DeedFail:    {"fail", fieldWho | fieldN | fieldBits},
	api.DeedDeliver: {"deliver", fieldN},
	api.DeedDrop:    {"drop", fieldN},
	api.DeedDouble:  {"double", fieldN},
	api.DeedInject:  {"inject", fieldText},
	api.DeedForge:   {"forge", fieldWho | fieldN | fieldText},
}

// Line is the line of a deed, without a line feed.
func Line(d api.Deed) (string, api.Errno) {
	if !isDeed(d) {
		return "", api.ErrForm
	}
	line := layouts[d.Kind].word
	for f := range layouts[d.Kind].fields.each() {
		line += blank + f.word(d)
	}
	return line, api.OK
}

// Parse is the deed whose line is the whole of line.
func Parse(line string) (api.Deed, api.Errno) {
	word, rest, more := strings.Cut(line, blank)
	d := api.Deed{Kind: kindOf(word)}
	if d.Kind == api.DeedNone {
		return api.Deed{}, api.ErrCode
	}
	for f := range layouts[d.Kind].fields.each() {
		// Where no word is left, the word is empty, and that tells nothing.
		word, rest, more = strings.Cut(rest, blank)
		if !f.read(word, &d) {
			return api.Deed{}, api.ErrCode
		}
	}
	if more {
		return api.Deed{}, api.ErrCode
	}
	return d, api.OK
}

// isDeed tells whether a deed has a line.
func isDeed(d api.Deed) bool {
	return api.DeedNone < d.Kind && d.Kind < api.DeedCount &&
		isNumber(int64(d.Who)) && isNumber(int64(d.N)) && len(d.Text) <= api.MaxText &&
		used(d)&^layouts[d.Kind].fields == 0
}

// used are the fields of a deed that are not zero.
func used(d api.Deed) field {
	var fields field
	if d.Who != 0 {
		fields |= fieldWho
	}
	if d.N != 0 {
		fields |= fieldN
	}
	if d.Text != "" {
		fields |= fieldText
	}
	if d.Bits != 0 {
		fields |= fieldBits
	}
	return fields
}

// kindOf is the kind with a word, or DeedNone.
func kindOf(word string) api.DeedKind {
	for kind := api.DeedClient; kind < api.DeedCount; kind++ {
		if layouts[kind].word == word {
			return kind
		}
	}
	return api.DeedNone
}

// each supplies fields one by one, in the order of their bits.
func (fields field) each() iter.Seq[field] {
	return func(yield func(field) bool) {
		for f := fieldWho; f < fieldEnd; f <<= 1 {
			if fields&f != 0 && !yield(f) {
				return
			}
		}
	}
}

// word is the word that tells a field of a deed that has a line.
func (f field) word(d api.Deed) string {
	switch f {
	case fieldWho:
		return number(int64(d.Who))
	case fieldN:
		return number(int64(d.N))
	case fieldText:
		return digits(d.Text)
	}
	return number(int64(d.Bits))
}

// read puts what a word tells into a field of a deed; false says that it tells nothing that may stand there.
func (f field) read(word string, d *api.Deed) bool {
	if f == fieldText {
		text, is := parseDigits(word)
		d.Text = text
		return is
	}
	n, is := parseNumber(word)
	switch f {
	case fieldWho:
		d.Who = int(n)
	case fieldN:
		d.N = int(n)
	case fieldBits:
		d.Bits = byte(n)
		return is && n == int64(d.Bits)
	}
	return is
}
