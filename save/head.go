package save

import (
	"iter"
	"strconv"
	"strings"

	"penstock/api"
	"penstock/disk"
)

// mark of a disk that is formatted.
const mark = "penstock "

// head of a disk, in its first sector: in which half of the others the text is (0, 1), and how many bytes it has. A
// sector is kept or lost as a whole, and so is the head.
type head struct{ half, size int }

// room of a half, in sectors.
func room(d *disk.Disk) int { return (d.Sectors() - 2) / 2 }

// begin of a head's text: all but the size.
func (h head) begin() string { return mark + strconv.Itoa(h.half) + " " }

// sector in which the text's bytes are, from one on.
func (h head) sector(d *disk.Disk, from int) int { return 1 + h.half*room(d) + from/api.Sector }

// write a head, for good.
func (h head) write(d *disk.Disk) error {
	if err := d.Write(0, h.begin()+strconv.Itoa(h.size)); err != nil {
		return err
	}
	return d.Flush()
}

// readHead of a disk that is formatted.
func readHead(d *disk.Disk) (head, error) {
	data, err := d.Read(0)
	if err != nil {
		return head{}, err
	}
	text := strings.TrimRight(data, "\x00")
	for half := range 2 {
		h := head{half: half}
		digits, is := strings.CutPrefix(text, h.begin())
		if !is {
			continue
		}
		if h.size, err = strconv.Atoi(digits); err == nil && 0 <= h.size && h.size <= room(d)*api.Sector {
			return h, nil
		}
	}
	return head{}, api.ErrText
}

// pieces of a text, one a sector, and from which byte on each is.
func pieces(s string) iter.Seq2[int, string] {
	return func(yield func(int, string) bool) {
		for from := 0; from < len(s); from += api.Sector {
			if !yield(from, s[from:min(from+api.Sector, len(s))]) {
				return
			}
		}
	}
}
