package store

import (
	"bytes"

	"rime/api"
)

// noFuse stands where there is no fuse.
const noFuse = -1

// Disk has one file. Of it a beginning is synced: a crash takes away nothing of that, but what it likes of the tail behind it.
type Disk struct {
	made   bool
	file   []byte
	synced int
	fuse   int // how many calls are still done
	off    bool
}

// NewDisk: an empty one.
func NewDisk() *Disk { return &Disk{made: true, fuse: noFuse} }

// Append: bytes behind the file.
func (d *Disk) Append(b []byte) api.Errno {
	if errno := d.ask(); errno != api.OK {
		return errno
	}
	d.file = append(d.file, b...)
	return api.OK
}

// Sync: all is synced.
func (d *Disk) Sync() api.Errno {
	if errno := d.ask(); errno != api.OK {
		return errno
	}
	d.synced = len(d.file)
	return api.OK
}

// Replace: the file is these bytes.
func (d *Disk) Replace(b []byte) api.Errno {
	if errno := d.ask(); errno != api.OK {
		return errno
	}
	d.file = bytes.Clone(b)
	d.synced = len(b)
	return api.OK
}

// ask the fuse whether a call is done: OK, or why not.
func (d *Disk) ask() api.Errno {
	switch {
	case !d.isMade():
		return api.ErrMade
	case d.off || d.fuse == 0:
		d.off = true
		return api.ErrDown
	case d.fuse > 0:
		d.fuse--
	}
	return api.OK
}

func (d *Disk) isMade() bool { return d != nil && d.made }

// Bytes: the file.
func (d *Disk) Bytes() []byte {
	if d == nil {
		return nil
	}
	return bytes.Clone(d.file)
}

// Synced: how many of its bytes are synced.
func (d *Disk) Synced() int {
	if d == nil {
		return 0
	}
	return d.synced
}

// Fuse: behind so many calls the disk goes off.
func (d *Disk) Fuse(n int) {
	if d.isMade() {
		d.fuse = max(n, noFuse)
	}
}

// Crash: of the tail so many bytes stay.
func (d *Disk) Crash(keep int) {
	if !d.isMade() {
		return
	}
	tail := len(d.file) - d.synced
	d.synced += min(max(keep, 0), tail)
	d.file = d.file[:d.synced]
	d.fuse = noFuse
	d.off = false
}

// Off: is it off?
func (d *Disk) Off() bool { return d != nil && d.off }
