// Package rules has tests that look at the program itself: at its faces, and at the language it is written in.
package rules

import (
	"tenancy/api"
	"tenancy/bits"
	"tenancy/cache"
	"tenancy/client"
	"tenancy/clock"
	"tenancy/crc"
	"tenancy/desk"
	"tenancy/dir"
	"tenancy/disk"
	"tenancy/file"
	"tenancy/gauge"
	"tenancy/image"
	"tenancy/jrnl"
	"tenancy/lease"
	"tenancy/line"
	"tenancy/mark"
	"tenancy/msg"
	"tenancy/net"
	"tenancy/ops"
	"tenancy/play"
	"tenancy/report"
	"tenancy/server"
	"tenancy/sess"
	"tenancy/state"
	"tenancy/store"
	"tenancy/truth"
	"tenancy/world"
)

// These do not compile where a face is another one than its chapter's.

// Layers 1 to 4.
var (
	_ func(a, b int) int                       = clock.Add
	_ func(term, eps int) int                  = clock.Short
	_ func(term, eps int) int                  = clock.Long
	_ func(by, gain, eps int) bool             = clock.Fits
	_ func(a, b float64) int                   = gauge.Order
	_ func(l []float64) float64                = gauge.Least
	_ func(l []float64) float64                = gauge.Most
	_ func(l []float64) float64                = gauge.Sum
	_ func(l []float64) float64                = gauge.Mean
	_ func(a, b int) float64                   = gauge.Ratio
	_ func(l []float64) []float64              = gauge.Whole
	_ func(b []byte) uint16                    = crc.Sum
	_ func(b []byte, v, n int) []byte          = bits.Put
	_ func(b []byte, n int) (int, bool)        = bits.Take
	_ func(b []byte, s string) []byte          = bits.Text
	_ func(b []byte) (s string, n int, k bool) = bits.TakeText
)

// Layers 5 and 6.
var (
	_ func(n int) api.Disk                                            = disk.New
	_ func(d api.Disk, i int) (string, bool)                          = disk.Read
	_ func(d api.Disk, i int, b string) (api.Disk, bool)              = disk.Write
	_ func(d api.Disk) (api.Disk, bool)                               = disk.Flush
	_ func(d api.Disk, keep []int) api.Disk                           = disk.Crash
	_ func(d api.Disk, home int, l []api.Put) (x api.Disk, done bool) = jrnl.Commit
	_ func(d api.Disk, home int) (x api.Disk, right bool)             = jrnl.Mend
)

// Layers 7 to 9.
var (
	_ func(w api.Write) bool                                = file.May
	_ func(body string, w api.Write) string                 = file.Put
	_ func(body string, l []api.Write) string               = file.All
	_ func(name string) bool                                = dir.May
	_ func(l []api.File, name string) (int, bool)           = dir.Find
	_ func(l []api.File) (int, bool)                        = dir.Room
	_ func(n int) []api.Mark                                = mark.New
	_ func(l []api.Mark, client, seq int) (api.Mark, bool)  = mark.Is
	_ func(l []api.Mark, client int, m api.Mark) []api.Mark = mark.Put
)

// Layers 10 to 12.
var (
	_ func() api.State                                                              = state.New
	_ func(s api.State) bool                                                        = state.May
	_ func(s api.State) api.State                                                   = state.Boot
	_ func(s api.State, client, seq int, name string) (api.State, api.Mark)         = state.Open
	_ func(s api.State, client, seq, file int, l []api.Write) (api.State, api.Mark) = state.Flush
	_ func(s api.State, client, seq, file int) (api.State, api.Mark)                = state.Gone
	_ func(a, b api.State) bool                                                     = state.Same
	_ func(s api.State) []string                                                    = image.Put
	_ func(l []string) (api.State, bool)                                            = image.Take
	_ func(a, b []string) []api.Put                                                 = image.Diff
	_ func() api.Store                                                              = store.Make
	_ func(d api.Disk) (api.Store, bool)                                            = store.Open
	_ func(st api.Store, s api.State) (api.Store, bool)                             = store.Commit
)

// Layers 13 to 15.
var (
	_ func(l []api.Lease) bool                                                              = lease.May
	_ func(l []api.Lease, now, client, file int) int                                        = lease.Holds
	_ func(l []api.Lease, now, client, file, mode int) []int                                = lease.Clash
	_ func(l []api.Lease, x api.Lease) []api.Lease                                          = lease.Grant
	_ func(l []api.Lease, client, file int) []api.Lease                                     = lease.Drop
	_ func(l []api.Lease, now int) []api.Lease                                              = lease.Prune
	_ func(l []api.Wait, w api.Wait) ([]api.Wait, bool)                                     = line.Put
	_ func(l []api.Wait, client int) []api.Wait                                             = line.Drop
	_ func(l []api.Wait, client, file int) bool                                             = line.Ahead
	_ func(d api.Desk, now int, w api.Wait) (x api.Desk, ok bool, calls []int, e api.Errno) = desk.Ask
	_ func(d api.Desk, client, file int) api.Desk                                           = desk.Give
	_ func(d api.Desk, now int) (x api.Desk, let []api.Wait, calls [][2]int)                = desk.Run
)

// Layers 16 to 18.
var (
	_ func(a api.Ask) bool                                                                             = msg.MayAsk
	_ func(a api.Ask) []byte                                                                           = msg.PutAsk
	_ func(b []byte) (api.Ask, bool)                                                                   = msg.TakeAsk
	_ func(t api.Tell) bool                                                                            = msg.MayTell
	_ func(t api.Tell) []byte                                                                          = msg.PutTell
	_ func(b []byte) (api.Tell, bool)                                                                  = msg.TakeTell
	_ func(a, b api.Ask) bool                                                                          = msg.SameAsk
	_ func(epoch int, seen []int, told []api.Tell, marks []api.Mark, a api.Ask) (kind int, t api.Tell) = sess.Judge
	_ func(o api.Out, now int) bool                                                                    = sess.Due
	_ func(now int) api.Server                                                                         = server.Start
	_ func(d api.Disk, now int) (api.Server, bool)                                                     = server.Boot
	_ func(s api.Server, b []byte) (api.Server, []api.Tell)                                            = server.Comes
	_ func(s api.Server) (api.Server, []api.Tell)                                                      = server.Run
	_ func(a, b api.Server) bool                                                                       = server.Same
)

// Layers 19 and 20.
var (
	_ func(c api.Cache, now int) int                                  = cache.Valid
	_ func(c api.Cache, now int) api.Cache                            = cache.Lapse
	_ func(c api.Cache) string                                        = cache.View
	_ func(c api.Cache, mode, until, ver int, body string) api.Cache  = cache.Let
	_ func(c api.Cache, w api.Write) (api.Cache, bool)                = cache.Buffer
	_ func(c api.Cache, ver int) api.Cache                            = cache.Done
	_ func(c api.Cache) api.Cache                                     = cache.Reset
	_ func(a, b api.Cache) bool                                       = cache.Same
	_ func(id int) api.Client                                         = client.New
	_ func(c api.Client, s api.Step) (api.Client, api.Ans, []api.Ask) = client.Do
	_ func(c api.Client, b []byte) (api.Client, []api.Ask)            = client.Comes
	_ func(c api.Client) (api.Client, []api.Ask)                      = client.Run
	_ func(c api.Client) api.Client                                   = client.Crash
	_ func(a, b api.Client) bool                                      = client.Same
)

// Layers 21 to 26.
var (
	_ func(l []api.Gram, g api.Gram) []api.Gram              = net.Send
	_ func(l []api.Gram, i int) ([]api.Gram, api.Gram, bool) = net.Comes
	_ func(l []api.Gram, i int) ([]api.Gram, bool)           = net.Lost
	_ func(l []api.Gram, i int) ([]api.Gram, bool)           = net.Twice
	_ func(l []api.Gram, i, to int) ([]api.Gram, bool)       = net.Turned
	_ func() api.World                                       = world.New
	_ func(w api.World, s api.Step) (api.World, api.Ans)     = world.Do
	_ func(a, b api.World) bool                              = world.Same
	_ func(w api.World) bool                                 = truth.Fresh
	_ func(w api.World) bool                                 = truth.Alone
	_ func(w api.World) bool                                 = truth.Sound
	_ func(w api.World, client, file int) int                = truth.Left
	_ func(w api.World) api.Report                           = report.Of
	_ func(a, b api.Report) bool                             = report.Same
	_ func(l []api.Step) []byte                              = ops.Put
	_ func(b []byte) []api.Step                              = ops.Take
	_ func(l ...api.Step) (api.World, []api.Ans)             = play.Run
	_ func(b []byte) (api.World, []api.Ans)                  = play.Bytes
)
