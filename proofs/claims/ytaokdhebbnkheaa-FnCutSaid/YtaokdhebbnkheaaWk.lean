import Derived.Test.YtaokdhebbnkheaaWi
import Derived.Test.YtaokdhebbnkheaaAft
import Derived.Test.YtaokdhebbnkheaaSm0
namespace Go.Proofs.Ytaokdhebbnkheaa
open Go.RowKit
abbrev Wx.obj (x : Wx) : Obj := .cells #[.string x.n, .int .i64 x.q, .int .i64 x.s, .int .i64 x.f, .int .i64 x.b, .int .i64 x.l, .slice x.wa x.wl.length x.wc, .slice x.la x.ll.length x.lc] 59
end Go.Proofs.Ytaokdhebbnkheaa
