import Derived.Test.YtaokdhebbnkheaaPlain
namespace Go.Proofs.Ytaokdhebbnkheaa
open Go.RowKit
structure Hx where
  n : ByteArray
  ta : Option Addr
  tl : List Bx
  tc : Nat
  na : Option Addr
  nl : List Bx
  nc : Nat
end Go.Proofs.Ytaokdhebbnkheaa
