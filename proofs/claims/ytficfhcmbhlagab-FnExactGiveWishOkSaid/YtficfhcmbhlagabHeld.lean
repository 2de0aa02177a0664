import Derived.Test.YtficfhcmbhlagabPlain
namespace Go.Proofs.Ytficfhcmbhlagab
open Go.RowKit
structure Hx where
  n : ByteArray
  ta : Option Addr
  tl : List Bx
  tc : Nat
  na : Option Addr
  nl : List Bx
  nc : Nat
abbrev Hx.val (h : Hx) : Value := .agg #[.string h.n, .slice h.ta h.tl.length h.tc, .slice h.na h.nl.length h.nc]
def Hx.cells (h : Hx) : List Value := [.string h.n, .slice h.ta h.tl.length h.tc, .slice h.na h.nl.length h.nc]
set_option maxRecDepth 100000 in
theorem Hx.cells_length (h : Hx) : h.cells.length = 3 := rfl
def Hx.In (w : World) (h : Hx) : Prop := Bxs w h.ta h.tl ∧ Bxs w h.na h.nl
set_option maxRecDepth 100000 in
theorem Hx.In.later {w w' : World} {h : Hx} (hi : h.In w) (hb : Below w.heap.size w w') : h.In w' := ⟨hi.1.later hb, hi.2.later hb⟩
set_option maxRecDepth 100000 in
theorem hx_at {w : World} {bl o : Nat} {h : Hx} (hh : CellsAt w bl o h.cells) : w.cell? ⟨bl, o, none⟩ = some (.string h.n) ∧ w.cell? ⟨bl, o + 1, none⟩ = some (.slice h.ta h.tl.length h.tc) ∧ w.cell? ⟨bl, o + 2, none⟩ = some (.slice h.na h.nl.length h.nc) :=
  ⟨hh 0 _ rfl, hh 1 _ rfl, hh 2 _ rfl⟩
end Go.Proofs.Ytficfhcmbhlagab
