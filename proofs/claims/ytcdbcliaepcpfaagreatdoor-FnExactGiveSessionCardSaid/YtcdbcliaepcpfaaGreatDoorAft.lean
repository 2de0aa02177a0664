import Derived.BigQuiet
import Derived.Test.YtcdbcliaepcpfaaGreatDoorSq
namespace Go.Proofs.YtcdbcliaepcpfaaGreatDoor
set_option maxRecDepth 100000
open Go.RowKit
structure cO (W:World) where
 w:World
 h:aF W w
theorem cO.call {P:Program}{f:FuncId}{args:Array Value}{W:World}{v:Value}(s:cO W)
 (h:Calls P f args s.w λe w'=>e=.returned v/\Below s.w.heap.size s.w w'):Calls P f args s.w λe a=>e=.returned v/\∃d:cO W,a=d.w:=
 h.mono λ_ w' ⟨c,b⟩=>⟨c,⟨w',aC s.h b⟩,rfl⟩
theorem cO.same {P:Program}{f:FuncId}{args:Array Value}{W:World}{v:Value}(s:cO W)
 (h:Calls P f args s.w λe w'=>e=.returned v/\w'=s.w):Calls P f args s.w λe a=>e=.returned v/\∃d:cO W,a=d.w:=
 h.mono λ_ _ ⟨c,b⟩=>⟨c,s,b⟩
theorem bC {P:Program} {id:Nat} {Q:Exit->Act->World->Prop} {a:Act} {w:World} {l:List Oper} (d:P.follows .mixedOrders=true) (c:Region.lexB .any l.toArray=true)
 (h:wpQuiet P l.toArray (λw'=>∃s:cO w,w'=s.w) (λb=>∀w',(∃s:cO w,w'=s.w)->Q .normal b w') l a):(Code.region id l.toArray true).wp P Q a w:=
 wp_region_quiet (C:=λw'=>∃s:cO w,w'=s.w) d c ⟨⟨w.drew,(br _ _).drew⟩,rfl⟩ (by simpa using h)
theorem cO.cell {W:World}{a:Addr}{v:Value}(h:W.cell? a=some v)(s:cO W):s.w.cell? a=some v:=(s.h.cell (aA h)).trans h
end Go.Proofs.YtcdbcliaepcpfaaGreatDoor
