import Derived.Laws.BytesArg
import Derived.Test.YtcdbcliaepcpfaaGreatDoorTurn
namespace Go.Proofs.YtcdbcliaepcpfaaGreatDoor
open Go.RowKit
structure aT (S:Nat->Prop)(w w':World):Prop where
 os:w'.os=w.os
 tape:w'.tape=w.tape
 output:w'.output=w.output
 size:w.heap.size<=w'.heap.size
 block:∀k,k<w.heap.size->¬S k->w'.heap[k]?=w.heap[k]?
theorem aT.refl (S:Nat->Prop)(w:World):aT S w w:=⟨rfl,rfl,rfl,nlq _,λ_ _ _=>rfl⟩
theorem aT.trans {S:Nat->Prop}{a b c:World}(h:aT S a b)(g:aT S b c):aT S a c:=⟨g.os.trans h.os,g.tape.trans h.tape,g.output.trans h.output,Nat.le_trans h.size g.size,λk d e=>(g.block k (Nat.lt_of_lt_of_le d h.size) e).trans (h.block k d e)⟩
theorem aT.below {S:Nat->Prop}{w w':World}(h:aF w w'):aT S w w':=⟨h.os,h.tape,h.output,h.size,λk a _=>h.block k a⟩
theorem aT.set {S:Nat->Prop}{a w:World}(h:aT S a w){g:Nat}(b:S g)(o:Nat)(u:Value):aT S a (w.setCell ⟨g,o,none⟩ u):=
 h.trans ⟨rfl,rfl,rfl,by show w.heap.size<=(w.heap.modify _ _).size;rw[Array.size_modify];exact nlq _,λk _ c=>Below.heap_setCell w ⟨g,o,none⟩ u k (λe=>c (by rw[show k=g from e];exact b))⟩
theorem aT.under {S:Nat->Prop}{B:Nat}{a w w':World}(h:aT S w w')(b:Below B a w)(c:B<=a.heap.size)(d:∀k,S k->B<=k):Below B a w':=
 b.trans ⟨h.os,h.tape,h.output,h.size,λk e=>h.block k (Nat.lt_of_lt_of_le e (Nat.le_trans c b.size)) (λf=>by have:=d k f;omega)⟩
theorem aT.cell {S:Nat->Prop}{w w':World}(h:aT S w w'){p:Addr}{v:Value}(b:¬S p.block)(a:w.cell? p=some v):w'.cell? p=some v:=by
 have:=h.block p.block (aA a) b;unfold World.cell? at a ⊢;rw[this];exact a
end Go.Proofs.YtcdbcliaepcpfaaGreatDoor
