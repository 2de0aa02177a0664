import Derived.Test.YtoolgmmljacfmaaGreatDoorRd
import Derived.Test.YtoolgmmljacfmaaGreatDoorLeast
open List renaming length → ln
open Go.RowKit
namespace Go.Proofs.YtoolgmmljacfmaaGreatDoor
structure Ev where
 k:Int
 n:ByteArray
 t:Bool
 x:Wx
 ta:Option Addr
 tl:List Bx
 tc:Nat
abbrev Ev.val (v:Ev):Value:=.agg #[I v.k,.string v.n,.bool v.t,.string v.x.n,I v.x.q,I v.x.s,I v.x.f,I v.x.b,I v.x.l,.slice v.x.wa v.x.wl.length v.x.wc,.slice v.x.la v.x.ll.length v.x.lc,.slice v.ta v.tl.length v.tc]
abbrev Ev.obj (v:Ev):Obj:=.cells #[I v.k,.string v.n,.bool v.t,.string v.x.n,I v.x.q,I v.x.s,I v.x.f,I v.x.b,I v.x.l,.slice v.x.wa v.x.wl.length v.x.wc,.slice v.x.la v.x.ll.length v.x.lc,.slice v.ta v.tl.length v.tc] 43
def D2:Wx:=⟨⟨#[]⟩,0,0,0,0,0,none,[],0,none,[],0⟩
open Go.BigFrame
variable {W:Wd}{P t n:Nat}{f:Nat → Va}
def J1 (W:World)(P:Nat):Nat->List Value->Prop
 |_,[]=>True
 |k,v::r=>W.cell? (Y P k)=some v/\J1 W P (k+1) r
def OR (P:Nat)(R:World->Prop):World->Nat->List Value->Prop
 |W,_,[]=>∃W',W=W'/\R W'
 |W,k,v::r=>(∃u,W.cell? (Y P k)=some u)/\(∀i,W.frozen? (Y P i)=false)/\OR P R (W.setCell (Y P k) v) (k+1) r
theorem RG (Z:W.rowIs P t n f):∀(r:List Va) (k:Nat),k+ln r<=n->(∀i (h:i<ln r),f (k+i)=r[i])->J1 W P k r
 |[],_,_,_=>trivial
 |v::r,k,h,hf=>⟨(Z.cell (by simp at h;omega)).trans (by have:=hf 0 sm;simpa using this),RG Z r (k+1) (by simp at h ⊢;omega) (λi hi=>by
  have:=hf (i+1) so;rw[show k+1+i=k+(i+1)from by omega];simpa using this)⟩
theorem QW {W0:Wd}:∀(r a:List Va) (W:Wd) (f:Nat->Va),W.rowIs P t n f->(∀i (h:i<ln a),f i=a[i])->ln a+ln r<=n->Below P W0 W->(∀k,k≠P->W.heap[k]?=W0.heap[k]?)->OR P (λc=>J1 c P 0 (a++r)/\Below P W0 c/\∀k,k≠P->c.heap[k]?=W0.heap[k]?) W (ln a) r
 |[],a,W,f,Z,hf,hn,hB,hK=>⟨W,rfl,RG Z _ 0 (by simpa using hn) (λi b=>by
  rw[List.append_nil]at b;simpa using hf i b),hB,hK⟩
 |v::r,a,W,f,Z,hf,hn,hB,hK=>⟨⟨_,Z.cell (by simp at hn;omega)⟩,λi=>Z.frozen i,by
  have:=QW r (a++[v]) _ _ (Z.set (ln a) v) (λi b=>by
   by_cases e:i=ln a;·subst e;simp
   ·have d:i<ln a:=by simp at b;omega
    rw[if_neg e,hf i d,List.getElem_append_left d]) (by simp at hn ⊢;omega) (hB.setCell (p:=(Y P _)) (nlq _) _) (λk g=>(bhs _ _ _ _ g).trans (hK k g))
  simpa using this⟩
theorem wA (Z:W.rowIs P t n f)(r:List Va)(h:ln r<=n):OR P (λa=>J1 a P 0 r/\Below P W a/\∀k,k≠P->a.heap[k]?=W.heap[k]?) W 0 r:=by
 have:=QW (W0:=W) r [] W f Z (λi h=>absurd h sm) (by simpa using h) (br _ _) (λ_ _=>rfl);simpa using this
