import Derived.Laws.Cover1
import Derived.Test.YtoolgmmljacfmaaGreatDoorYb
set_option maxRecDepth 100000
set_option maxHeartbeats 2000000
open List renaming length → ln
open Go.RowKit
namespace Go.Proofs.YtoolgmmljacfmaaGreatDoor
open Go.BigFrame
theorem MK (f:Fx)(p:Nat)(nm:Ba)(w:Wd)(b:w.cell? (Y p 0)=some (.string nm)):
 aW 72 #[f.val,E p 0] w λe w'=>e=rt (.bool (!(gE f.n nm)))/\aG w w':=by
 have a:aG w (w.alloc (fo f)):=aC (br _ _) _;have k0:(w.alloc (fo f)).cell? (ya w 0)=some (.string f.n):=aB (wnq w _) rfl;have k1:=ctq a b;have c:Hid _:=a;clear a b;go_enter Tryz.func72,Tryz.ntmps72;go_wp2;go_ret;exact⟨rfl,c.oQ⟩
theorem VH (l:List Fx)(z:Oa)(s p:Nat)(nm:Ba)(w:Wd)(F:Xs 3 Fx.cells w z l)(hn:ln l<=64)(G:w.cell? (Y p 0)=some (.string nm)):
 aW 71 #[.slice z (ln l) s,.func (.func 72) #[] #[E p 0]] w λe w'=>((qC l nm<ln l/\e=rt (I (qC l nm)))∨(qC l nm=ln l/\e=rt (I (-1))))/\aG w w':=by
 go_enter Tryz.func71,Tryz.ntmps71
 go_wp2
 go_loopw [8] (λu wr=>∃k:Nat,k<=ln l/\u=I k/\Hid (∀j (h:j<ln l),j<k->gE l[j].n nm=true)/\aG w wr) (λu _=>ln l-(intOf u).toNat)
 case atStart=>exact⟨0,nz _,rfl,λj h A=>absurd A om,br _ _⟩
 case round=>
  obtain⟨k,hk,rfl,q,o⟩:=hrel
  by_cases a:k<ln l
  ·have i:(k:Int)<(ln l:Int):=om
   rcases F.zL o with h|⟨g,c,t,b⟩
   ·rw[h]at a;simp at a
   subst t;have B:wr.cell? (Y g (c+k*3))=some (.string l[k].n):=b k a 0 _ rfl;have C:wr.cell? (Y g (c+k*3+1))=some (I l[k].x):=b k a 1 _ rfl;have D:wr.cell? (Y g (c+k*3+2))=some (I l[k].y):=b k a 2 _ rfl;have m:=ctq o G;obtain⟨x,hx⟩:=bQ (l[k]);rw[←hx]at B C D;have v:=aI hx;clear hx b;go_wp2_with fail
   refine(MK x p nm wr m).mono ?_;rintro e w2 ⟨rfl,f⟩;have d:=aI (aE o f);clear f B C D m
   cases hq:gE x.n nm with
   |true=>
    have r:Hid (∀j (h:j<ln l),j<k+1->gE l[j].n nm=true):=λj h A=>by
     by_cases e:j=k
     ·subst e;rw[←v.oQ];exact hq
     ·exact q.oQ j h om
    clear hq;go_wp2
    go_roundw
    case rel=>exact⟨k+1,om,gn,r,d.oQ⟩
    case measure=>simp[intOf];omega
   |false=>
    have HP:Hid (qC l nm=k):=AB om q.oQ (λh=>by rw[←v.oQ];exact hq);clear hq;go_wp2
    go_ret;exact⟨.inl ⟨by rw[HP.oQ];exact a,by rw[HP.oQ];rfl⟩,d.oQ⟩
  ·have i:¬(k:Int)<(ln l:Int):=om
   have HP:Hid (qC l nm=ln l):=AB (nlq _) (λj h _=>q.oQ j h om) (λh=>absurd h om);go_wp2
   go_ret;exact⟨.inr ⟨HP.oQ,rfl⟩,o⟩
