import Derived.Laws.Cover1
import Derived.Test.YtcdbcliaepcpfaaGreatDoorYb
namespace Go.Proofs.YtcdbcliaepcpfaaGreatDoor
set_option maxRecDepth 100000
set_option maxHeartbeats 2000000
open Go.RowKit Go.BigFrame
theorem G6 (f:Fx)(p:Nat)(nm:ByteArray)(w:World)(b:w.cell? ⟨p,0,none⟩=some (.string nm)):
 aY 55 #[f.val,.pointer (some ⟨p,0,none⟩)] w λe w'=>e=.returned (.bool (!(fY f.n nm)))/\aF w w':=by
 have a:aF w (w.alloc (.cells #[.string f.n,.int .i64 f.x,.int .i64 f.y] 74)):=aB (br _ _) _;have k0:(w.alloc (.cells #[.string f.n,.int .i64 f.x,.int .i64 f.y] 74)).cell? ⟨w.heap.size,0,none⟩=some (.string f.n):=aJ (wnq w _) rfl;have k1:=(a.cell (aA b)).trans b;have c:Hid _:=a;clear a b;go_enter Tryz.func55,Tryz.ntmps55;go_wp2;go_ret;exact⟨rfl,c.oQ⟩
theorem QW (l:List Fx)(z:Option Addr)(s p:Nat)(nm:ByteArray)(w:World)(F:Xs 3 Fx.cells w z l)(hn:l.length<=64)(B:w.cell? ⟨p,0,none⟩=some (.string nm)):
 aY 54 #[.slice z l.length s,.func (.func 55) #[] #[.pointer (some ⟨p,0,none⟩)]] w λe w'=>((oJ l nm<l.length/\e=.returned (.int .i64 (oJ l nm)))∨(oJ l nm=l.length/\e=.returned (.int .i64 (-1))))/\aF w w':=by
 go_enter Tryz.func54,Tryz.ntmps54
 go_wp2
 go_loopw [8] (λu wr=>∃k:Nat,k<=l.length/\u=.int .i64 k/\Hid (∀j (h:j<l.length),j<k->fY l[j].n nm=true)/\aF w wr) (λu _=>l.length-(intOf u).toNat)
 case atStart=>exact⟨0,nz _,rfl,λj h A=>absurd A (by omega),br _ _⟩
 case round=>
  obtain⟨k,hk,rfl,q,o⟩:=hrel
  by_cases a:k<l.length
  ·have i:(k:Int)<(l.length:Int):=by omega
   rcases F.zL o with h|⟨g,c,t,b⟩
   ·rw[h]at a;simp at a
   subst t;have C:wr.cell? ⟨g,c+k*3,none⟩=some (.string l[k].n):=b k a 0 _ rfl;have D:wr.cell? ⟨g,c+k*3+1,none⟩=some (.int .i64 l[k].x):=b k a 1 _ rfl;have E:wr.cell? ⟨g,c+k*3+2,none⟩=some (.int .i64 l[k].y):=b k a 2 _ rfl;have m:=(o.cell (aA B)).trans B;obtain⟨x,hx⟩:=bP (l[k]);rw[←hx]at C D E;have v:=aG hx;clear hx b;go_wp2_with fail
   refine(G6 x p nm wr m).mono ?_;rintro e w2 ⟨rfl,f⟩;have d:=aG (aC o f);clear f C D E m
   cases hq:fY x.n nm with
   |true=>
    have r:Hid (∀j (h:j<l.length),j<k+1->fY l[j].n nm=true):=λj h A=>by
     by_cases e:j=k
     ·subst e;rw[←v.oQ];exact hq
     ·exact q.oQ j h (by omega)
    clear hq;go_wp2
    go_roundw
    case rel=>exact⟨k+1,by omega,by go_num,r,d.oQ⟩
    case measure=>simp[intOf];omega
   |false=>
    have HP:Hid (oJ l nm=k):=yN (by omega) q.oQ (λh=>by rw[←v.oQ];exact hq);clear hq;go_wp2
    go_ret;exact⟨.inl ⟨by rw[HP.oQ];exact a,by rw[HP.oQ];rfl⟩,d.oQ⟩
  ·have i:¬(k:Int)<(l.length:Int):=by omega
   have HP:Hid (oJ l nm=l.length):=yN (nlq _) (λj h _=>q.oQ j h (by omega)) (λh=>absurd h (by omega));go_wp2
   go_ret;exact⟨.inr ⟨HP.oQ,rfl⟩,o⟩
end Go.Proofs.YtcdbcliaepcpfaaGreatDoor
