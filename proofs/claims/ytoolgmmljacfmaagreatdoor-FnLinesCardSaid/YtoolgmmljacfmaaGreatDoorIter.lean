import Derived.RangeFuncNested
import Derived.RangeFuncBound
import Derived.RangeFuncCalls
import Derived.RangeFuncLeaves
import Derived.Shelf.Abstract
import Derived.Shelf.RegionOpen
import Derived.TacticsInMore
import Derived.LoopNIn
import Derived.LoopIn
import Derived.Test.YtoolgmmljacfmaaGreatDoorTail
import Derived.Test.YtoolgmmljacfmaaGreatDoorLeaf
set_option maxRecDepth 100000
set_option maxHeartbeats 2000000
open List renaming length → ln
open Go.Proofs.Tryz Go.RowKit
namespace Go.Proofs.YtoolgmmljacfmaaGreatDoor
open Go.Shelf
attribute [local go_sem] Oper.semAt_some
variable {l:List Bx}{w w':Wd}{d o B:Nat}{b:Bx}
def cS {α:Type}(f:Nat->α)(k:Nat):List α:=(List.range k).map f
theorem eQ {α:Type}(f:Nat->α)(k:Nat):cS f (k+1)=cS f k++[f k]:=by simp[cS,List.range_succ]
theorem eT {α:Type}(f:Nat->α)(k:Nat):ln (cS f k)=k:=by simp[cS]
def okBx:Bx:=⟨0,0,0,0,0,0⟩
def mV (l:List Bx)(j:Nat):Bx:=l[j]?.getD okBx
theorem gM (l:List Bx)(j:Nat)(h:j<ln l):mV l j=l[j]:=by simp[mV,h]
theorem tD (h:l.all aK=true)(j:Nat):aK (mV l j)=true:=by
 by_cases a:j<ln l;·rw[gM l j a];exact lat.1 h _ (lgm a)
 ·simp[mV,Nat.le_of_not_lt a];decide
abbrev P2:={ p:Bx×Bx//aK p.1=true/\aK p.2=true}
def lO (l:List Bx)(h:l.all aK=true)(j:Nat):P2:=⟨(mV l j,mV l (j+1)),tD h j,tD h (j+1)⟩
theorem pI (W:Wd):W.grownBy W.drew none:=⟨rfl,rfl,rfl,nlq _,λ_ _ _=>rfl⟩
theorem r9 (h:fX w d o b)(a:Below B w w')(c:d<B):fX w' d o b:=by
 obtain⟨e,f,g,i,j,k⟩:=h;exact⟨(a.cell (by exact c)).trans e,(a.cell (by exact c)).trans f,(a.cell (by exact c)).trans g,(a.cell (by exact c)).trans i,(a.cell (by exact c)).trans j,(a.cell (by exact c)).trans k⟩
theorem XD (n:Nat) (X D c s m H:Nat) (l:List Bx) (g:l.all aK=true) (P:1<=ln l) (hlen:ln l<=1048576) (V:s<c) (K:D<c)
 (J Q:List P2->Wd->Prop) (W:Wd) (u:AbidesFrom W.heap.size J)
 (U:∀d (x:P2) W,J d W->ln d<ln l-1->YieldAt Fence.wide (n-1) Tryz.prog X #[x.1.1.val,x.1.2.val] W λe q=>
  (e=rt (.bool true)/\J (d++[x]) q/\Below c W q)∨(e=rt (.bool false)/\Q (d++[x]) q))
 (t:W.cell? (Y D 0)=some (.slice (some (Y s m)) (ln l) H)) (M:∀j (h:j<ln l),fX W s (m+j*6) l[j]) (R:J [] W):
 CallsIn Fence.wide n Tryz.prog 285 #[.func (.yield X) #[] #[],E D 0] W λe q=>(∃v,e=rt v)/\
  ((∃Z,Z=cS (lO l g) (ln l-1)/\J Z q)∨(∃d,(∃k,k<=ln l-1/\d=cS (lO l g) k)/\Q d q)):=by
 refine cow Tryz.func285 rfl trivial ?_ rfl;simp only[Tryz.ntmps285,lsz,llc,lln,Nat.reduceAdd,Nat.reduceSub,ars,arz,lpt,lap,lna,lca];gi_wp2
 gi_loopw [3] (λi wr=>∃k:Nat,k+1<=ln l/\i=I ((k:Int)+1)/\J (cS (lO l g) k) wr/\Below c W wr)
  (λi _=>ln l-(intOf i).toNat)
 case atStart=>exact⟨0,P,rfl,R,br _ _⟩
 case round=>
  obtain⟨k,hk,rfl,o,f⟩:=hrel;have hcb:=(f.cell (p:=(Y D 0)) K).trans t
  by_cases B:k+1<ln l
  ·have w:J (cS (lO l g) k) wr.drew:=u _ _ _ none o (pI wr) (λr e=>by cases e)
   obtain⟨fn,tmps,assign,body,C,S⟩:=U _ (lO l g k) wr.drew w (by rw[eT];omega)
   dsimp only[lO]at C
   have T:Below c wr wr.drew:=(br _ _).drew;have z:fX wr s (m+k*6) (mV l k):=by rw[gM l k om];exact r9 (M k om) f V
   have A:fX wr s (m+(k+1)*6) (mV l (k+1)):=by rw[gM l (k+1) B];exact r9 (M (k+1) B) f V
   generalize mV l k=a at C z;generalize mV l (k+1)=b at C A;obtain⟨c0,c1,c2,c3,c4,c5⟩:=z;obtain⟨d0,d1,d2,d3,d4,d5⟩:=A;have hi0:(0:Int)<=(k:Int):=om
   have hi1:(k:Int)<(ln l:Int):=om
   have hi2:(k:Int)+1<(ln l:Int):=om
   have hi3:(0:Int)<=(k:Int)+1:=om
   have F:=aI (f.trans T);have G:=S;clear S M t R o w f T U u;gi_wp2_with fail
   refine jX 10 kr kr ?_;simp only[lts,List.take_zero,lds,ldz]
   repeat (go_big_quiet_step (fail))
   refine wpQuiet_nil ?_;clear c0 c1 c2 c3 c4 c5 d0 d1 d2 d3 d4 d5;gi_wp2_with fail
   refine⟨λh=>(by cases h),?_⟩;refine RoundIn.mono G ?_;rintro e W3 (⟨rfl,L,N⟩|⟨rfl,y⟩)
   ·clear G C
    gi_wp2
    go_roundw
    case rel=>exact⟨k+1,om,gn,by rw[eQ];exact L,F.oQ.trans N⟩
    case measure=>simp[intOf];omega
   ·clear G C
    gi_wp2;refine bpr (results_none rfl _ _ _) rfl ?_;exact⟨⟨_,rfl⟩,.inr ⟨_,⟨k+1,om,(eQ _ _).symm⟩,y⟩⟩
  ·have O:k=ln l-1:=om
   gi_wp2
   go_end0
   exact⟨⟨_,rfl⟩,.inl ⟨_,rfl,by rw[←O];exact o⟩⟩
variable {a:Nat}{c:List Va}
def gB (l:List Hx)(j:Nat):Hx:=l[j]?.getD ⟨ByteArray.empty,none,[],0,none,[],0⟩
theorem dB (l:List Hx)(j:Nat)(h:j<ln l):gB l j=l[j]:=by simp[gB,h]
def mB (l:List Hx)(j:Nat):Hx×Hx:=(gB l j,gB l (j+1))
theorem gS (h:bC w a o c)(b:Below B w w')(e:a<B):bC w' a o c:=λj v d=>(b.cell (p:=(Y a (o+j))) e).trans (h j v d)
theorem PJ (n:Nat) (V C c t g G:Nat) (l:List Hx) (O:1<=ln l) (hlen:ln l<=1048576) (U:t<c) (H:C<c)
 (J P:List (Hx×Hx)->Wd->Prop) (W:Wd) (w:AbidesFrom W.heap.size J)
 (T:∀d (x:Hx×Hx) W,J d W->ln d<ln l-1->YieldAt Fence.wide (n-1) prog V #[x.1.val,x.2.val] W λe s=>
  (e=rt (.bool true)/\J (d++[x]) s/\Below c W s)∨(e=rt (.bool false)/\P (d++[x]) s))
 (u:W.cell? (Y C 0)=some (.slice (some (Y t g)) (ln l) G)) (L:∀j (h:j<ln l),bC W t (g+j*3) l[j].cells) (Q:J [] W):
 CallsIn Fence.wide n prog 243 #[.func (.yield V) #[] #[],E C 0] W λe s=>(∃v,e=rt v)/\
  ((∃X,X=cS (mB l) (ln l-1)/\J X s)∨(∃d,(∃k,k<=ln l-1/\d=cS (mB l) k)/\P d s)):=by
 refine cow func243 rfl trivial ?_ rfl;simp only[ntmps243,lsz,llc,lln,Nat.reduceAdd,Nat.reduceSub,ars,arz,lpt,lap,lna,lca];gi_wp2
 gi_loopw [3] (λi wr=>∃k:Nat,k+1<=ln l/\i=I ((k:Int)+1)/\J (cS (mB l) k) wr/\Below c W wr)
  (λi _=>ln l-(intOf i).toNat)
 case atStart=>exact⟨0,O,rfl,Q,br _ _⟩
 case round=>
  obtain⟨k,hk,rfl,m,f⟩:=hrel;have hcb:=(f.cell (p:=(Y C 0)) H).trans u
  by_cases A:k+1<ln l
  ·have y:J (cS (mB l) k) wr.drew:=w _ _ _ none m (pI wr) (λr e=>by cases e)
   obtain⟨fn,tmps,assign,body,B,R⟩:=T _ (mB l k) wr.drew y (by rw[eT];omega)
   dsimp only[mB]at B
   have S:Below c wr wr.drew:=(br _ _).drew;have o:bC wr t (g+k*3) (gB l k).cells:=by rw[dB l k om];exact gS (L k om) f U
   have q:bC wr t (g+(k+1)*3) (gB l (k+1)).cells:=by rw[dB l (k+1) A];exact gS (L (k+1) A) f U
   generalize gB l k=a at B o;generalize gB l (k+1)=b at B q;obtain⟨Z,c1,c2⟩:=gN o;obtain⟨d0,d1,d2⟩:=gN q;have hi0:(0:Int)<=(k:Int):=om
   have hi1:(k:Int)<(ln l:Int):=om
   have hi2:(k:Int)+1<(ln l:Int):=om
   have hi3:(0:Int)<=(k:Int)+1:=om
   have D:=aI (f.trans S);have F:=R;clear R L u Q m y f S T w o q;gi_wp2_with fail
   refine jX 10 kr kr ?_;simp only[lts,List.take_zero,lds,ldz]
   repeat (go_big_quiet_step (fail))
   refine wpQuiet_nil ?_;clear Z c1 c2 d0 d1 d2;gi_wp2_with fail
   refine⟨λh=>(by cases h),?_⟩;refine RoundIn.mono F ?_;rintro e W3 (⟨rfl,K,M⟩|⟨rfl,z⟩)
   ·clear F B
    gi_wp2
    go_roundw
    case rel=>exact⟨k+1,om,gn,by rw[eQ];exact K,D.oQ.trans M⟩
    case measure=>simp[intOf];omega
   ·clear F B
    gi_wp2;refine bpr (results_none rfl _ _ _) rfl ?_;exact⟨⟨_,rfl⟩,.inr ⟨_,⟨k+1,om,(eQ _ _).symm⟩,z⟩⟩
  ·have N:k=ln l-1:=om
   gi_wp2
   go_end0
   exact⟨⟨_,rfl⟩,.inl ⟨_,rfl,by rw[←N];exact m⟩⟩
theorem BO (n:Nat)(j c a:Nat)(f:Oa)(J:List (Hx×Hx)->Wd->Prop)(W:Wd)(b:W.cell? (Y c 0)=some (.slice f 0 a))(h:J [] W):
 CallsIn Fence.wide n prog 243 #[.func (.yield j) #[] #[],E c 0] W λe g=>(∃v,e=rt v)/\J [] g:=by
 refine cow func243 rfl trivial ?_ rfl;simp only[ntmps243,lsz,llc,lln,Nat.reduceAdd,Nat.reduceSub,ars,arz,lpt,lap,lna,lca];gi_wp2;gi_loopw [3] (λi wr=>i=I 1/\J [] wr/\wr.cell? (Y c 0)=some (.slice f 0 a)) (λ_ _=>0);case atStart=>exact⟨rfl,h,b⟩
 case round=>
  obtain⟨rfl,d,hcb⟩:=hrel;clear b;gi_wp2;go_end0;exact⟨⟨_,rfl⟩,d⟩
theorem TI (n:Nat)(a:Oa)(c b:Nat)(w:Wd):
 CallsIn Fence.wide n prog 189 #[.slice a c b] w λe w'=>e=rt (.func (.func 243) #[] #[E w.heap.size 0])/\w'=w.alloc (.cells #[.slice a c b] 30):=by
 refine cow func189 rfl trivial ?_ rfl;simp only[ntmps189,lsz,llc,lln,Nat.reduceAdd,Nat.reduceSub,ars,arz,lpt,lap,lna,lca];gi_wp2;go_ret;exact⟨rfl,rfl⟩
theorem I7 (n:Nat)(c b:Nat)(m:Oa)(l:List Hx)(g:ln l<=1048576)(w:Wd)
 (f:w.cell? (Y c 0)=some (.slice m (ln l) b))(H:Xs 3 Hx.cells w m l):
 SeqStopsK Fence.wide n prog 243 #[E c 0] (λx:Hx×Hx=>#[x.1.val,x.2.val]) (Below w.heap.size) (λK=>K=cS (mB l) (ln l-1)) (λv=>∃k,k<=ln l-1/\v=cS (mB l) k) (ln l-1) w:=λt J C W z F _ G o=>by
 have d:c<w.heap.size:=aA f;have a:=(z.cell (p:=(Y c 0)) d).trans f;rcases H with rfl|⟨y,u,rfl,B⟩;·exact(BO n t c b m J W a o).mono λe D ⟨i,r⟩=>⟨i,.inl ⟨_,rfl,r⟩⟩
 ·by_cases s:1<=ln l
  ·have A:y<w.heap.size:=aA ((gN (B 0 om)).1);exact PJ n t c w.heap.size y u b l s g A d J C W F G a (λj h=>gS (B j h) z A) o
  ·have i:ln l=0:=om;rw[i]at a;refine(BO n t c b _ J W a o).mono λe D ⟨q,r⟩=>⟨q,.inl ⟨_,rfl,?_⟩⟩;rw[i];exact r
def iW (l:List Fx)(j:Nat):Fx:=l[j]?.getD ⟨ByteArray.empty,0,0⟩
theorem gC (l:List Fx)(j:Nat)(h:j<ln l):iW l j=l[j]:=by simp[iW,h]
def lR (l:List Fx)(j:Nat):Fx×Fx:=(iW l j,iW l (j+1))
theorem P7 (n:Nat) (V C c t g G:Nat) (l:List Fx) (O:1<=ln l) (hlen:ln l<=1048576) (U:t<c) (H:C<c)
 (J P:List (Fx×Fx)->Wd->Prop) (W:Wd) (w:AbidesFrom W.heap.size J)
 (T:∀d (x:Fx×Fx) W,J d W->ln d<ln l-1->YieldAt Fence.wide (n-1) prog V #[x.1.val,x.2.val] W λe s=>
  (e=rt (.bool true)/\J (d++[x]) s/\Below c W s)∨(e=rt (.bool false)/\P (d++[x]) s))
 (u:W.cell? (Y C 0)=some (.slice (some (Y t g)) (ln l) G)) (L:∀j (h:j<ln l),bC W t (g+j*3) l[j].cells) (Q:J [] W):
 CallsIn Fence.wide n prog 242 #[.func (.yield V) #[] #[],E C 0] W λe s=>(∃v,e=rt v)/\
  ((∃X,X=cS (lR l) (ln l-1)/\J X s)∨(∃d,(∃k,k<=ln l-1/\d=cS (lR l) k)/\P d s)):=by
 refine cow func242 rfl trivial ?_ rfl;simp only[ntmps242,lsz,llc,lln,Nat.reduceAdd,Nat.reduceSub,ars,arz,lpt,lap,lna,lca];gi_wp2
 gi_loopw [3] (λi wr=>∃k:Nat,k+1<=ln l/\i=I ((k:Int)+1)/\J (cS (lR l) k) wr/\Below c W wr)
  (λi _=>ln l-(intOf i).toNat)
 case atStart=>exact⟨0,O,rfl,Q,br _ _⟩
 case round=>
  obtain⟨k,hk,rfl,m,f⟩:=hrel;have hcb:=(f.cell (p:=(Y C 0)) H).trans u
  by_cases A:k+1<ln l
  ·have y:J (cS (lR l) k) wr.drew:=w _ _ _ none m (pI wr) (λr e=>by cases e)
   obtain⟨fn,tmps,assign,body,B,R⟩:=T _ (lR l k) wr.drew y (by rw[eT];omega)
   dsimp only[lR]at B
   have S:Below c wr wr.drew:=(br _ _).drew;have o:bC wr t (g+k*3) (iW l k).cells:=by rw[gC l k om];exact gS (L k om) f U
   have q:bC wr t (g+(k+1)*3) (iW l (k+1)).cells:=by rw[gC l (k+1) A];exact gS (L (k+1) A) f U
   generalize iW l k=a at B o;generalize iW l (k+1)=b at B q;obtain⟨Z,c1,c2⟩:=kH o;obtain⟨d0,d1,d2⟩:=kH q;have hi0:(0:Int)<=(k:Int):=om
   have hi1:(k:Int)<(ln l:Int):=om
   have hi2:(k:Int)+1<(ln l:Int):=om
   have hi3:(0:Int)<=(k:Int)+1:=om
   have D:=aI (f.trans S);have F:=R;clear R L u Q m y f S T w o q;gi_wp2_with fail
   refine jX 10 kr kr ?_;simp only[lts,List.take_zero,lds,ldz]
   repeat (go_big_quiet_step (fail))
   refine wpQuiet_nil ?_;clear Z c1 c2 d0 d1 d2;gi_wp2_with fail
   refine⟨λh=>(by cases h),?_⟩;refine RoundIn.mono F ?_;rintro e W3 (⟨rfl,K,M⟩|⟨rfl,z⟩)
   ·clear F B
    gi_wp2
    go_roundw
    case rel=>exact⟨k+1,om,gn,by rw[eQ];exact K,D.oQ.trans M⟩
    case measure=>simp[intOf];omega
   ·clear F B
    gi_wp2;refine bpr (results_none rfl _ _ _) rfl ?_;exact⟨⟨_,rfl⟩,.inr ⟨_,⟨k+1,om,(eQ _ _).symm⟩,z⟩⟩
  ·have N:k=ln l-1:=om
   gi_wp2
   go_end0
   exact⟨⟨_,rfl⟩,.inl ⟨_,rfl,by rw[←N];exact m⟩⟩
theorem DH (n:Nat)(j c a:Nat)(f:Oa)(J:List (Fx×Fx)->Wd->Prop)(W:Wd)(b:W.cell? (Y c 0)=some (.slice f 0 a))(h:J [] W):
 CallsIn Fence.wide n prog 242 #[.func (.yield j) #[] #[],E c 0] W λe g=>(∃v,e=rt v)/\J [] g:=by
 refine cow func242 rfl trivial ?_ rfl;simp only[ntmps242,lsz,llc,lln,Nat.reduceAdd,Nat.reduceSub,ars,arz,lpt,lap,lna,lca];gi_wp2;gi_loopw [3] (λi wr=>i=I 1/\J [] wr/\wr.cell? (Y c 0)=some (.slice f 0 a)) (λ_ _=>0);case atStart=>exact⟨rfl,h,b⟩
 case round=>
  obtain⟨rfl,d,hcb⟩:=hrel;clear b;gi_wp2;go_end0;exact⟨⟨_,rfl⟩,d⟩
theorem UC (n:Nat)(a:Oa)(c b:Nat)(w:Wd):
 CallsIn Fence.wide n prog 186 #[.slice a c b] w λe w'=>e=rt (.func (.func 242) #[] #[E w.heap.size 0])/\w'=w.alloc (.cells #[.slice a c b] 28):=by
 refine cow func186 rfl trivial ?_ rfl;simp only[ntmps186,lsz,llc,lln,Nat.reduceAdd,Nat.reduceSub,ars,arz,lpt,lap,lna,lca];gi_wp2;go_ret;exact⟨rfl,rfl⟩
theorem JI (n:Nat)(c b:Nat)(m:Oa)(l:List Fx)(g:ln l<=1048576)(w:Wd)
 (f:w.cell? (Y c 0)=some (.slice m (ln l) b))(H:Xs 3 Fx.cells w m l):
 SeqStopsK Fence.wide n prog 242 #[E c 0] (λx:Fx×Fx=>#[x.1.val,x.2.val]) (Below w.heap.size) (λK=>K=cS (lR l) (ln l-1)) (λv=>∃k,k<=ln l-1/\v=cS (lR l) k) (ln l-1) w:=λt J C W z F _ G o=>by
 have d:c<w.heap.size:=aA f;have a:=(z.cell (p:=(Y c 0)) d).trans f;rcases H with rfl|⟨y,u,rfl,B⟩;·exact(DH n t c b m J W a o).mono λe D ⟨i,r⟩=>⟨i,.inl ⟨_,rfl,r⟩⟩
 ·by_cases s:1<=ln l
  ·have A:y<w.heap.size:=aA ((kH (B 0 om)).1);exact P7 n t c w.heap.size y u b l s g A d J C W F G a (λj h=>gS (B j h) z A) o
  ·have i:ln l=0:=om;rw[i]at a;refine(DH n t c b _ J W a o).mono λe D ⟨q,r⟩=>⟨q,.inl ⟨_,rfl,?_⟩⟩;rw[i];exact r
