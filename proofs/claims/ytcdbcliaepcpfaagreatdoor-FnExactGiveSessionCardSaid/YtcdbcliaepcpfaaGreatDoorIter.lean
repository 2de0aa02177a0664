import Derived.RangeFuncNested
import Derived.RangeFuncBound
import Derived.RangeFuncCalls
import Derived.RangeFuncLeaves
import Derived.Shelf.Abstract
import Derived.Shelf.RegionOpen
import Derived.WalkKit
import Derived.OwnWalkIn
import Derived.TacticsInMore
import Derived.LoopNIn
import Derived.LoopIn
import Derived.Test.YtcdbcliaepcpfaaGreatDoorTail
namespace Go.Proofs.YtcdbcliaepcpfaaGreatDoor
set_option maxRecDepth 100000
set_option maxHeartbeats 2000000
open Go.RowKit Go.Shelf
attribute [local go_sem] Oper.semAt_some
def cE {α:Type}(f:Nat->α)(k:Nat):List α:=(List.range k).map f
theorem eH {α:Type}(f:Nat->α)(k:Nat):cE f (k+1)=cE f k++[f k]:=by simp[cE,List.range_succ]
theorem eI {α:Type}(f:Nat->α)(k:Nat):(cE f k).length=k:=by simp[cE]
def ZN:Bx:=⟨0,0,0,0,0,0⟩
def l9 (l:List Bx)(j:Nat):Bx:=l[j]?.getD ZN
theorem gE (l:List Bx)(j:Nat)(h:j<l.length):l9 l j=l[j]:=by simp[l9,h]
theorem rB {l:List Bx}(h:l.all aK=true)(j:Nat):aK (l9 l j)=true:=by
 by_cases a:j<l.length;·rw[gE l j a];exact lat.1 h _ (lgm a)
 ·simp[l9,Nat.le_of_not_lt a];decide
abbrev P2:={ p:Bx×Bx//aK p.1=true/\aK p.2=true}
def lJ (l:List Bx)(h:l.all aK=true)(j:Nat):P2:=⟨(l9 l j,l9 l (j+1)),rB h j,rB h (j+1)⟩
theorem oU (W:World):W.grownBy W.drew none:=⟨rfl,rfl,rfl,nlq _,λ_ _ _=>rfl⟩
theorem qU {w w':World}{d o B:Nat}{b:Bx}(h:fL w d o b)(a:Below B w w')(c:d<B):fL w' d o b:=by
 obtain⟨e,f,g,i,j,k⟩:=h;exact⟨(a.cell (by exact c)).trans e,(a.cell (by exact c)).trans f,(a.cell (by exact c)).trans g,(a.cell (by exact c)).trans i,(a.cell (by exact c)).trans j,(a.cell (by exact c)).trans k⟩
theorem UM (n:Nat)(U D c s m G:Nat)(l:List Bx)(g:l.all aK=true)(N:1<=l.length)(hlen:l.length<=1048576)(T:s<c)(H:D<c)
 (J O:List P2->World->Prop)(W:World)(u:AbidesFrom W.heap.size J)
 (S:∀d (x:P2) W,J d W->d.length<l.length-1->YieldAt Fence.wide (n-1) Tryz.prog U #[x.1.1.val,x.1.2.val] W λe q=>
  (e=.returned (.bool true)/\J (d++[x]) q/\Below c W q)∨(e=.returned (.bool false)/\O (d++[x]) q))
 (t:W.cell? ⟨D,0,none⟩=some (.slice (some ⟨s,m,none⟩) l.length G))(K:∀j (h:j<l.length),fL W s (m+j*6) l[j])(P:J [] W):
 CallsIn Fence.wide n Tryz.prog 269 #[.func (.yield U) #[] #[],.pointer (some ⟨D,0,none⟩)] W λe q=>(∃v,e=.returned v)/\
  ((∃V,V=cE (lJ l g) (l.length-1)/\J V q)∨(∃d,(∃k,k<=l.length-1/\d=cE (lJ l g) k)/\O d q)):=by
 refine callsIn_of_wp Tryz.func269 rfl trivial ?_ rfl;simp only[Tryz.ntmps269,lsz,llc,lln,Nat.reduceAdd,Nat.reduceSub,ars,arz,lpt,lap,lna,lca];gi_wp2
 gi_loopw [3] (λi wr=>∃k:Nat,k+1<=l.length/\i=.int .i64 ((k:Int)+1)/\J (cE (lJ l g) k) wr/\Below c W wr)
  (λi _=>l.length-(intOf i).toNat)
 case atStart=>exact⟨0,N,rfl,P,br _ _⟩
 case round=>
  obtain⟨k,hk,rfl,o,f⟩:=hrel;have hcb:=(f.cell (p:=⟨D,0,none⟩) H).trans t
  by_cases B:k+1<l.length
  ·have w:J (cE (lJ l g) k) wr.drew:=u _ _ _ none o (oU wr) (λr e=>by cases e)
   obtain⟨fn,tmps,assign,body,C,Q⟩:=S _ (lJ l g k) wr.drew w (by rw[eI];omega)
   dsimp only[lJ]at C
   have R:Below c wr wr.drew:=(br _ _).drew;have z:fL wr s (m+k*6) (l9 l k):=by rw[gE l k (by omega)];exact qU (K k (by omega)) f T
   have A:fL wr s (m+(k+1)*6) (l9 l (k+1)):=by rw[gE l (k+1) B];exact qU (K (k+1) B) f T
   generalize l9 l k=a at C z;generalize l9 l (k+1)=b at C A;obtain⟨X,Y,Z,c3,c4,c5⟩:=z;obtain⟨d0,d1,d2,d3,d4,d5⟩:=A;have hi0:(0:Int)<=(k:Int):=by omega
   have hi1:(k:Int)<(l.length:Int):=by omega
   have hi2:(k:Int)+1<(l.length:Int):=by omega
   have hi3:(0:Int)<=(k:Int)+1:=by omega
   have E:=aG (f.trans R);have F:=Q;clear Q K t P o w f R S u;gi_wp2_with fail
   refine jB 10 (by kernel_rfl) (by kernel_rfl) ?_;simp only[lts,List.take_zero,lds,List.drop_zero]
   repeat (go_big_quiet_step (fail))
   refine wpQuiet_nil ?_;clear X Y Z c3 c4 c5 d0 d1 d2 d3 d4 d5;gi_wp2_with fail
   refine⟨λh=>(by cases h),?_⟩;refine RoundIn.mono F ?_;rintro e W3 (⟨rfl,I,L⟩|⟨rfl,y⟩)
   ·clear F C
    gi_wp2
    go_roundw
    case rel=>exact⟨k+1,by omega,by go_num,by rw[eH];exact I,E.oQ.trans L⟩
    case measure=>simp[intOf];omega
   ·clear F C
    gi_wp2;refine bpr (results_none rfl _ _ _) rfl ?_;exact⟨⟨_,rfl⟩,.inr ⟨_,⟨k+1,by omega,(eH _ _).symm⟩,y⟩⟩
  ·have M:k=l.length-1:=by omega
   gi_wp2
   go_end0
   exact⟨⟨_,rfl⟩,.inl ⟨_,rfl,by rw[←M];exact o⟩⟩
theorem tE {w:World}{a o:Nat}{h:Hx}(b:aZ w a o h.cells):w.cell? ⟨a,o,none⟩=some (.string h.n)/\w.cell? ⟨a,o+1,none⟩=some (.slice h.ta h.tl.length h.tc)/\w.cell? ⟨a,o+2,none⟩=some (.slice h.na h.nl.length h.nc):=iI b
def fQ (l:List Hx)(j:Nat):Hx:=l[j]?.getD ⟨ByteArray.empty,none,[],0,none,[],0⟩
theorem cQ (l:List Hx)(j:Nat)(h:j<l.length):fQ l j=l[j]:=by simp[fQ,h]
def lB (l:List Hx)(j:Nat):Hx×Hx:=(fQ l j,fQ l (j+1))
theorem sL {w w':World}{a o B:Nat}{c:List Value}(h:aZ w a o c)(b:Below B w w')(e:a<B):aZ w' a o c:=λj v d=>(b.cell (p:=⟨a,o+j,none⟩) e).trans (h j v d)
theorem MG (n:Nat)(T C c t g F:Nat)(l:List Hx)(M:1<=l.length)(hlen:l.length<=1048576)(S:t<c)(G:C<c)
 (J N:List (Hx×Hx)->World->Prop)(W:World)(w:AbidesFrom W.heap.size J)
 (R:∀d (x:Hx×Hx) W,J d W->d.length<l.length-1->YieldAt Fence.wide (n-1) Tryz.prog T #[x.1.val,x.2.val] W λe s=>
  (e=.returned (.bool true)/\J (d++[x]) s/\Below c W s)∨(e=.returned (.bool false)/\N (d++[x]) s))
 (u:W.cell? ⟨C,0,none⟩=some (.slice (some ⟨t,g,none⟩) l.length F))(I:∀j (h:j<l.length),aZ W t (g+j*3) l[j].cells)(O:J [] W):
 CallsIn Fence.wide n Tryz.prog 227 #[.func (.yield T) #[] #[],.pointer (some ⟨C,0,none⟩)] W λe s=>(∃v,e=.returned v)/\
  ((∃U,U=cE (lB l) (l.length-1)/\J U s)∨(∃d,(∃k,k<=l.length-1/\d=cE (lB l) k)/\N d s)):=by
 refine callsIn_of_wp Tryz.func227 rfl trivial ?_ rfl;simp only[Tryz.ntmps227,lsz,llc,lln,Nat.reduceAdd,Nat.reduceSub,ars,arz,lpt,lap,lna,lca];gi_wp2
 gi_loopw [3] (λi wr=>∃k:Nat,k+1<=l.length/\i=.int .i64 ((k:Int)+1)/\J (cE (lB l) k) wr/\Below c W wr)
  (λi _=>l.length-(intOf i).toNat)
 case atStart=>exact⟨0,M,rfl,O,br _ _⟩
 case round=>
  obtain⟨k,hk,rfl,m,f⟩:=hrel;have hcb:=(f.cell (p:=⟨C,0,none⟩) G).trans u
  by_cases A:k+1<l.length
  ·have y:J (cE (lB l) k) wr.drew:=w _ _ _ none m (oU wr) (λr e=>by cases e)
   obtain⟨fn,tmps,assign,body,B,P⟩:=R _ (lB l k) wr.drew y (by rw[eI];omega)
   dsimp only[lB]at B
   have Q:Below c wr wr.drew:=(br _ _).drew;have o:aZ wr t (g+k*3) (fQ l k).cells:=by rw[cQ l k (by omega)];exact sL (I k (by omega)) f S
   have q:aZ wr t (g+(k+1)*3) (fQ l (k+1)).cells:=by rw[cQ l (k+1) A];exact sL (I (k+1) A) f S
   generalize fQ l k=a at B o;generalize fQ l (k+1)=b at B q;obtain⟨V,X,Y⟩:=tE o;obtain⟨Z,d1,d2⟩:=tE q;have hi0:(0:Int)<=(k:Int):=by omega
   have hi1:(k:Int)<(l.length:Int):=by omega
   have hi2:(k:Int)+1<(l.length:Int):=by omega
   have hi3:(0:Int)<=(k:Int)+1:=by omega
   have D:=aG (f.trans Q);have E:=P;clear P I u O m y f Q R w o q;gi_wp2_with fail
   refine jB 10 (by kernel_rfl) (by kernel_rfl) ?_;simp only[lts,List.take_zero,lds,List.drop_zero]
   repeat (go_big_quiet_step (fail))
   refine wpQuiet_nil ?_;clear V X Y Z d1 d2;gi_wp2_with fail
   refine⟨λh=>(by cases h),?_⟩;refine RoundIn.mono E ?_;rintro e W3 (⟨rfl,H,K⟩|⟨rfl,z⟩)
   ·clear E B
    gi_wp2
    go_roundw
    case rel=>exact⟨k+1,by omega,by go_num,by rw[eH];exact H,D.oQ.trans K⟩
    case measure=>simp[intOf];omega
   ·clear E B
    gi_wp2;refine bpr (results_none rfl _ _ _) rfl ?_;exact⟨⟨_,rfl⟩,.inr ⟨_,⟨k+1,by omega,(eH _ _).symm⟩,z⟩⟩
  ·have L:k=l.length-1:=by omega
   gi_wp2
   go_end0
   exact⟨⟨_,rfl⟩,.inl ⟨_,rfl,by rw[←L];exact m⟩⟩
theorem AS (n:Nat)(j c a:Nat)(f:Option Addr)(J:List (Hx×Hx)->World->Prop)(W:World)(b:W.cell? ⟨c,0,none⟩=some (.slice f 0 a))(h:J [] W):
 CallsIn Fence.wide n Tryz.prog 227 #[.func (.yield j) #[] #[],.pointer (some ⟨c,0,none⟩)] W λe g=>(∃v,e=.returned v)/\J [] g:=by
 refine callsIn_of_wp Tryz.func227 rfl trivial ?_ rfl;simp only[Tryz.ntmps227,lsz,llc,lln,Nat.reduceAdd,Nat.reduceSub,ars,arz,lpt,lap,lna,lca];gi_wp2;gi_loopw [3] (λi wr=>i=.int .i64 1/\J [] wr/\wr.cell? ⟨c,0,none⟩=some (.slice f 0 a)) (λ_ _=>0);case atStart=>exact⟨rfl,h,b⟩
 case round=>
  obtain⟨rfl,d,hcb⟩:=hrel;clear b;gi_wp2;go_end0;exact⟨⟨_,rfl⟩,d⟩
theorem PQ (n:Nat)(a:Option Addr)(c b:Nat)(w:World):
 CallsIn Fence.wide n Tryz.prog 173 #[.slice a c b] w λe w'=>e=.returned (.func (.func 227) #[] #[.pointer (some ⟨w.heap.size,0,none⟩)])/\w'=w.alloc (.cells #[.slice a c b] 28):=by
 refine callsIn_of_wp Tryz.func173 rfl trivial ?_ rfl;simp only[Tryz.ntmps173,lsz,llc,lln,Nat.reduceAdd,Nat.reduceSub,ars,arz,lpt,lap,lna,lca];gi_wp2;go_ret;exact⟨rfl,rfl⟩
theorem EP (n:Nat)(c b:Nat)(m:Option Addr)(l:List Hx)(g:l.length<=1048576)(w:World)
 (f:w.cell? ⟨c,0,none⟩=some (.slice m l.length b))(G:Xs 3 Hx.cells w m l):
 SeqStopsK Fence.wide n Tryz.prog 227 #[.pointer (some ⟨c,0,none⟩)] (λx:Hx×Hx=>#[x.1.val,x.2.val]) (Below w.heap.size) (λH=>H=cE (lB l) (l.length-1)) (λv=>∃k,k<=l.length-1/\v=cE (lB l) k) (l.length-1) w:=λt J C W z E _ F o=>by
 have d:c<w.heap.size:=aA f;have a:=(z.cell (p:=⟨c,0,none⟩) d).trans f;rcases G with rfl|⟨y,u,rfl,B⟩;·exact(AS n t c b m J W a o).mono λe D ⟨i,r⟩=>⟨i,.inl ⟨_,rfl,r⟩⟩
 ·by_cases s:1<=l.length
  ·have A:y<w.heap.size:=aA ((tE (B 0 (by omega))).1);exact MG n t c w.heap.size y u b l s g A d J C W E F a (λj h=>sL (B j h) z A) o
  ·have i:l.length=0:=by omega
   rw[i]at a;refine(AS n t c b _ J W a o).mono λe D ⟨q,r⟩=>⟨q,.inl ⟨_,rfl,?_⟩⟩;rw[i];exact r
end Go.Proofs.YtcdbcliaepcpfaaGreatDoor
