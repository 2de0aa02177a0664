import Derived.RangeFuncNested
import Derived.RangeFuncBound
import Derived.RangeFuncCalls
import Derived.RangeFuncLeaves
import Derived.Shelf.Abstract
import Derived.WalkKit
import Derived.OwnWalkIn
import Derived.TacticsInMore
import Derived.LoopNIn
import Derived.LoopIn
import Derived.Test.YtcdbcliaepcpfaaGreatDoorIter
import Derived.Test.YtcdbcliaepcpfaaGreatDoorFld
namespace Go.Proofs.YtcdbcliaepcpfaaGreatDoor
set_option maxRecDepth 100000
set_option maxHeartbeats 2000000
open Go.RowKit Go.Shelf
attribute [local go_sem] Oper.semAt_some
theorem sJ {w:World}{a o:Nat}{f:Fx}(h:aZ w a o f.cells):w.cell? ⟨a,o,none⟩=some (.string f.n)/\w.cell? ⟨a,o+1,none⟩=some (.int .i64 f.x)/\w.cell? ⟨a,o+2,none⟩=some (.int .i64 f.y):=m8 h
def iS (l:List Fx)(j:Nat):Fx:=l[j]?.getD ⟨ByteArray.empty,0,0⟩
theorem fV (l:List Fx)(j:Nat)(h:j<l.length):iS l j=l[j]:=by simp[iS,h]
def k8 (l:List Fx)(j:Nat):Fx×Fx:=(iS l j,iS l (j+1))
theorem sQ {w w':World}{a o B:Nat}{c:List Value}(h:aZ w a o c)(b:Below B w w')(e:a<B):aZ w' a o c:=λj v d=>(b.cell (p:=⟨a,o+j,none⟩) e).trans (h j v d)
theorem L7 (n:Nat)(T C c t g F:Nat)(l:List Fx)(M:1<=l.length)(hlen:l.length<=1048576)(S:t<c)(G:C<c)
 (J N:List (Fx×Fx)->World->Prop)(W:World)(w:AbidesFrom W.heap.size J)
 (R:∀d (x:Fx×Fx) W,J d W->d.length<l.length-1->YieldAt Fence.wide (n-1) Tryz.prog T #[x.1.val,x.2.val] W λe s=>
  (e=.returned (.bool true)/\J (d++[x]) s/\Below c W s)∨(e=.returned (.bool false)/\N (d++[x]) s))
 (u:W.cell? ⟨C,0,none⟩=some (.slice (some ⟨t,g,none⟩) l.length F))(I:∀j (h:j<l.length),aZ W t (g+j*3) l[j].cells)(O:J [] W):
 CallsIn Fence.wide n Tryz.prog 226 #[.func (.yield T) #[] #[],.pointer (some ⟨C,0,none⟩)] W λe s=>(∃v,e=.returned v)/\
  ((∃U,U=cE (k8 l) (l.length-1)/\J U s)∨(∃d,(∃k,k<=l.length-1/\d=cE (k8 l) k)/\N d s)):=by
 refine callsIn_of_wp Tryz.func226 rfl trivial ?_ rfl;simp only[Tryz.ntmps226,lsz,llc,lln,Nat.reduceAdd,Nat.reduceSub,ars,arz,lpt,lap,lna,lca];gi_wp2
 gi_loopw [3] (λi wr=>∃k:Nat,k+1<=l.length/\i=.int .i64 ((k:Int)+1)/\J (cE (k8 l) k) wr/\Below c W wr)
  (λi _=>l.length-(intOf i).toNat)
 case atStart=>exact⟨0,M,rfl,O,br _ _⟩
 case round=>
  obtain⟨k,hk,rfl,m,f⟩:=hrel;have hcb:=(f.cell (p:=⟨C,0,none⟩) G).trans u
  by_cases A:k+1<l.length
  ·have y:J (cE (k8 l) k) wr.drew:=w _ _ _ none m (oU wr) (λr e=>by cases e)
   obtain⟨fn,tmps,assign,body,B,P⟩:=R _ (k8 l k) wr.drew y (by rw[eI];omega)
   dsimp only[k8]at B
   have Q:Below c wr wr.drew:=(br _ _).drew;have o:aZ wr t (g+k*3) (iS l k).cells:=by rw[fV l k (by omega)];exact sQ (I k (by omega)) f S
   have q:aZ wr t (g+(k+1)*3) (iS l (k+1)).cells:=by rw[fV l (k+1) A];exact sQ (I (k+1) A) f S
   generalize iS l k=a at B o;generalize iS l (k+1)=b at B q;obtain⟨V,X,Y⟩:=sJ o;obtain⟨Z,d1,d2⟩:=sJ q;have hi0:(0:Int)<=(k:Int):=by omega
   have hi1:(k:Int)<(l.length:Int):=by omega
   have hi2:(k:Int)+1<(l.length:Int):=by omega
   have hi3:(0:Int)<=(k:Int)+1:=by omega
   have D:=aG (f.trans Q);have E:=P;clear P I u O m y f Q R w o q;gi_wp2_with fail
   refine jB 10 (by kernel_rfl) (by kernel_rfl) ?_;simp only[lts,List.take_zero,lds,List.drop_zero]
   repeat (go_big_quiet_step (fail))
   refine wpQuiet_nil ?_;clear V X Y Z d1 d2;gi_wp2_with fail
   refine⟨λh=>(by cases h),?_⟩;refine RoundIn.mono E ?_;rintro e W3 (⟨rfl,H,K⟩|⟨rfl,z⟩)
   ·clear E B
    gi_wp2
    go_roundw
    case rel=>exact⟨k+1,by omega,by go_num,by rw[eH];exact H,D.oQ.trans K⟩
    case measure=>simp[intOf];omega
   ·clear E B
    gi_wp2;refine bpr (results_none rfl _ _ _) rfl ?_;exact⟨⟨_,rfl⟩,.inr ⟨_,⟨k+1,by omega,(eH _ _).symm⟩,z⟩⟩
  ·have L:k=l.length-1:=by omega
   gi_wp2
   go_end0
   exact⟨⟨_,rfl⟩,.inl ⟨_,rfl,by rw[←L];exact m⟩⟩
theorem AE (n:Nat)(j c a:Nat)(f:Option Addr)(J:List (Fx×Fx)->World->Prop)(W:World)(b:W.cell? ⟨c,0,none⟩=some (.slice f 0 a))(h:J [] W):
 CallsIn Fence.wide n Tryz.prog 226 #[.func (.yield j) #[] #[],.pointer (some ⟨c,0,none⟩)] W λe g=>(∃v,e=.returned v)/\J [] g:=by
 refine callsIn_of_wp Tryz.func226 rfl trivial ?_ rfl;simp only[Tryz.ntmps226,lsz,llc,lln,Nat.reduceAdd,Nat.reduceSub,ars,arz,lpt,lap,lna,lca];gi_wp2;gi_loopw [3] (λi wr=>i=.int .i64 1/\J [] wr/\wr.cell? ⟨c,0,none⟩=some (.slice f 0 a)) (λ_ _=>0);case atStart=>exact⟨rfl,h,b⟩
 case round=>
  obtain⟨rfl,d,hcb⟩:=hrel;clear b;gi_wp2;go_end0;exact⟨⟨_,rfl⟩,d⟩
theorem RW (n:Nat)(a:Option Addr)(c b:Nat)(w:World):
 CallsIn Fence.wide n Tryz.prog 170 #[.slice a c b] w λe w'=>e=.returned (.func (.func 226) #[] #[.pointer (some ⟨w.heap.size,0,none⟩)])/\w'=w.alloc (.cells #[.slice a c b] 27):=by
 refine callsIn_of_wp Tryz.func170 rfl trivial ?_ rfl;simp only[Tryz.ntmps170,lsz,llc,lln,Nat.reduceAdd,Nat.reduceSub,ars,arz,lpt,lap,lna,lca];gi_wp2;go_ret;exact⟨rfl,rfl⟩
theorem GE (n:Nat)(c b:Nat)(m:Option Addr)(l:List Fx)(g:l.length<=1048576)(w:World)
 (f:w.cell? ⟨c,0,none⟩=some (.slice m l.length b))(G:Xs 3 Fx.cells w m l):
 SeqStopsK Fence.wide n Tryz.prog 226 #[.pointer (some ⟨c,0,none⟩)] (λx:Fx×Fx=>#[x.1.val,x.2.val]) (Below w.heap.size) (λH=>H=cE (k8 l) (l.length-1)) (λv=>∃k,k<=l.length-1/\v=cE (k8 l) k) (l.length-1) w:=λt J C W z E _ F o=>by
 have d:c<w.heap.size:=aA f;have a:=(z.cell (p:=⟨c,0,none⟩) d).trans f;rcases G with rfl|⟨y,u,rfl,B⟩;·exact(AE n t c b m J W a o).mono λe D ⟨i,r⟩=>⟨i,.inl ⟨_,rfl,r⟩⟩
 ·by_cases s:1<=l.length
  ·have A:y<w.heap.size:=aA ((sJ (B 0 (by omega))).1);exact L7 n t c w.heap.size y u b l s g A d J C W E F a (λj h=>sQ (B j h) z A) o
  ·have i:l.length=0:=by omega
   rw[i]at a;refine(AE n t c b _ J W a o).mono λe D ⟨q,r⟩=>⟨q,.inl ⟨_,rfl,?_⟩⟩;rw[i];exact r
end Go.Proofs.YtcdbcliaepcpfaaGreatDoor
