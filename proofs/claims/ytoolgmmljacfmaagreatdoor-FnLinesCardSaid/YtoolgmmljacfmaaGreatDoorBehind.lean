import Derived.Test.YtoolgmmljacfmaaGreatDoorIter
import Derived.Test.YtoolgmmljacfmaaGreatDoorAft
set_option maxRecDepth 100000
set_option maxHeartbeats 4000000
open List renaming length → ln
open Go.Proofs.Tryz Go.RowKit
namespace Go.Proofs.YtoolgmmljacfmaaGreatDoor
open Go.Shelf
attribute [local go_sem] Oper.semAt_some
variable {l:List Bx}{k f of:Nat}{W a e:Wd}{d:Option Nat}{b:Bx}
theorem aAH (F:Fence)(n:Nat)(f:F.fn 266)(d:F.round=none)(a:Oa)(c b:Nat)(w:Wd):
 CallsIn F n prog 266 #[.slice a c b] w λe w'=>e=rt (.func (.func 285) #[] #[E w.heap.size 0])/\w'=w.alloc (.cells #[.slice a c b] 41):=by
 refine cow func266 rfl f ?_ d;simp only[ntmps266,lsz,llc,lln,Nat.reduceAdd,Nat.reduceSub,ars,arz,lpt,lap,lna,lca];gi_wp2;go_ret;exact⟨rfl,rfl⟩
theorem PV (n:Nat) (c i b d:Nat) (l:List Bx) (a:l.all aK=true) (m:1<=ln l) (g:ln l<=1048576) (w:Wd)
 (f:w.cell? (Y c 0)=some (.slice (some (Y i b)) (ln l) d)) (s:∀j (h:j<ln l),fX w i (b+j*6) l[j]):
 SeqStopsK Fence.wide n prog 285 #[E c 0] (λx:P2=>#[x.1.1.val,x.1.2.val]) (Below w.heap.size) (λA=>A=cS (lO l a) (ln l-1)) (λo=>∃k,k<=ln l-1/\o=cS (lO l a) k) (ln l-1) w:=λz J t W q v _ y u=>by
 have r:i<w.heap.size:=aA (s 0 om).1;have e:c<w.heap.size:=aA f;exact XD n z c w.heap.size i b d l a m g r e J t W v y ((q.cell (p:=(Y c 0)) e).trans f) (λj h=>r9 (s j h) q r) u
theorem NZ {a:l.all aK=true} (h:∀x∈cS (lO l a) (ln l-1),dW x.1.1 x.1.2=true):fJ l=true:=by
 refine(fO l).2 λi b=>?_;have:=h (lO l a i) (by simp only[cS,lmm,lmr];exact⟨i,om,rfl⟩);simp only[lO]at this;rwa[gM l i om,gM l (i+1) b]at this
theorem NX {a:l.all aK=true}(hk:k<=ln l-1){x:P2}(hx:x∈cS (lO l a) k)(h:dW x.1.1 x.1.2=false):fJ l=false:=by
 simp only[cS,lmm,lmr]at hx;obtain⟨i,hi,rfl⟩:=hx;simp only[lO]at h;rw[gM l i om,gM l (i+1) om]at h;exact wU l i om h
theorem cA (h:aG W a):KeepsOthers W a:=⟨h.size,λk _ b _=>(h.block k (cE b)).trans b⟩
theorem pM (h:fX W f of b)(c:W.grownBy e d)(a:∀r,d=some r->∃o:Obj,W.heap[r]?=some o/\o.isCells=false):fX e f of b:=by
 obtain⟨g,i,j,k,l,m⟩:=h;exact⟨cell_kept g c a,cell_kept i c a,cell_kept j c a,cell_kept k c a,cell_kept l c a,cell_kept m c a⟩
theorem FG (W:Wd)(g:Nat)(a:g=W.heap.size)(b:Bx):fX (W.alloc (.cells #[I b.x,I b.y,I b.lo,I b.hi,I b.i,I b.o] 91)) g 0 b:=by
 subst a;refine⟨?_,?_,?_,?_,?_,?_⟩<;>simp
theorem BE (n:Nat)(hn:6<=n)(m off d:Nat)(l:List Bx)(Q:l.all aK=true)(P:1<=ln l)(C:ln l<=1048576)(w:Wd)(hc:∀j (h:j<ln l),fX w m (off+j*6) l[j]):
 CallsIn Fence.wide n prog 227 #[.slice (some (Y m off)) (ln l) d] w λe W'=>e=rt (.bool (fJ l))/\aG w W':=by
 have h1:1<=n:=om
 refine callsIn_of_wp_marks func227 rfl trivial ?_ rfl;simp only[ntmps227,lsz,llc,lln,Nat.reduceAdd,Nat.reduceSub,ars,arz,lpt,lap,lna,lca];gi_wp2_with fail
 refine⟨trivial,?_⟩;refine(aAH Fence.wide (n-1) trivial rfl _ _ _ _).mono ?_;rintro e w' ⟨rfl,rfl⟩;gi_wp2_with fail
 have z:=(Boxed.new w 4 (.bool false)).alloc (.cells #[sl m off (ln l) d] 41);have J:=Boxed.new (w.alloc (.cells #[.bool false] 4)) 41 (sl m off (ln l) d);simp only[wsa]at J;have o:aG w ((w.alloc (.cells #[.bool false] 4)).alloc (.cells #[sl m off (ln l) d] 41)):=((br _ w).alloc (nlq _) _).alloc sm _;have S:((w.alloc (.cells #[.bool false] 4)).alloc (.cells #[sl m off (ln l) d] 41)).heap.size=w.heap.size+2:=by simp
 obtain⟨W0,B⟩:=cI ((w.alloc (.cells #[.bool false] 4)).alloc (.cells #[sl m off (ln l) d] 41));rw[B]at z J o S ⊢;clear B
 refine wpIn_rangeFunc_ownH rfl h1 (gf:=285) (lb:=#[E (w.heap.size+1) 0]) rfl trivial (enters_of func285 kr rfl)
  (PV (n-1) (w.heap.size+1) m off d l Q P C W0 J.cell (λj h=>(hc j h).zL o)) belowK_t (belowK_b (nlq _)) (br _ _) (λ_=>rfl)
  (λg W=>(∀x∈g,dW x.1.1 x.1.2=true)/\aG W0 W)
  (λc g W=>((c=.ret/\∃x∈g,dW x.1.1 x.1.2=false)/\Boxed W w.heap.size 4 (.bool false))/\aG w W)
  (OwnFrom.and (ownFrom_pure _ _) (ownFrom_below (nlq _) (nlq _)))
  (λc=>OwnFrom.and (OwnFrom.and (ownFrom_pure _ _) (Own.from (boxed_own _ _ _) _)) (ownFrom_below (nlq _) om))
  ⟨sm,br _ _⟩
  (λx G W=>∃u v,fX W u 0 x.1.1/\fX W v 0 x.1.2/\G={ tmps:=#[sl m off (ln l) d,undef,ea w 0,E u 0,E v 0,sl m off (ln l) d,.func (.func 285) #[] #[E (w.heap.size+1) 0],x.1.1.val,x.1.2.val,undef,undef,undef,undef],defers:=[]})
  (λx G _ X a row za hg R=>by obtain⟨u,v,L,M,e3⟩:=za;exact⟨u,v,pM L hg (λr e=>(R r e).2),pM M hg (λr e=>(R r e).2),e3⟩)
  ?assign ?body ?done ?stop
 case assign=>
  rintro lp g x W K ⟨F,b⟩ q;gi_wp2
  exact q _ _ (((KeepsOthers.alloc _ _).trans (KeepsOthers.alloc _ _)).from _) (((br _ W).alloc b.size _).alloc (by have:=b.size;simp;omega) _) ⟨F,(b.alloc b.size _).alloc (by have:=b.size;simp;omega) _⟩
   ⟨W.heap.size,W.heap.size+1,(FG W _ rfl x.1.1).zL ((br _ _).alloc (nlq _) _),FG _ _ sm x.1.2,rfl⟩
 case body=>
  rintro lp g x G W hl ⟨r,R⟩ ⟨F,b⟩ ⟨u,v,L,M,rfl⟩ hlt;have h1':1<=n-1-1:=om
  have T:=x.2.1;have U:=x.2.2;have A:W.cell? (ya w 0)=some (.bool false):=(b.cell (p:=(ya w 0)) (by show w.heap.size<_;omega)).trans z.cell;have Z:W.frozen? (ya w 0)=false:=(b.frozen (p:=(ya w 0)) (by show w.heap.size<_;omega)).trans z.frozen;obtain⟨c0,c1,c2,c3,c4,c5⟩:=L;obtain⟨d0,d1,d2,d3,d4,d5⟩:=M;gi_wp2_with fail
  refine⟨trivial,?_⟩;refine(CallsIn.inRound lp (cw.2 (OW x.1.1 x.1.2 W T U))).mono ?_;rintro e w1 ⟨rfl,f⟩;have cR1:=(f.cell (p:=(ya w 0)) (aA A)).trans A;have fR1:=(f.frozen (p:=(ya w 0)) (aA A)).trans Z;have H:Boxed w1 w.heap.size 4 (.bool false):=(f.block w.heap.size (aA A)).trans ((b.block w.heap.size om).trans z);have N:aG w w1:=(o.trans (b.mono om)).trans (f.mono (by have:=b.size;omega));gi_wp2
  ·exact⟨((cA f).trans (KeepsOthers.setCell _ _ _)).from _,⟨⟨rfl,x,lma.2 (.inr sm),nf aq⟩,H.set _⟩,N.setCell (p:=(ya w 0)) (nlq _) _⟩
  ·have O:dW x.1.1 x.1.2=true:=nt aq
   exact⟨(cA f).from _,f.mono b.size,λy V=>(lma.1 V).elim (F y) (λe=>by simp at e;subst e;exact O),b.trans (f.mono b.size)⟩
 case done=>
  rintro D zs W hD rfl ⟨F,b⟩ q;have i:Boxed W w.heap.size 4 (.bool false):=(b.block w.heap.size om).trans z;have A:=i.cell;have Z:=i.frozen;gi_wp2;have s:=(KeepsOthers.setCell W (ya w 0) (.bool true)).same D _ q rfl;refine⟨sm,.inl ⟨_,_,rfl,rtd s,?_⟩⟩;have t:=cell_kept (i.set (.bool true)).cell (grownBy_putObj' _ D (.deferred none)) (λr e=>by cases e;exact⟨_,s,rfl⟩);refine⟨.bool true,?_,by rw[NZ F],(((o.trans (b.mono om)).setCell (p:=(ya w 0)) (nlq _) _).trans (belowK_b (w:=w) (nlq _) _ D _ _ om s rfl rfl))⟩
  simp[results,Tryz.f227,go_sem,t]
 case stop=>
  rintro D c g W hD ⟨k,hk,rfl⟩ ⟨⟨⟨rfl,x,hx,V⟩,i⟩,b⟩ q;gi_wp2;refine⟨sm,.inl ⟨_,_,rfl,rtd q,?_⟩⟩;have t:=cell_kept i.cell (grownBy_putObj' _ D (.deferred none)) (λr e=>by cases e;exact⟨_,q,rfl⟩);refine⟨.bool false,?_,by rw[NX hk hx V],b.trans (belowK_b (w:=w) (nlq _) W D _ _ om q rfl rfl)⟩
  simp[results,Tryz.f227,go_sem,t]
theorem zG (g:Oa)(a:Nat)(l:List Bx)(d:l.all aK=true)(b:1<=ln l)(c:ln l<=1048576)(w:Wd)(m:jG w g l):
 aW 227 #[.slice g (ln l) a] w λe i=>e=rt (.bool (fJ l))/\aG w i:=by
 rcases m with h|⟨j,f,rfl,k⟩;·subst h;simp at b
 ·exact cw.1 (BE 6 om j f a l d b c w k)
variable {d:Wd}{b:Option Nat}{e:Nat}{c:List Va}{l:List Fx}
def gE (a b:ByteArray):Bool:=Op.bytesLess a.toList b.toList
def kR {α:Type}(nm:α->ByteArray):List α->Bool
 |a::b::r=>gE (nm a) (nm b)&&kR nm (b::r)
 |_=>true
theorem iU {α:Type}(nm:α->Ba):∀l:List α,kR nm l=true↔∀i (h:i+1<ln l),gE (nm l[i]) (nm l[i+1])=true
 |[]=>by simp[kR]
 |[a]=>by simp[kR]
 |a::b::r=>by
  rw[kR,bat,iU nm (b::r)];constructor
  ·rintro⟨d,h⟩ i c;cases i with
   |zero=>exact d
   |succ i=>exact h i (by simpa using c)
  ·intro h;exact⟨h 0 sm,λi c=>h (i+1) (by simpa using c)⟩
def bX {α:Type}(nm:α->ByteArray)(l:List α):Bool:=(l.all λx=>cO (nm x))&&kR nm l
theorem fH (h:bC W e of c)(f:W.grownBy d b)(a:∀r,b=some r->∃o:Obj,W.heap[r]?=some o/\o.isCells=false):bC d e of c:=
 λj v g=>cell_kept (h j v g) f a
theorem gP (W:Wd)(g t:Nat)(e:g=W.heap.size)(b c d:Va):bC (W.alloc (.cells #[b,c,d] t)) g 0 [b,c,d]:=by
 subst e;intro j v a;match j,a with
 |0,a=>simp at a;subst a;simp
 |1,a=>simp at a;subst a;simp
 |2,a=>simp at a;subst a;simp
theorem tF (h:e<ln l)(a:cO l[e].n=false):bX Fx.n l=false:=by
 have:(l.all λx=>cO x.n)=false:=by
  rw[befq];intro ha;have:=lat.1 ha l[e] (lgm h);rw[a]at this;cases this
 rw[bX,this];rfl
theorem QB (a:(l.all λx=>cO x.n)=true) (h:∀x∈cS (lR l) (ln l-1),gE x.1.n x.2.n=true):bX Fx.n l=true:=by
 have ha:kR Fx.n l=true:=by
  refine(iU Fx.n l).2 λi b=>?_;have:=h (lR l i) (by simp only[cS,lmm,lmr];exact⟨i,om,rfl⟩);simp only[lR]at this;rwa[gC l i om,gC l (i+1) b]at this
 rw[bX,a,ha];rfl
theorem QH (hk:e<=ln l-1){x:Fx×Fx}(hx:x∈cS (lR l) e)(h:gE x.1.n x.2.n=false):bX Fx.n l=false:=by
 simp only[cS,lmm,lmr]at hx;obtain⟨i,hi,rfl⟩:=hx;simp only[lR]at h;rw[gC l i om,gC l (i+1) om]at h
 have:kR Fx.n l=false:=by
  rw[befq];intro ha;have:=(iU Fx.n l).1 ha i om;rw[h]at this;cases this
 rw[bX,this,Bool.and_false]
theorem tN (f:Fx)(w:Wd):
 aW 148 #[f.val] w λe w'=>e=rt (.string f.n)/\aG w w':=by
 go_enter func148,ntmps148;go_wp2;go_ret;exact⟨rfl,(br _ _).alloc (nlq _) _⟩
theorem UX (n:Nat)(hn:6<=n)(v:Oa)(g:Nat)(l:List Fx)(ze:ln l<=1048576)(zg:∀f∈l,f.n.size<=9223372036854775807)(w:Wd)(hl:Xs 3 Fx.cells w v l):
 CallsIn Fence.wide n prog 147 #[.slice v (ln l) g,.func (.func 148) #[] #[]] w λe W'=>e=rt (.bool (bX Fx.n l))/\aG w W':=by
 obtain⟨V,hV⟩:=bQ (bX Fx.n l);rw[←hV];have HV:=aI hV;clear hV;have h1:1<=n:=om
 refine callsIn_of_wp_marks func147 rfl trivial ?_ rfl;simp only[ntmps147,lsz,llc,lln,Nat.reduceAdd,Nat.reduceSub,ars,arz,lpt,lap,lna,lca];gi_wp2;have bN:=(Boxed.new w 187 (.func (.func 148) #[] #[])).alloc (.cells #[.bool false] 4);have bR:=Boxed.new (w.alloc (.cells #[.func (.func 148) #[] #[]] 187)) 4 (.bool false);simp only[wsa]at bR;have M:aG w ((w.alloc (.cells #[.func (.func 148) #[] #[]] 187)).alloc (.cells #[.bool false] 4)):=((br _ w).alloc (nlq _) _).alloc sm _;have G:((w.alloc (.cells #[.func (.func 148) #[] #[]] 187)).alloc (.cells #[.bool false] 4)).heap.size=w.heap.size+2:=by simp
 obtain⟨W0,zc⟩:=cI ((w.alloc (.cells #[.func (.func 148) #[] #[]] 187)).alloc (.cells #[.bool false] 4));rw[zc]at bN bR M G ⊢;clear zc
 gi_loopw [11] (λi wr=>∃k:Nat,k<=ln l/\i=I k/\aG W0 wr/\Hid ((l.take k).all (λx=>cO x.n)=true)) (λi _=>ln l-(intOf i).toNat)
 case atStart=>exact⟨0,nz _,rfl,br _ _,by simp[Hid]⟩
 case round=>
  obtain⟨k,hk,rfl,U,T⟩:=hrel;have B:Boxed wr w.heap.size 187 (.func (.func 148) #[] #[]):=(U.block _ om).trans bN;have C:Boxed wr (w.heap.size+1) 4 (.bool false):=(U.block _ om).trans bR;have F:aG w wr:=M.trans (U.mono om)
  by_cases A:k<ln l
  ·rcases hl with h|⟨bl,off,rfl,hc⟩
   ·subst h;simp at A
   ·have R:=(hc k A).zL F
    have G:=zg l[k] (lgm A);obtain⟨b,Q⟩:=bQ (l[k]);rw[←Q]at R G;have HB:=aI Q;clear Q hc;obtain⟨c0,c1,c2⟩:=kH R;clear R;have cN:=B.cell;have hz0:w.heap.size<wr.heap.size:=B.lt;have zf:w.heap.size+1<wr.heap.size:=C.lt;gi_wp2_with fail
    refine⟨trivial,?_⟩;refine(cw.2 (tN b _)).mono ?_;rintro e w1 ⟨rfl,j⟩;gi_wp2_with fail
    refine⟨trivial,?_⟩;refine(cw.2 (uC b.n _ G)).mono ?_;rintro e w1 ⟨rfl,rfl⟩;have P:aG W0 w1:=aE (U.alloc U.size _) j;have o:Boxed w1 (w.heap.size+1) 4 (.bool false):=(P.block _ om).trans bR;have cR:=o.cell;have fR:=o.frozen;clear c0 c1 c2 cN;gi_wp2
    ·have hv:cO b.n=false:=nf aq
     have z:=(o.set (.bool false)).cell;refine⟨.bool false,?_,by rw[HV.oQ,tF A (by rw[←HB.oQ];exact hv)],(M.trans (P.mono om)).setCell (p:=(Y (w.heap.size+1) 0)) sm _⟩
     simp[results,Tryz.f147,go_sem,z]
    ·have hv:cO b.n=true:=nt aq
     go_roundw
     case rel=>exact⟨k+1,om,gn,P,by rw[Hid,tsa A,laa,T.out,←HB.oQ];simp[hv]⟩
     case measure=>simp[intOf];omega
  ·clear zg
   rw[ltl om]at T;gi_wp2_with fail
   refine⟨trivial,?_⟩;refine(UC (n-1) _ _ _ _).mono ?_;rintro e w' ⟨rfl,rfl⟩;gi_wp2_with fail
   have bS:=Boxed.new wr 28 (.slice v (ln l) g);have za:=B.alloc (.cells #[.slice v (ln l) g] 28);have o:=C.alloc (.cells #[.slice v (ln l) g] 28);have t:aG w (wr.alloc (.cells #[.slice v (ln l) g] 28)):=F.alloc F.size _;have zf:w.heap.size+1<wr.heap.size:=C.lt;have J:(wr.alloc (.cells #[.slice v (ln l) g] 28)).heap.size=wr.heap.size+1:=by simp
   obtain⟨H,hH⟩:=cI wr.heap.size;rw[hH]at zf J bS ⊢;obtain⟨W2,zd⟩:=cI (wr.alloc (.cells #[.slice v (ln l) g] 28));rw[zd]at bS za o t J ⊢;clear zd hH B C F U
   refine wpIn_rangeFunc_ownH rfl h1 (gf:=242) (lb:=#[E H 0]) rfl trivial (enters_of func242 kr rfl)
    (JI (n-1) H g v l ze W2 bS.cell (hl.zL t)) belowK_t (belowK_b (nlq _)) (br _ _) (λ_=>rfl)
    (λu W=>(∀x∈u,gE x.1.n x.2.n=true)/\aG W2 W)
    (λc u W=>((c=.ret/\∃x∈u,gE x.1.n x.2.n=false)/\Boxed W (w.heap.size+1) 4 (.bool false))/\aG w W)
    (OwnFrom.and (ownFrom_pure _ _) (ownFrom_below (nlq _) (nlq _)))
    (λc=>OwnFrom.and (OwnFrom.and (ownFrom_pure _ _) (Own.from (boxed_own _ _ _) _)) (ownFrom_below (nlq _) om))
    ⟨sm,br _ _⟩
    (λx a' W=>∃Z B2,bC W Z 0 x.1.cells/\bC W B2 0 x.2.cells/\a'={ tmps:=#[.slice v (ln l) g,.func (.func 148) #[] #[],undef,ea w 0,E (w.heap.size+1) 0,undef,u6,E Z 0,E B2 0,.slice v (ln l) g,I (ln l),I k,.bool false,u13,u14,u15,u16,u17,u18,u19,u20,.slice v (ln l) g,.func (.func 242) #[] #[E H 0],x.1.val,x.2.val,undef,undef,undef,undef,undef,undef,undef],defers:=[]})
    (λx a' _ X a row zg hg hr=>by obtain⟨Z,B2,e1,e2,e3⟩:=zg;exact⟨Z,B2,fH e1 hg (λr e=>(hr r e).2),fH e2 hg (λr e=>(hr r e).2),e3⟩)
    ?assign ?body ?done ?stop
   case assign=>
    rintro lp u x W K ⟨hp,d⟩ N;gi_wp2
    exact N _ _ (((KeepsOthers.alloc _ _).trans (KeepsOthers.alloc _ _)).from _) (((br _ W).alloc d.size _).alloc (by have:=d.size;simp;omega) _) ⟨hp,(d.alloc d.size _).alloc (by have:=d.size;simp;omega) _⟩
     ⟨W.heap.size,W.heap.size+1,(gP W _ 34 rfl _ _ _).zL ((br _ _).alloc (nlq _) _),gP _ _ 34 sm _ _ _,rfl⟩
   case body=>
    rintro lp u x a' W hl' ⟨r,hr⟩ ⟨hp,d⟩ ⟨Z,B2,e1,e2,rfl⟩ hlt';have zh:Boxed W w.heap.size 187 (.func (.func 148) #[] #[]):=(d.block _ om).trans za;have m:Boxed W (w.heap.size+1) 4 (.bool false):=(d.block _ om).trans o;obtain⟨c0,c1,c2⟩:=kH e1;obtain⟨d0,d1,d2⟩:=kH e2;rw[nza]at c1 c2 d1 d2;have zi:Nonempty (cV W):=⟨⟨W,br _ _⟩⟩;have f0:=cV.cell c0;have f1:=cV.cell c1;have f2:=cV.cell c2;have g0:=cV.cell d0;have g1:=cV.cell d1;have g2:=cV.cell d2;have fN:=cV.cell zh.cell;clear c0 c1 c2 d0 d1 d2 e1 e2;gi_wp2_with fail
    refine qV kr kr kr ?_
    repeat (go_big_quiet_step ((go_at_call 148;exact cV.call _ (tN _ _))))
    refine wpQuiet_nil ?_;rintro _ ⟨s,rfl⟩;have j:=s.h;generalize s.w=w1 at j;clear s f0 f1 f2 g0 g1 g2 fN zi;have L:Boxed w1 (w.heap.size+1) 4 (.bool false):=(j.block _ m.lt).trans m;have cR:=L.cell;have fR:=L.frozen;have zb:aG w w1:=(t.trans (d.mono om)).trans (j.mono (by have:=d.size;omega));gi_wp2
    ·have S:gE x.1.n x.2.n=false:=nf aq
     exact⟨((cA j).trans (KeepsOthers.setCell _ _ _)).from _,⟨⟨rfl,x,lma.2 (.inr sm),S⟩,L.set _⟩,zb.setCell (p:=(Y (w.heap.size+1) 0)) sm _⟩
    ·have S:gE x.1.n x.2.n=true:=nt aq
     exact⟨(cA j).from _,j.mono d.size,λy hy=>(lma.1 hy).elim (hp y) (λe=>by simp at e;subst e;exact S),d.trans (j.mono d.size)⟩
   case done=>
    rintro D zs W hD rfl ⟨hp,d⟩ N;have m:Boxed W (w.heap.size+1) 4 (.bool false):=(d.block _ om).trans o;have cR:=m.cell;have fR:=m.frozen;gi_wp2;have O:=(KeepsOthers.setCell W (Y (w.heap.size+1) 0) (.bool true)).same D _ N rfl;refine⟨sm,.inl ⟨_,_,rfl,rtd O,?_⟩⟩;have z:=cell_kept (m.set (.bool true)).cell (grownBy_putObj' _ D (.deferred none)) (λr e=>by cases e;exact⟨_,O,rfl⟩);refine⟨.bool true,?_,by rw[HV.oQ,QB T.out hp],(((t.trans (d.mono om)).setCell (p:=(Y (w.heap.size+1) 0)) sm _).trans (belowK_b (w:=w) (nlq _) _ D _ _ om O rfl rfl))⟩
    simp[results,Tryz.f147,go_sem,z]
   case stop=>
    rintro D c u W hD ⟨q,hq,rfl⟩ ⟨⟨⟨rfl,x,hx,hy⟩,m⟩,d⟩ N;gi_wp2;refine⟨sm,.inl ⟨_,_,rfl,rtd N,?_⟩⟩;have z:=cell_kept m.cell (grownBy_putObj' _ D (.deferred none)) (λr e=>by cases e;exact⟨_,N,rfl⟩);refine⟨.bool false,?_,by rw[HV.oQ,QH hq hx hy],d.trans (belowK_b (w:=w) (nlq _) W D _ _ om N rfl rfl)⟩
    simp[results,Tryz.f147,go_sem,z]
theorem QK (c:Oa)(a:Nat)(l:List Fx)(b:ln l<=1048576)(h:∀f∈l,f.n.size<=9223372036854775807)(w:Wd)(g:Xs 3 Fx.cells w c l):
 aW 147 #[.slice c (ln l) a,.func (.func 148) #[] #[]] w λe d=>e=rt (.bool (bX Fx.n l))/\aG w d:=
 cw.1 (UX 6 om c a l b h w g)
end Go.Proofs.YtoolgmmljacfmaaGreatDoor
namespace Go.Proofs.YtoolgmmljacfmaaGreatDoor
variable {l:List Fx}{sz:Nat}{w:Wd}{d:Oa}
def jJ (l:List Fx)(i:Nat)(f:Fx):Bool:=gW f.x f.y&&!zS (l.take i) f.x f.y
def jH (l:List Fx):Nat->Bool
 |0=>true
 |k+1=>jH l k&&jJ l k (iW l k)
def bU (l:List Fx):Bool:=decide (l.length<=4)&&(bX Fx.n l&&jH l l.length)
theorem sP {k:Nat}(h:jJ l k (iW l k)=false):∀m,k<m->jH l m=false
 |0,hm=>absurd hm om
 |m+1,hm=>by
  rw[jH];by_cases e:k=m;·subst e;rw[h,Bool.and_false]
  ·rw[sP h m om];rfl
theorem Xs.take {α:Type}{c:α->List Va}{l:List α}(h:Xs sz c w d l)(k:Nat):Xs sz c w d (l.take k):=by
 rcases h with h|⟨e,b,h,f⟩;·exact Or.inl (by rw[h];simp)
 ·refine Or.inr ⟨e,b,h,λj g=>?_⟩;have a:j<ln l:=by simp at g;omega
  have:=f j a;simpa using this
theorem GR (l:List Fx)(k:Nat)(hk:k<=ln l)(b:Oa)(a:Nat)(x y:Int)(w:Wd)(c:Xs 3 Fx.cells w b l)(hn:ln l<=1048576):
 aW 188 #[.slice b k a,I x,I y] w λe w'=>e=rt (.bool (zS (l.take k) x y))/\aG w w':=by
 have h:=oB (l.take k) b a x y w (c.take k) so;rwa[show(ln (l.take k))=k by simp;omega]at h
theorem J3 (l:List Fx)(k:Nat)(c:k<=ln l)(b:Oa)(a:Nat)(x y:Int)(v:Bool)(g:zS (l.take k) x y=v)(w:Wd)(d:Xs 3 Fx.cells w b l)(f:ln l<=1048576):
 aW 188 #[.slice b k a,I x,I y] w λe w'=>e=rt (.bool v)/\aG w w':=by
 subst g;exact GR l k c b a x y w d f
theorem BP (x y:Int)(v:Bool)(a:gW x y=v)(w:Wd):aW 187 #[I x,I y] w λe w'=>e=rt (.bool v)/\w'=w:=by
 subst a;exact qE x y w
theorem AL (l:List Fx)(C:Oa)(b:Nat)(hcap:ln l<=b)(_hc2:b<=9223372036854775807)(w:Wd)(H:Xs 3 Fx.cells w C l)(L:ln l<=1048576):
 aW 149 #[.slice C (ln l) b] w λe w'=>e=rt (.bool (jH l (ln l)))/\aG w w':=by
 obtain⟨V,z⟩:=bQ (jH l (ln l));rw[←z];have v:=aI z;clear z
 go_enter Tryz.func149,Tryz.ntmps149
 go_wp2
 go_loopw [7] (λi wr=>∃k:Nat,k<=ln l/\i=I k/\aG w wr/\Hid (jH l k=true)) (λi _=>ln l-(intOf i).toNat)
 case atStart=>exact⟨0,nz _,rfl,br _ _,by simp[Hid,jH]⟩
 case round=>
  obtain⟨k,K,rfl,r,q⟩:=hrel
  by_cases a:k<ln l
  ·have B:=H
   rcases H with h|⟨bl,off,rfl,G⟩
   ·subst h;simp at a
   ·have j:=(G k a).zL r
    obtain⟨f,d⟩:=bQ (iW l k);rw[←gC l k a,←d]at j;have t:=aI d;clear d G;obtain⟨c0,c1,c2⟩:=kH j;clear j;have hq0:(0:Int)<=(k:Int):=om
    have hq1:(k:Int)<=(b:Int):=om
    have hne:Nonempty (cV (wr.alloc (fo f))):=⟨⟨_,br _ _⟩⟩;have g:aG w (wr.alloc (fo f)):=r.alloc r.size _;have D:∀s:cV (wr.alloc (fo f)),s.w.cell? (ya wr 1)=some (I f.x):=cV.cell sm;have F:∀s:cV (wr.alloc (fo f)),s.w.cell? (ya wr 2)=some (I f.y):=cV.cell sm
    rcases bfo (gW f.x f.y)with p|p
    ·obtain⟨o,J⟩:=cI (zS (l.take k) f.x f.y)
     have u:=aI J;clear J;go_wp2_with fail
     refine aY kr kr ?_
     repeat (go_big_quiet_step (first|(go_at_call 187;exact cV.same _ (BP _ _ _ p _))|(go_at_call 188;exact cV.call _ (J3 l k K _ _ _ _ _ u.oQ _ (B.zL (aE g (cV.h _))) L))))
     refine wpQuiet_nil ?_;rintro _ ⟨s,rfl⟩;have c:aG w s.w:=aE g s.h;clear D F;go_wp2
     ·have m:o=true:=aq
      subst m;go_ret;exact⟨aF (by rw[v.oQ,sP (k:=k) (by rw[←t.oQ,jJ,u.oQ,p];rfl) _ a]),c⟩
     ·have m:o=false:=aq
      subst m
      go_roundw
      case rel=>exact⟨k+1,om,gn,c,by rw[Hid,jH,q.out,←t.oQ,jJ,u.oQ,p];rfl⟩
      case measure=>simp[intOf];omega
    ·go_wp2_with fail
     refine aY kr kr ?_
     repeat (go_big_quiet_step ((go_at_call 187;exact cV.same _ (BP _ _ _ p _))))
     refine wpQuiet_nil ?_;rintro _ ⟨s,rfl⟩;have c:aG w s.w:=aE g s.h;clear D F;go_wp2
     go_ret;exact⟨aF (by rw[v.oQ,sP (k:=k) (by rw[←t.oQ,jJ,p];rfl) _ a]),c⟩
  ·have A:k=ln l:=om
   go_wp2
   go_ret;exact⟨aF (by rw[v.oQ,←q.out,A]),r⟩
end Go.Proofs.YtoolgmmljacfmaaGreatDoor
namespace Go.Proofs.YtoolgmmljacfmaaGreatDoor
open Go.Shelf
attribute [local go_sem] Oper.semAt_some
variable {l:List Hx}{k:Nat}
theorem sG (h:k<ln l)(a:cO l[k].n=false):bX Hx.n l=false:=by
 have:(l.all λx=>cO x.n)=false:=by
  rw[befq];intro ha;have:=lat.1 ha l[k] (lgm h);rw[a]at this;cases this
 rw[bX,this];rfl
theorem LN (a:(l.all λx=>cO x.n)=true) (h:∀x∈cS (mB l) (ln l-1),gE x.1.n x.2.n=true):bX Hx.n l=true:=by
 have ha:kR Hx.n l=true:=by
  refine(iU Hx.n l).2 λi b=>?_;have:=h (mB l i) (by simp only[cS,lmm,lmr];exact⟨i,om,rfl⟩);simp only[mB]at this;rwa[dB l i om,dB l (i+1) b]at this
 rw[bX,a,ha];rfl
theorem K0 (hk:k<=ln l-1){x:Hx×Hx}(hx:x∈cS (mB l) k)(h:gE x.1.n x.2.n=false):bX Hx.n l=false:=by
 simp only[cS,lmm,lmr]at hx;obtain⟨i,hi,rfl⟩:=hx;simp only[mB]at h;rw[dB l i om,dB l (i+1) om]at h
 have:kR Hx.n l=false:=by
  rw[befq];intro ha;have:=(iU Hx.n l).1 ha i om;rw[h]at this;cases this
 rw[bX,this,Bool.and_false]
theorem vF (f:Hx)(w:Wd):
 aW 151 #[f.val] w λe w'=>e=rt (.string f.n)/\aG w w':=by
 go_enter func151,ntmps151;go_wp2;go_ret;exact⟨rfl,(br _ _).alloc (nlq _) _⟩
theorem UQ (n:Nat)(hn:6<=n)(v:Oa)(g:Nat)(l:List Hx)(ze:ln l<=1048576)(zg:∀f∈l,f.n.size<=9223372036854775807)(w:Wd)(hl:Xs 3 Hx.cells w v l):
 CallsIn Fence.wide n prog 150 #[.slice v (ln l) g,.func (.func 151) #[] #[]] w λe W'=>e=rt (.bool (bX Hx.n l))/\aG w W':=by
 obtain⟨V,hV⟩:=bQ (bX Hx.n l);rw[←hV];have HV:=aI hV;clear hV;have h1:1<=n:=om
 refine callsIn_of_wp_marks func150 rfl trivial ?_ rfl;simp only[ntmps150,lsz,llc,lln,Nat.reduceAdd,Nat.reduceSub,ars,arz,lpt,lap,lna,lca];gi_wp2;have bN:=(Boxed.new w 190 (.func (.func 151) #[] #[])).alloc (.cells #[.bool false] 4);have bR:=Boxed.new (w.alloc (.cells #[.func (.func 151) #[] #[]] 190)) 4 (.bool false);simp only[wsa]at bR;have M:aG w ((w.alloc (.cells #[.func (.func 151) #[] #[]] 190)).alloc (.cells #[.bool false] 4)):=((br _ w).alloc (nlq _) _).alloc sm _;have G:((w.alloc (.cells #[.func (.func 151) #[] #[]] 190)).alloc (.cells #[.bool false] 4)).heap.size=w.heap.size+2:=by simp
 obtain⟨W0,zc⟩:=cI ((w.alloc (.cells #[.func (.func 151) #[] #[]] 190)).alloc (.cells #[.bool false] 4));rw[zc]at bN bR M G ⊢;clear zc
 gi_loopw [11] (λi wr=>∃k:Nat,k<=ln l/\i=I k/\aG W0 wr/\Hid ((l.take k).all (λx=>cO x.n)=true)) (λi _=>ln l-(intOf i).toNat)
 case atStart=>exact⟨0,nz _,rfl,br _ _,by simp[Hid]⟩
 case round=>
  obtain⟨k,hk,rfl,U,T⟩:=hrel;have B:Boxed wr w.heap.size 190 (.func (.func 151) #[] #[]):=(U.block _ om).trans bN;have C:Boxed wr (w.heap.size+1) 4 (.bool false):=(U.block _ om).trans bR;have F:aG w wr:=M.trans (U.mono om)
  by_cases A:k<ln l
  ·rcases hl with h|⟨bl,off,rfl,hc⟩
   ·subst h;simp at A
   ·have R:=(hc k A).zL F
    have G:=zg l[k] (lgm A);obtain⟨b,Q⟩:=bQ (l[k]);rw[←Q]at R G;have HB:=aI Q;clear Q hc;obtain⟨c0,c1,c2⟩:=gN R;clear R;have cN:=B.cell;have hz0:w.heap.size<wr.heap.size:=B.lt;have zf:w.heap.size+1<wr.heap.size:=C.lt;gi_wp2_with fail
    refine⟨trivial,?_⟩;refine(cw.2 (vF b _)).mono ?_;rintro e w1 ⟨rfl,j⟩;gi_wp2_with fail
    refine⟨trivial,?_⟩;refine(cw.2 (uC b.n _ G)).mono ?_;rintro e w1 ⟨rfl,rfl⟩;have P:aG W0 w1:=aE (U.alloc U.size _) j;have o:Boxed w1 (w.heap.size+1) 4 (.bool false):=(P.block _ om).trans bR;have cR:=o.cell;have fR:=o.frozen;clear c0 c1 c2 cN;gi_wp2
    ·have hv:cO b.n=false:=nf aq
     have z:=(o.set (.bool false)).cell;refine⟨.bool false,?_,by rw[HV.oQ,sG A (by rw[←HB.oQ];exact hv)],(M.trans (P.mono om)).setCell (p:=(Y (w.heap.size+1) 0)) sm _⟩
     simp[results,Tryz.f150,go_sem,z]
    ·have hv:cO b.n=true:=nt aq
     go_roundw
     case rel=>exact⟨k+1,om,gn,P,by rw[Hid,tsa A,laa,T.out,←HB.oQ];simp[hv]⟩
     case measure=>simp[intOf];omega
  ·clear zg
   rw[ltl om]at T;gi_wp2_with fail
   refine⟨trivial,?_⟩;refine(TI (n-1) _ _ _ _).mono ?_;rintro e w' ⟨rfl,rfl⟩;gi_wp2_with fail
   have bS:=Boxed.new wr 30 (.slice v (ln l) g);have za:=B.alloc (.cells #[.slice v (ln l) g] 30);have o:=C.alloc (.cells #[.slice v (ln l) g] 30);have t:aG w (wr.alloc (.cells #[.slice v (ln l) g] 30)):=F.alloc F.size _;have zf:w.heap.size+1<wr.heap.size:=C.lt;have J:(wr.alloc (.cells #[.slice v (ln l) g] 30)).heap.size=wr.heap.size+1:=by simp
   obtain⟨H,hH⟩:=cI wr.heap.size;rw[hH]at zf J bS ⊢;obtain⟨W2,zd⟩:=cI (wr.alloc (.cells #[.slice v (ln l) g] 30));rw[zd]at bS za o t J ⊢;clear zd hH B C F U
   refine wpIn_rangeFunc_ownH rfl h1 (gf:=243) (lb:=#[E H 0]) rfl trivial (enters_of func243 kr rfl)
    (I7 (n-1) H g v l ze W2 bS.cell (hl.zL t)) belowK_t (belowK_b (nlq _)) (br _ _) (λ_=>rfl)
    (λu W=>(∀x∈u,gE x.1.n x.2.n=true)/\aG W2 W)
    (λc u W=>((c=.ret/\∃x∈u,gE x.1.n x.2.n=false)/\Boxed W (w.heap.size+1) 4 (.bool false))/\aG w W)
    (OwnFrom.and (ownFrom_pure _ _) (ownFrom_below (nlq _) (nlq _)))
    (λc=>OwnFrom.and (OwnFrom.and (ownFrom_pure _ _) (Own.from (boxed_own _ _ _) _)) (ownFrom_below (nlq _) om))
    ⟨sm,br _ _⟩
    (λx a' W=>∃Z B2,bC W Z 0 x.1.cells/\bC W B2 0 x.2.cells/\a'={ tmps:=#[.slice v (ln l) g,.func (.func 151) #[] #[],undef,ea w 0,E (w.heap.size+1) 0,undef,u6,E Z 0,E B2 0,.slice v (ln l) g,I (ln l),I k,.bool false,u13,u14,u15,u16,u17,u18,u19,u20,.slice v (ln l) g,.func (.func 243) #[] #[E H 0],x.1.val,x.2.val,undef,undef,undef,undef,undef,undef,undef],defers:=[]})
    (λx a' _ X a row zg hg hr=>by obtain⟨Z,B2,e1,e2,e3⟩:=zg;exact⟨Z,B2,fH e1 hg (λr e=>(hr r e).2),fH e2 hg (λr e=>(hr r e).2),e3⟩)
    ?assign ?body ?done ?stop
   case assign=>
    rintro lp u x W K ⟨hp,d⟩ N;gi_wp2
    exact N _ _ (((KeepsOthers.alloc _ _).trans (KeepsOthers.alloc _ _)).from _) (((br _ W).alloc d.size _).alloc (by have:=d.size;simp;omega) _) ⟨hp,(d.alloc d.size _).alloc (by have:=d.size;simp;omega) _⟩
     ⟨W.heap.size,W.heap.size+1,(gP W _ 74 rfl _ _ _).zL ((br _ _).alloc (nlq _) _),gP _ _ 74 sm _ _ _,rfl⟩
   case body=>
    rintro lp u x a' W hl' ⟨r,hr⟩ ⟨hp,d⟩ ⟨Z,B2,e1,e2,rfl⟩ hlt';have zh:Boxed W w.heap.size 190 (.func (.func 151) #[] #[]):=(d.block _ om).trans za;have m:Boxed W (w.heap.size+1) 4 (.bool false):=(d.block _ om).trans o;obtain⟨c0,c1,c2⟩:=gN e1;obtain⟨d0,d1,d2⟩:=gN e2;rw[nza]at c1 c2 d1 d2;have zi:Nonempty (cV W):=⟨⟨W,br _ _⟩⟩;have f0:=cV.cell c0;have f1:=cV.cell c1;have f2:=cV.cell c2;have g0:=cV.cell d0;have g1:=cV.cell d1;have g2:=cV.cell d2;have fN:=cV.cell zh.cell;clear c0 c1 c2 d0 d1 d2 e1 e2;gi_wp2_with fail
    refine qV kr kr kr ?_
    repeat (go_big_quiet_step ((go_at_call 151;exact cV.call _ (vF _ _))))
    refine wpQuiet_nil ?_;rintro _ ⟨s,rfl⟩;have j:=s.h;generalize s.w=w1 at j;clear s f0 f1 f2 g0 g1 g2 fN zi;have L:Boxed w1 (w.heap.size+1) 4 (.bool false):=(j.block _ m.lt).trans m;have cR:=L.cell;have fR:=L.frozen;have zb:aG w w1:=(t.trans (d.mono om)).trans (j.mono (by have:=d.size;omega));gi_wp2
    ·have S:gE x.1.n x.2.n=false:=nf aq
     exact⟨((cA j).trans (KeepsOthers.setCell _ _ _)).from _,⟨⟨rfl,x,lma.2 (.inr sm),S⟩,L.set _⟩,zb.setCell (p:=(Y (w.heap.size+1) 0)) sm _⟩
    ·have S:gE x.1.n x.2.n=true:=nt aq
     exact⟨(cA j).from _,j.mono d.size,λy hy=>(lma.1 hy).elim (hp y) (λe=>by simp at e;subst e;exact S),d.trans (j.mono d.size)⟩
   case done=>
    rintro D zs W hD rfl ⟨hp,d⟩ N;have m:Boxed W (w.heap.size+1) 4 (.bool false):=(d.block _ om).trans o;have cR:=m.cell;have fR:=m.frozen;gi_wp2;have O:=(KeepsOthers.setCell W (Y (w.heap.size+1) 0) (.bool true)).same D _ N rfl;refine⟨sm,.inl ⟨_,_,rfl,rtd O,?_⟩⟩;have z:=cell_kept (m.set (.bool true)).cell (grownBy_putObj' _ D (.deferred none)) (λr e=>by cases e;exact⟨_,O,rfl⟩);refine⟨.bool true,?_,by rw[HV.oQ,LN T.out hp],(((t.trans (d.mono om)).setCell (p:=(Y (w.heap.size+1) 0)) sm _).trans (belowK_b (w:=w) (nlq _) _ D _ _ om O rfl rfl))⟩
    simp[results,Tryz.f150,go_sem,z]
   case stop=>
    rintro D c u W hD ⟨q,hq,rfl⟩ ⟨⟨⟨rfl,x,hx,hy⟩,m⟩,d⟩ N;gi_wp2;refine⟨sm,.inl ⟨_,_,rfl,rtd N,?_⟩⟩;have z:=cell_kept m.cell (grownBy_putObj' _ D (.deferred none)) (λr e=>by cases e;exact⟨_,N,rfl⟩);refine⟨.bool false,?_,by rw[HV.oQ,K0 hq hx hy],d.trans (belowK_b (w:=w) (nlq _) W D _ _ om N rfl rfl)⟩
    simp[results,Tryz.f150,go_sem,z]
theorem PW (c:Oa)(a:Nat)(l:List Hx)(b:ln l<=1048576)(h:∀f∈l,f.n.size<=9223372036854775807)(w:Wd)(g:Xs 3 Hx.cells w c l):
 aW 150 #[.slice c (ln l) a,.func (.func 151) #[] #[]] w λe d=>e=rt (.bool (bX Hx.n l))/\aG w d:=
 cw.1 (UQ 6 om c a l b h w g)
end Go.Proofs.YtoolgmmljacfmaaGreatDoor
namespace Go.Proofs.YtoolgmmljacfmaaGreatDoor
def wX (n:Nat):Bool:=decide (n<=4)
theorem iO (l:List Fx):bU l=(wX (ln l)&&(bX Fx.n l&&jH l (ln l))):=rfl
theorem WO (n a:Nat)(b:Oa)(w:Wd)(hn:n<=1048576):
 aW 145 #[.slice b n a] w λe w'=>e=rt (.bool (wX n))/\w'=w:=by
 go_enter func145,ntmps145;go_wp2;go_ret;refine⟨aF ?_,rfl⟩;rw[beii];simp only[wX,dte];omega
theorem MQ (d:Oa)(b:Nat)(l:List Fx)(a:ln l<=1048576)(i:∀f∈l,f.n.size<=9223372036854775807)(w:Wd)(h:Xs 3 Fx.cells w d l):
 aW 146 #[.slice d (ln l) b] w λe g=>e=rt (.bool (bX Fx.n l))/\aG w g:=by
 go_enter func146,ntmps146;go_wp2_with (go_at_call 147;refine(QK _ _ l a i _ h).mono ?_;rintro e w1 ⟨rfl,c⟩);go_ret;exact⟨rfl,c⟩
def MF (l:List Fx)(k:Nat):Prop:=(0<k->wX l.length=true)/\(1<k->bX Fx.n l=true)/\(2<k->jH l l.length=true)
theorem IG (l:List Fx)(r:Oa)(b G:Nat)(s:ln l<=b)(v:b<=9223372036854775807)(w:Wd)(z:Xs 3 Fx.cells w r l)(x:ln l<=1048576)(F:∀f∈l,f.n.size<=9223372036854775807)
 (m:w.cell? (Y G 0)=some (.func (.func 145) #[] #[]))(o:w.cell? (Y G 1)=some (.func (.func 146) #[] #[]))(q:w.cell? (Y G 2)=some (.func (.func 149) #[] #[])):
 aW 144 #[.slice r (ln l) b,.slice (some (Y G 0)) 3 3] w λe w'=>e=rt (.bool (bU l))/\aG w w':=by
 obtain⟨V,u⟩:=bQ (bU l);rw[←u];have t:=aI u;clear u
 go_enter func144,ntmps144
 go_wp2
 go_loopw [9] (λi wr=>∃k:Nat,k<=3/\i=I k/\aG w wr/\Hid (MF l k)) (λi _=>3-(intOf i).toNat)
 case atStart=>exact⟨0,om,rfl,br _ _,by simp[Hid,MF]⟩
 case round=>
  obtain⟨k,hk,rfl,a,g⟩:=hrel;have d:k=0∨k=1∨k=2∨k=3:=om
  rcases d with A|B|C|D
  ·subst A
   have y:=(a.cell (p:=(Y G 0)) (aA m)).trans m;clear m o q
   go_wp2_with (go_at_call 145;refine(WO (ln l) b r _ x).mono ?_;rintro e wr ⟨rfl,rfl⟩)
   ·have c:wX (ln l)=false:=nf aq
    go_ret;exact⟨aF (by rw[t.oQ];exact(show bU l=false from by rw[iO,c];rfl).symm),a⟩
   ·have c:wX (ln l)=true:=nt aq
    go_roundw
    case rel=>exact⟨1,om,gn,a,⟨λ_=>c,λh=>absurd h om,λh=>absurd h om⟩⟩
    case measure=>simp[intOf]
  ·subst B
   have y:=(a.cell (p:=(Y G 1)) (aA o)).trans o;clear m o q
   go_wp2_with (go_at_call 146;refine(MQ r b l x F _ (z.zL a)).mono ?_;rintro e w1 ⟨rfl,j⟩;have a:aG w w1:=bI a (nlq _) j)
   ·have c:bX Fx.n l=false:=nf aq
    go_ret;exact⟨aF (by rw[t.oQ];exact(show bU l=false from by rw[iO,c];simp).symm),a⟩
   ·have c:bX Fx.n l=true:=nt aq
    go_roundw
    case rel=>exact⟨2,om,gn,a,⟨λ_=>g.out.1 om,λ_=>c,λh=>absurd h om⟩⟩
    case measure=>simp[intOf]
  ·subst C
   have y:=(a.cell (p:=(Y G 2)) (aA q)).trans q;clear m o q
   go_wp2_with (go_at_call 149;refine(AL l r b s v _ (z.zL a) x).mono ?_;rintro e w1 ⟨rfl,j⟩;have a:aG w w1:=bI a (nlq _) j)
   ·have c:jH l (ln l)=false:=nf aq
    go_ret;exact⟨aF (by rw[t.oQ];exact(show bU l=false from by rw[iO,c];simp).symm),a⟩
   ·have c:jH l (ln l)=true:=nt aq
    go_roundw
    case rel=>exact⟨3,om,gn,a,⟨λ_=>g.out.1 om,λ_=>g.out.2.1 om,λ_=>c⟩⟩
    case measure=>simp[intOf]
  ·subst D
   clear m o q;go_wp2
   go_ret;obtain⟨H,q1,J⟩:=g.out;exact⟨aF (by rw[t.oQ,iO,H om,q1 om,J om];rfl),a⟩
theorem sE (l:List Fx)(c:Oa)(a:Nat)(b:ln l<=a)(g:a<=9223372036854775807)(w:Wd)(h:Xs 3 Fx.cells w c l)(i:ln l<=1048576)(j:∀f∈l,f.n.size<=9223372036854775807):
 aW 116 #[.slice c (ln l) a] w λe w'=>e=rt (.bool (bU l))/\aG w w':=by
 go_enter func116,ntmps116;go_wp2_with fail;refine(IG l c a w.heap.size b g _ (h.zL (aC (br _ _) _)) i j sm sm sm).mono ?_;rintro e w1 ⟨rfl,d⟩;go_wp2_with fail;go_ret;exact⟨rfl,aE (aC (br _ _) _) d⟩
variable {a:Int}{l:List Bx}{k:Nat}
def fY (now:Int)(l:List Bx):Bool:=l.all λb=>decide (now<=b.i)
theorem J4 (h:k<ln l)(b:¬a<=l[k].i):fY a l=false:=uP _ l k h (def0 b)
theorem CE (l:List Bx)(o:Oa)(j:Nat)(a:Int)(w:Wd)(q:jG w o l)(hn:ln l<=1048576):
 aW 66 #[.slice o (ln l) j,I a] w λe w'=>e=rt (.bool (fY a l))/\w'=w:=by
 go_enter func66,ntmps66
 go_wp2
 go_loop [5] (λi=>∃k:Nat,k<=ln l/\i=I k/\Hid (fY a (l.take k)=true)) (λi=>ln l-(intOf i).toNat)
 case atStart=>exact⟨0,nz _,rfl,by simp[Hid,fY]⟩
 case round=>
  obtain⟨k,hk,rfl,d⟩:=hrel
  by_cases c:k<ln l
  ·rcases q with h|⟨bl,off,rfl,p⟩
   ·subst h;simp at c
   ·have g:=p k c
    obtain⟨b,f⟩:=bQ (l[k]);rw[←f]at g;have n:=aI f;clear f p;obtain⟨c0,c1,c2,c3,c4,c5⟩:=g
    by_cases r:a<=b.i
    ·have m:¬b.i<a:=om
     go_wp2
     go_round
     case rel=>exact⟨k+1,om,gn,by rw[Hid,fY,uW _ l k c];rw[Hid,fY]at d;rw[d,←n.oQ,det r];rfl⟩
     case measure=>simp[intOf];omega
    ·have m:b.i<a:=om
     go_wp2
     go_ret;exact⟨aF (J4 c (by rw[←n.oQ];omega)).symm,rfl⟩
  ·go_wp2
   go_ret;rw[ltl om]at d;exact⟨aF d.out.symm,rfl⟩
theorem BM (l:List Bx)(p:Oa)(m:Nat)(a:Int)(w:Wd)(r:jG w p l)(hn:ln l<=1048576):
 aW 193 #[.slice p (ln l) m,I a] w λe w'=>e=rt (.bool (fY a l))/\aG w w':=by
 go_enter func193,ntmps193
 go_wp2
 go_loopw [9] (λi wr=>∃k:Nat,k<=ln l/\i=I k/\aG w wr/\Hid (fY a (l.take k)=true)) (λi _=>ln l-(intOf i).toNat)
 case atStart=>exact⟨0,nz _,rfl,br _ _,by simp[Hid,fY]⟩
 case round=>
  obtain⟨k,hk,rfl,g,d⟩:=hrel
  by_cases c:k<ln l
  ·rcases r with h|⟨bl,off,rfl,q⟩
   ·subst h;simp at c
   ·have j:=(q k c).zL g
    obtain⟨b,f⟩:=bQ (l[k]);rw[←f]at j;have o:=aI f;clear f q;obtain⟨c0,c1,c2,c3,c4,c5⟩:=j
    by_cases s:a<=b.i
    ·have n:¬b.i<a:=om
     go_wp2
     go_roundw
     case rel=>exact⟨k+1,om,gn,g.alloc g.size _,by rw[Hid,fY,uW _ l k c];rw[Hid,fY]at d;rw[d,←o.oQ,det s];rfl⟩
     case measure=>simp[intOf];omega
    ·have n:b.i<a:=om
     go_wp2
     go_ret;exact⟨aF (J4 c (by rw[←o.oQ];omega)).symm,g.alloc g.size _⟩
  ·go_wp2
   go_ret;rw[ltl om]at d;exact⟨aF d.out.symm,g⟩
structure Bk where
 now:Int
 fa:Option Addr
 fl:List Fx
 fc:Nat
 ha:Option Addr
 hl:List Hx
 hc:Nat
abbrev fs (b:Bk):Value:=.slice b.fa b.fl.length b.fc
abbrev hs (b:Bk):Value:=.slice b.ha b.hl.length b.hc
abbrev bo (b:Bk):Obj:=.cells #[.int .i64 b.now,fs b,hs b] 32
abbrev Bk.val (b:Bk):Value:=.agg #[I b.now,.slice b.fa b.fl.length b.fc,.slice b.ha b.hl.length b.hc]
def oL (n:Int):Bool:=decide (0<=n/\n<=10000)
theorem UB (b:Bk)(w:Wd):
 aW 114 #[b.val] w λe w'=>e=rt (.bool (oL b.now))/\aG w w':=by
 go_enter func114,ntmps114
 go_wp2
 all_goals go_ret
 all_goals refine⟨aF ?_,(br _ _).alloc (nlq _) _⟩
 all_goals (rw[beii];simp only[oL,dte,bft,false_iff];omega)
theorem TX (b:Bk)(w:Wd)(g:Xs 3 Fx.cells w b.fa b.fl)(h:ln b.fl<=1048576)(a:ln b.fl<=b.fc)(d:b.fc<=9223372036854775807)(i:∀f∈b.fl,f.n.size<=9223372036854775807):
 aW 115 #[b.val] w λe w'=>e=rt (.bool (bU b.fl))/\aG w w':=by
 go_enter func115,ntmps115;go_wp2_with (go_at_call 116;refine(sE b.fl _ _ a d _ (g.zL (aC (br _ _) _)) h i).mono ?_;rintro e w1 ⟨rfl,c⟩);go_ret;exact⟨rfl,aE (aC (br _ _) _) c⟩
def iD (n:Nat):Bool:=decide (n<=16)
theorem J7 (b:Bk)(w:Wd)(g:Xs 3 Hx.cells w b.ha b.hl)(i:ln b.hl<=1048576)(j:∀h∈b.hl,h.n.size<=9223372036854775807):
 aW 117 #[b.val] w λe w'=>e=rt (.bool (iD (ln b.hl)&&bX Hx.n b.hl))/\aG w w':=by
 obtain⟨V,a⟩:=bQ ((iD (ln b.hl)&&bX Hx.n b.hl));rw[←a];have d:=aI a;clear a;by_cases h:ln b.hl<=16
 · have f:decide ((ln b.hl:Int)<=16)=true:=by simp;omega
   go_enter func117,ntmps117;go_wp2_with (go_at_call 150;refine(PW _ _ b.hl i j _ (g.zL (aC (br _ _) _))).mono ?_;rintro e w1 ⟨rfl,c⟩)
   all_goals first
    | (go_ret
       exact⟨aF (by rw[d.oQ,iD,det h];rfl),aE (aC (br _ _) _) c⟩)
    | omega
 · have f:decide ((ln b.hl:Int)<=16)=false:=by simp;omega
   go_enter func117,ntmps117;go_wp2;go_ret;exact⟨aF (by rw[d.oQ,iD,def0 h];rfl),aC (br _ _) _⟩
variable {l:List Fx}{f:Fx}{W:Wd}{o:Obj}{v:Va}
theorem fE (s:Ba)(v:Bool)(b:cO s=v)(w:Wd)(a:s.size<=9223372036854775807):aW 101 #[.string s] w λe w'=>e=rt (.bool v)/\w'=w:=by
 subst b;exact GO s w a
theorem bO (n b a:Int)(v:Bool)(c:fQ n b a=v)(w:Wd):aW 57 #[I n,I b,I a] w λe w'=>e=rt (.bool v)/\w'=w:=by
 subst c;exact eM n b a w
structure MO (l:List Fx)(k:Nat):Prop where
 nm:(l.take k).all (λx=>cO x.n)=true
 lt:∀i,i+1<k->gE (iW l i).n (iW l (i+1)).n=true
 gd:jH l k=true
theorem MO.step (h:MO l k)(a:k<ln l)(b:cO (iW l k).n=true)(d:0<k->gE (iW l (k-1)).n (iW l k).n=true)(c:jJ l k (iW l k)=true):MO l (k+1):=by
 refine⟨by rw[tsa a,laa,h.nm];rw[gC l k a]at b;simp[b],λi hi=>?_,by rw[jH,h.gd,c];rfl⟩;by_cases e:i+1=k;·subst e;simpa using d om
 ·exact h.lt i om
theorem LJ (a:k<ln l)(h:cO (iW l k).n=false):bU l=false:=by
 rw[gC l k a]at h;rw[iO,tF a h];simp
theorem TL (hk:k<ln l)(h0:0<k)(h:gE (iW l (k-1)).n (iW l k).n=false):bU l=false:=by
 have:kR Fx.n l=false:=by
  rw[befq];intro ha;have:=(iU Fx.n l).1 ha (k-1) om;rw[←gC l (k-1) om,←gC l (k-1+1) om,show k-1+1=k by omega,h]at this;cases this
 rw[iO,bX,this];simp
theorem mJ (a:k<ln l)(h:jJ l k (iW l k)=false):bU l=false:=by
 rw[iO,sP h _ a];simp
theorem XJ (h:MO l k)(c:wX (ln l)=true)(d:k=ln l):bU l=true:=by
 subst d;have b:=h.nm;rw[ltl (nlq _)]at b
 have ha:kR Fx.n l=true:=(iU Fx.n l).2 λi a=>by
  have:=h.lt i a;rwa[gC l i om,gC l (i+1) a]at this
 rw[iO,c,bX,b,ha,h.gd];rfl
theorem xB (x y:Int):gW x y=(fQ x 0 15&&fQ y 0 15):=by
 rw[beii];simp only[gW,fQ,bat,dte];omega
theorem GF (h:fQ f.x 0 15=false):jJ l k f=false:=by rw[jJ,xB,h];rfl
theorem GA (h:fQ f.y 0 15=false):jJ l k f=false:=by rw[jJ,xB,h];simp
theorem NI (h:zS (l.take k) f.x f.y=true):jJ l k f=false:=by rw[jJ,h];simp
theorem MP (hx:fQ f.x 0 15=true)(a:fQ f.y 0 15=true)(h:zS (l.take k) f.x f.y=false):jJ l k f=true:=by rw[jJ,xB,hx,a,h];rfl
theorem I0 {a:Addr}(h:W.cell? a=some v):(W.alloc o).cell? a=some v:=((aC (br _ W) o).cell (aA h)).trans h
theorem rN (l:List Fx)(ao:Oa)(ze:Nat)(w:Wd)(hl:Xs 3 Fx.cells w ao l)(hn:ln l<=1048576)(zi:∀f∈l,f.n.size<=9223372036854775807):
 aW 58 #[.slice ao (ln l) ze] w λe w'=>e=rt (.bool (bU l))/\aG w w':=by
 obtain⟨V,hV⟩:=bQ (bU l);rw[←hV];have H:=aI hV;clear hV
 by_cases h4:ln l<=4
 ·have H4:Hid (wX (ln l)=true):=det h4
  go_enter Tryz.func58,Tryz.ntmps58
  go_wp2
  go_loopw [3] (λi wr=>∃k:Nat,k<=ln l/\i=I k/\aG w wr/\Hid (MO l k)) (λi _=>ln l-(intOf i).toNat)
  case atStart=>exact⟨0,nz _,rfl,br _ _,⟨sm,λi hi=>absurd hi om,rfl⟩⟩
  case round=>
   obtain⟨k,hk,rfl,Z,U⟩:=hrel
   by_cases m:k<ln l
   ·rcases hl with h|⟨bl,zh,rfl,W⟩
    ·subst h;simp at m
    have P:=(W k m).zL Z;have q:=zi l[k] (lgm m);obtain⟨f,O⟩:=bQ (iW l k);rw[←gC l k m,←O]at P q;have B:=aI O;clear O;obtain⟨c0,c1,c2⟩:=kH P;clear P;have t:Nonempty (cV (wr.alloc (fo f))):=⟨⟨_,br _ _⟩⟩;have o:aG w (wr.alloc (fo f)):=Z.alloc Z.size _;have J:∀s:cV (wr.alloc (fo f)),s.w.cell? (ya wr 0)=some (.string f.n):=cV.cell sm;have K:∀s:cV (wr.alloc (fo f)),s.w.cell? (ya wr 1)=some (I f.x):=cV.cell sm;have L:∀s:cV (wr.alloc (fo f)),s.w.cell? (ya wr 2)=some (I f.y):=cV.cell sm
    rcases bfo (cO f.n)with d|d
    ·by_cases zc:k=0
     ·subst zc
      rw[Nat.zero_mul,naz]at c0 c1 c2
      rcases bfo (fQ f.x 0 15)with hx|hx
      ·rcases bfo (fQ f.y 0 15)with G|G
       ·go_wp2_with fail
        refine aY kr kr ?_
        repeat (go_big_quiet_step (first|(go_at_call 101;exact cV.same _ (fE _ _ d _ q))|(go_at_call_of 57 f.x;exact cV.same _ (bO _ _ _ _ hx _))|(go_at_call_of 57 f.y;exact cV.same _ (bO _ _ _ _ G _))))
        refine wpQuiet_nil ?_;rintro _ ⟨s,rfl⟩;have b:aG w s.w:=aE o s.h;have c:=s.h;generalize s.w=w1 at b c;clear s J K L t;go_wp2
        have HX:=aI hx;have HY:=aI G;have HM:=aI d;clear hx d b c0 c1 c2
        go_loopw [5] (λi M=>∃j:Nat,j<=0/\i=I j/\Below (wr.alloc (fo f)).heap.size (wr.alloc (fo f)) M/\Hid ((l.take j).any (λg=>rO g f.x f.y)=false)) (λi _=>0-(intOf i).toNat)
        case atStart=>exact⟨0,nz _,rfl,c,by simp[Hid]⟩
        case round=>
         clear c;obtain⟨j,hj,rfl,u,F⟩:=hrel
         by_cases zb:j<0
         ·omega
         ·have T:j=0:=om
          go_wp2
          go_roundw
          case rel=>exact⟨0+1,om,gn,o.trans (u.mono (by have:=o.size;omega)),U.out.step m (by rw[←B.oQ];exact HM.oQ) (λh0=>absurd h0 om) (by rw[←B.oQ];exact MP HX.oQ HY.oQ (by rw[←T];exact F.out))⟩
          case measure=>simp[intOf];omega
       ·clear W
        go_wp2_with fail
        refine aY kr kr ?_
        repeat (go_big_quiet_step (first|(go_at_call 101;exact cV.same _ (fE _ _ d _ q))|(go_at_call_of 57 f.x;exact cV.same _ (bO _ _ _ _ hx _))|(go_at_call_of 57 f.y;exact cV.same _ (bO _ _ _ _ G _))))
        refine wpQuiet_nil ?_;rintro _ ⟨s,rfl⟩;have b:aG w s.w:=aE o s.h;have c:=s.h;generalize s.w=w1 at b c;clear s J K L t;go_wp2
        go_ret;exact⟨aF (by rw[H.oQ,mJ m (by rw[←B.oQ];exact GA G)]),b⟩
      ·clear W
       go_wp2_with fail
       refine aY kr kr ?_
       repeat (go_big_quiet_step (first|(go_at_call 101;exact cV.same _ (fE _ _ d _ q))|(go_at_call_of 57 f.x;exact cV.same _ (bO _ _ _ _ hx _))))
       refine wpQuiet_nil ?_;rintro _ ⟨s,rfl⟩;have b:aG w s.w:=aE o s.h;have c:=s.h;generalize s.w=w1 at b c;clear s J K L t;go_wp2
       go_ret;exact⟨aF (by rw[H.oQ,mJ m (by rw[←B.oQ];exact GF hx)]),b⟩
     ·have zg:0<k:=om
      have R:=(W (k-1) om).zL Z;obtain⟨a,N⟩:=bQ (iW l (k-1));rw[←gC l (k-1) om,←N]at R;have HA:=aI N;clear N zc;have g0:∀s:cV (wr.alloc (fo f)),s.w.cell? (Y bl (zh+(k-1)*3))=some (.string a.n):=cV.cell (I0 (kH R).1);clear R
      rcases bfo (gE a.n f.n)with p|p
      ·have HL:=aI p
       have za:Op.bytesLess a.n.toList f.n.toList=true:=p;clear p
       rcases bfo (fQ f.x 0 15)with hx|hx
       ·rcases bfo (fQ f.y 0 15)with G|G
        ·skip
         go_wp2_with fail
         refine aY kr kr ?_
         repeat (go_big_quiet_step (first|(go_at_call 101;exact cV.same _ (fE _ _ d _ q))|(go_at_call_of 57 f.x;exact cV.same _ (bO _ _ _ _ hx _))|(go_at_call_of 57 f.y;exact cV.same _ (bO _ _ _ _ G _))))
         refine wpQuiet_nil ?_;rintro _ ⟨s,rfl⟩;have b:aG w s.w:=aE o s.h;have c:=s.h;generalize s.w=w1 at b c;clear s J K L t g0;clear za;go_wp2
         have HX:=aI hx;have HY:=aI G;have HM:=aI d;have zd:Hid (∀M,Below (wr.alloc (fo f)).heap.size (wr.alloc (fo f)) M->M.cell? (ya wr 1)=some (I f.x)/\M.cell? (ya wr 2)=some (I f.y)):=λM hb=>⟨(hb.cell sm).trans sm,(hb.cell sm).trans sm⟩;clear hx d b c0 c1 c2
         go_loopw [5] (λi M=>∃j:Nat,j<=k/\i=I j/\Below (wr.alloc (fo f)).heap.size (wr.alloc (fo f)) M/\Hid ((l.take j).any (λg=>rO g f.x f.y)=false)) (λi _=>k-(intOf i).toNat)
         case atStart=>exact⟨0,nz _,rfl,c,by simp[Hid]⟩
         case round=>
          clear c;obtain⟨j,hj,rfl,u,F⟩:=hrel;have C:aG w _:=o.trans (u.mono (by have:=o.size;omega))
          by_cases zb:j<k
          ·have Q:=(W j om).zL C
           obtain⟨g,S⟩:=bQ (l[j]'om);rw[←S]at Q;have HG:=aI S;clear S;obtain⟨e0,e1,e2⟩:=kH Q;obtain⟨i1,i2⟩:=zd.oQ _ u;have D:Nonempty (cV wr):=⟨⟨_,br _ _⟩⟩;have p1:=cV.cell e1;have p2:=cV.cell e2;have q1:=cV.cell i1;have q2:=cV.cell i2;clear Q e0 e1 e2 i1 i2
           by_cases r:g.x=f.x
           ·by_cases A:g.y=f.y
            ·have ex:(g.x==f.x)=true:=by simp[r]
             have ey:(g.y==f.y)=true:=by simp[A]
             have X:Hid (g.x=f.x/\g.y=f.y):=⟨r,A⟩;clear r A;go_wp2_with fail
             refine aY kr kr ?_
             repeat (go_big_quiet_step (fail))
             refine wpQuiet_nil ?_;rintro _ ⟨s,rfl⟩;have v:=bI u (nlq _) s.h;have z:=bI C (nlq _) s.h;generalize s.w=w3 at v z;clear s p1 p2 q1 q2 D;go_wp2
             go_ret;exact⟨aF (by rw[H.oQ,mJ m (by rw[←B.oQ];exact NI (gU _ (l.take k) j so (by simp only[List.getElem_take];rw[←HG.oQ];exact det X.oQ)))]),z⟩
            ·have ex:(g.x==f.x)=true:=by simp[r]
             have ey:(g.y==f.y)=false:=by simp[A]
             have X:Hid (¬(g.x=f.x/\g.y=f.y)):=λh=>A h.2;clear r A;go_wp2_with fail
             refine aY kr kr ?_
             repeat (go_big_quiet_step (fail))
             refine wpQuiet_nil ?_;rintro _ ⟨s,rfl⟩;have v:=bI u (nlq _) s.h;have z:=bI C (nlq _) s.h;generalize s.w=w3 at v z;clear s p1 p2 q1 q2 D;go_wp2
             go_roundw
             case rel=>exact⟨j+1,om,gn,v,by rw[Hid,iH _ l j om,F.out,←HG.oQ,rO,def0 X.oQ];rfl⟩
             case measure=>simp[intOf];omega
           ·have ex:(g.x==f.x)=false:=by simp[r]
            have X:Hid (¬(g.x=f.x/\g.y=f.y)):=λh=>r h.1;clear r;go_wp2_with fail
            refine aY kr kr ?_
            repeat (go_big_quiet_step (fail))
            refine wpQuiet_nil ?_;rintro _ ⟨s,rfl⟩;have v:=bI u (nlq _) s.h;have z:=bI C (nlq _) s.h;generalize s.w=w3 at v z;clear s p1 p2 q1 q2 D;go_wp2
            go_roundw
            case rel=>exact⟨j+1,om,gn,v,by rw[Hid,iH _ l j om,F.out,←HG.oQ,rO,def0 X.oQ];rfl⟩
            case measure=>simp[intOf];omega
          ·have T:j=k:=om
           go_wp2
           go_roundw
           case rel=>exact⟨k+1,om,gn,C,U.out.step m (by rw[←B.oQ];exact HM.oQ) (λ_=>by rw[←HA.oQ,←B.oQ];exact HL.oQ) (by rw[←B.oQ];exact MP HX.oQ HY.oQ (by rw[←T];exact F.out))⟩
           case measure=>simp[intOf];omega
        ·skip
         go_wp2_with fail
         refine aY kr kr ?_
         repeat (go_big_quiet_step (first|(go_at_call 101;exact cV.same _ (fE _ _ d _ q))|(go_at_call_of 57 f.x;exact cV.same _ (bO _ _ _ _ hx _))|(go_at_call_of 57 f.y;exact cV.same _ (bO _ _ _ _ G _))))
         refine wpQuiet_nil ?_;rintro _ ⟨s,rfl⟩;have b:aG w s.w:=aE o s.h;have c:=s.h;generalize s.w=w1 at b c;clear s J K L t g0;go_wp2
         go_ret;exact⟨aF (by rw[H.oQ,mJ m (by rw[←B.oQ];exact GA G)]),b⟩
       ·skip
        go_wp2_with fail
        refine aY kr kr ?_
        repeat (go_big_quiet_step (first|(go_at_call 101;exact cV.same _ (fE _ _ d _ q))|(go_at_call_of 57 f.x;exact cV.same _ (bO _ _ _ _ hx _))))
        refine wpQuiet_nil ?_;rintro _ ⟨s,rfl⟩;have b:aG w s.w:=aE o s.h;have c:=s.h;generalize s.w=w1 at b c;clear s J K L t g0;go_wp2
        go_ret;exact⟨aF (by rw[H.oQ,mJ m (by rw[←B.oQ];exact GF hx)]),b⟩
      ·have HL:=aI p
       have za:Op.bytesLess a.n.toList f.n.toList=false:=p;clear p;go_wp2_with fail
       refine aY kr kr ?_
       repeat (go_big_quiet_step (first|(go_at_call 101;exact cV.same _ (fE _ _ d _ q))))
       refine wpQuiet_nil ?_;rintro _ ⟨s,rfl⟩;have b:aG w s.w:=aE o s.h;have c:=s.h;generalize s.w=w1 at b c;clear s J K L t g0;go_wp2
       go_ret;exact⟨aF (by rw[H.oQ,TL m zg (by rw[←HA.oQ,←B.oQ];exact HL.oQ)]),b⟩
    ·clear W
     go_wp2_with fail
     refine aY kr kr ?_
     repeat (go_big_quiet_step (first|(go_at_call 101;exact cV.same _ (fE _ _ d _ q))))
     refine wpQuiet_nil ?_;rintro _ ⟨s,rfl⟩;have b:aG w s.w:=aE o s.h;have c:=s.h;generalize s.w=w1 at b c;clear s J K L t;go_wp2
     go_ret;exact⟨aF (by rw[H.oQ,LJ m (by rw[←B.oQ];exact d)]),b⟩
   ·have zf:k=ln l:=om
    go_wp2
    go_ret;exact⟨aF (by rw[H.oQ,XJ U.out H4.oQ zf]),Z⟩
 ·have H4:Hid (wX (ln l)=false):=def0 h4
  go_enter Tryz.func58,Tryz.ntmps58
  go_wp2
  go_ret;exact⟨aF (by rw[H.oQ,iO,H4.oQ];rfl),br _ _⟩
