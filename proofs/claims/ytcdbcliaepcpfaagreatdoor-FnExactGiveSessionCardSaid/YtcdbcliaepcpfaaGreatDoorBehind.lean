import Derived.Test.YtcdbcliaepcpfaaGreatDoorFollF
import Derived.Test.YtcdbcliaepcpfaaGreatDoorAftIn
namespace Go.Proofs.YtcdbcliaepcpfaaGreatDoor
set_option maxRecDepth 100000
set_option maxHeartbeats 4000000
open Go.RowKit Go.Shelf
attribute [local go_sem] Oper.semAt_some
theorem V2 (F:Fence)(n:Nat)(f:F.fn 250)(d:F.round=none)(a:Option Addr)(c b:Nat)(w:World):
 CallsIn F n Tryz.prog 250 #[.slice a c b] w λe w'=>e=.returned (.func (.func 269) #[] #[.pointer (some ⟨w.heap.size,0,none⟩)])/\w'=w.alloc (.cells #[.slice a c b] 31):=by
 refine callsIn_of_wp Tryz.func250 rfl f ?_ d;simp only[Tryz.ntmps250,lsz,llc,lln,Nat.reduceAdd,Nat.reduceSub,ars,arz,lpt,lap,lna,lca];gi_wp2;go_ret;exact⟨rfl,rfl⟩
theorem L9 (n:Nat)(c i b d:Nat)(l:List Bx)(a:l.all aK=true)(m:1<=l.length)(g:l.length<=1048576)(w:World)
 (f:w.cell? ⟨c,0,none⟩=some (.slice (some ⟨i,b,none⟩) l.length d))(s:∀j (h:j<l.length),fL w i (b+j*6) l[j]):
 SeqStopsK Fence.wide n Tryz.prog 269 #[.pointer (some ⟨c,0,none⟩)] (λx:P2=>#[x.1.1.val,x.1.2.val]) (Below w.heap.size) (λA=>A=cE (lJ l a) (l.length-1)) (λo=>∃k,k<=l.length-1/\o=cE (lJ l a) k) (l.length-1) w:=λz J t W q v _ y u=>by
 have r:i<w.heap.size:=aA (s 0 (by omega)).1;have e:c<w.heap.size:=aA f;exact UM n z c w.heap.size i b d l a m g r e J t W v y ((q.cell (p:=⟨c,0,none⟩) e).trans f) (λj h=>qU (s j h) q r) u
theorem NA {l:List Bx} {a:l.all aK=true} (h:∀x∈cE (lJ l a) (l.length-1),dP x.1.1 x.1.2=true):eY l=true:=by
 refine(fC l).2 λi b=>?_;have:=h (lJ l a i) (by simp only[cE,List.mem_map,List.mem_range];exact⟨i,by omega,rfl⟩);simp only[lJ]at this;rwa[gE l i (by omega),gE l (i+1) b]at this
theorem K8 {l:List Bx}{a:l.all aK=true}{k:Nat}(hk:k<=l.length-1){x:P2}(hx:x∈cE (lJ l a) k)(h:dP x.1.1 x.1.2=false):eY l=false:=by
 simp only[cE,List.mem_map,List.mem_range]at hx;obtain⟨i,hi,rfl⟩:=hx;simp only[lJ]at h;rw[gE l i (by omega),gE l (i+1) (by omega)]at h;exact uC l i (by omega) h
theorem bO {W a:World}(h:aF W a):KeepsOthers W a:=⟨h.size,λk _ b _=>(h.block k (bU b)).trans b⟩
theorem pI {W e:World}{d:Option Nat}{f of:Nat}{b:Bx}(h:fL W f of b)(c:W.grownBy e d)(a:∀r,d=some r->∃o:Obj,W.heap[r]?=some o/\o.isCells=false):fL e f of b:=by
 obtain⟨g,i,j,k,l,m⟩:=h;exact⟨cell_kept g c a,cell_kept i c a,cell_kept j c a,cell_kept k c a,cell_kept l c a,cell_kept m c a⟩
theorem DJ (W:World)(g:Nat)(a:g=W.heap.size)(b:Bx):fL (W.alloc (.cells #[.int .i64 b.x,.int .i64 b.y,.int .i64 b.lo,.int .i64 b.hi,.int .i64 b.i,.int .i64 b.o] 56)) g 0 b:=by
 subst a;refine⟨?_,?_,?_,?_,?_,?_⟩<;>simp
theorem zA (n:Nat)(hn:6<=n)(m b d:Nat)(l:List Bx)(O:l.all aK=true)(N:1<=l.length)(C:l.length<=1048576)(w:World)(hc:∀j (h:j<l.length),fL w m (b+j*6) l[j]):
 CallsIn Fence.wide n Tryz.prog 211 #[.slice (some ⟨m,b,none⟩) l.length d] w λe W'=>e=.returned (.bool (eY l))/\aF w W':=by
 have h1:1<=n:=by omega
 refine callsIn_of_wp_marks Tryz.func211 rfl trivial ?_ rfl;simp only[Tryz.ntmps211,lsz,llc,lln,Nat.reduceAdd,Nat.reduceSub,ars,arz,lpt,lap,lna,lca];gi_wp2_with fail
 refine⟨trivial,?_⟩;refine(V2 Fence.wide (n-1) trivial rfl _ _ _ _).mono ?_;rintro e w' ⟨rfl,rfl⟩;gi_wp2_with fail
 have z:=(Boxed.new w 4 (.bool false)).alloc (.cells #[.slice (some ⟨m,b,none⟩) l.length d] 31);have H:=Boxed.new (w.alloc (.cells #[.bool false] 4)) 31 (.slice (some ⟨m,b,none⟩) l.length d);simp only[wsa]at H;have o:aF w ((w.alloc (.cells #[.bool false] 4)).alloc (.cells #[.slice (some ⟨m,b,none⟩) l.length d] 31)):=((br _ w).alloc (nlq _) _).alloc (by simp) _;have Q:((w.alloc (.cells #[.bool false] 4)).alloc (.cells #[.slice (some ⟨m,b,none⟩) l.length d] 31)).heap.size=w.heap.size+2:=by simp
 obtain⟨U,B⟩:=cK ((w.alloc (.cells #[.bool false] 4)).alloc (.cells #[.slice (some ⟨m,b,none⟩) l.length d] 31));rw[B]at z H o Q ⊢;clear B
 refine wpIn_rangeFunc_ownH rfl h1 (gf:=269) (lb:=#[.pointer (some ⟨w.heap.size+1,0,none⟩)]) rfl trivial (enters_of Tryz.func269 (by kernel_rfl) rfl)
  (L9 (n-1) (w.heap.size+1) m b d l O N C U H.cell (λj h=>(hc j h).zL o)) belowK_t (belowK_b (nlq _)) (br _ _) (λ_=>rfl)
  (λg W=>(∀x∈g,dP x.1.1 x.1.2=true)/\aF U W)
  (λc g W=>((c=.ret/\∃x∈g,dP x.1.1 x.1.2=false)/\Boxed W w.heap.size 4 (.bool false))/\aF w W)
  (OwnFrom.and (ownFrom_pure _ _) (ownFrom_below (nlq _) (nlq _)))
  (λc=>OwnFrom.and (OwnFrom.and (ownFrom_pure _ _) (Own.from (boxed_own _ _ _) _)) (ownFrom_below (nlq _) (by omega)))
  ⟨by simp,br _ _⟩
  (λx F W=>∃u v,fL W u 0 x.1.1/\fL W v 0 x.1.2/\F={ tmps:=#[.slice (some ⟨m,b,none⟩) l.length d,undef,.pointer (some ⟨w.heap.size,0,none⟩),.pointer (some ⟨u,0,none⟩),.pointer (some ⟨v,0,none⟩),.slice (some ⟨m,b,none⟩) l.length d,.func (.func 269) #[] #[.pointer (some ⟨w.heap.size+1,0,none⟩)],x.1.1.val,x.1.2.val,undef,undef,undef,undef],defers:=[]})
  (λx F _ X Y row hs Z P=>by obtain⟨u,v,I,J,e3⟩:=hs;exact⟨u,v,pI I Z (λr e=>(P r e).2),pI J Z (λr e=>(P r e).2),e3⟩)
  ?assign ?body ?done ?stop
 case assign=>
  rintro lp g x W K ⟨E,a⟩ q;gi_wp2
  exact q _ _ (((KeepsOthers.alloc _ _).trans (KeepsOthers.alloc _ _)).from _) (((br _ W).alloc a.size _).alloc (by have:=a.size;simp;omega) _) ⟨E,(a.alloc a.size _).alloc (by have:=a.size;simp;omega) _⟩
   ⟨W.heap.size,W.heap.size+1,(DJ W _ rfl x.1.1).zL ((br _ _).alloc (nlq _) _),DJ _ _ (by simp) x.1.2,rfl⟩
 case body=>
  rintro lp g x F W hl ⟨r,P⟩ ⟨E,a⟩ ⟨u,v,I,J,rfl⟩ hlt;have h1':1<=n-1-1:=by omega
  have R:=x.2.1;have S:=x.2.2;have A:W.cell? ⟨w.heap.size,0,none⟩=some (.bool false):=(a.cell (p:=⟨w.heap.size,0,none⟩) (by show w.heap.size<_;omega)).trans z.cell;have V:W.frozen? ⟨w.heap.size,0,none⟩=false:=(a.frozen (p:=⟨w.heap.size,0,none⟩) (by show w.heap.size<_;omega)).trans z.frozen;obtain⟨c0,c1,c2,c3,c4,c5⟩:=I;obtain⟨d0,d1,d2,d3,d4,d5⟩:=J;gi_wp2_with fail
  refine⟨trivial,?_⟩;refine(CallsIn.inRound lp (cw.2 (K7 x.1.1 x.1.2 W R S))).mono ?_;rintro e w1 ⟨rfl,f⟩;have cR1:=(f.cell (p:=⟨w.heap.size,0,none⟩) (aA A)).trans A;have fR1:=(f.frozen (p:=⟨w.heap.size,0,none⟩) (aA A)).trans V;have G:Boxed w1 w.heap.size 4 (.bool false):=(f.block w.heap.size (aA A)).trans ((a.block w.heap.size (by omega)).trans z);have L:aF w w1:=(o.trans (a.mono (by omega))).trans (f.mono (by have:=a.size;omega));gi_wp2
  ·exact⟨((bO f).trans (KeepsOthers.setCell _ _ _)).from _,⟨⟨rfl,x,lma.2 (.inr (by simp)),nf (by assumption)⟩,G.set _⟩,L.setCell (p:=⟨w.heap.size,0,none⟩) (nlq _) _⟩
  ·have M:dP x.1.1 x.1.2=true:=nt (by assumption)
   exact⟨(bO f).from _,f.mono a.size,λy T=>(lma.1 T).elim (E y) (λe=>by simp at e;subst e;exact M),a.trans (f.mono a.size)⟩
 case done=>
  rintro D zs W hD rfl ⟨E,a⟩ q;have i:Boxed W w.heap.size 4 (.bool false):=(a.block w.heap.size (by omega)).trans z;have A:=i.cell;have V:=i.frozen;gi_wp2;have s:=(KeepsOthers.setCell W ⟨w.heap.size,0,none⟩ (.bool true)).same D _ q rfl;refine⟨by simp,.inl ⟨_,_,rfl,run_takeDeferred s,?_⟩⟩;have t:=cell_kept (i.set (.bool true)).cell (grownBy_putObj' _ D (.deferred none)) (λr e=>by cases e;exact⟨_,s,rfl⟩);refine⟨.bool true,?_,by rw[NA E],(((o.trans (a.mono (by omega))).setCell (p:=⟨w.heap.size,0,none⟩) (nlq _) _).trans (belowK_b (w:=w) (nlq _) _ D _ _ (by omega) s rfl rfl))⟩
  simp[results,Tryz.f211,go_sem,t]
 case stop=>
  rintro D c g W hD ⟨k,hk,rfl⟩ ⟨⟨⟨rfl,x,hx,T⟩,i⟩,a⟩ q;gi_wp2;refine⟨by simp,.inl ⟨_,_,rfl,run_takeDeferred q,?_⟩⟩;have t:=cell_kept i.cell (grownBy_putObj' _ D (.deferred none)) (λr e=>by cases e;exact⟨_,q,rfl⟩);refine⟨.bool false,?_,by rw[K8 hk hx T],a.trans (belowK_b (w:=w) (nlq _) W D _ _ (by omega) q rfl rfl)⟩
  simp[results,Tryz.f211,go_sem,t]
theorem xV (g:Option Addr)(a:Nat)(l:List Bx)(d:l.all aK=true)(b:1<=l.length)(c:l.length<=1048576)(w:World)(m:jJ w g l):
 aY 211 #[.slice g l.length a] w λe i=>e=.returned (.bool (eY l))/\aF w i:=by
 rcases m with h|⟨j,f,rfl,k⟩;·subst h;simp at b
 ·exact cw.1 (zA 6 (by omega) j f a l d b c w k)
def fY (a b:ByteArray):Bool:=Op.bytesLess a.toList b.toList
def kK {α:Type}(nm:α->ByteArray):List α->Bool
 |a::b::r=>fY (nm a) (nm b)&&kK nm (b::r)
 |_=>true
theorem iJ {α:Type}(nm:α->ByteArray):∀l:List α,kK nm l=true↔∀i (h:i+1<l.length),fY (nm l[i]) (nm l[i+1])=true
 |[]=>by simp[kK]
 |[a]=>by simp[kK]
 |a::b::r=>by
  rw[kK,bat,iJ nm (b::r)];constructor
  ·rintro⟨d,h⟩ i c;cases i with
   |zero=>exact d
   |succ i=>exact h i (by simpa using c)
  ·intro h;exact⟨h 0 (by simp),λi c=>h (i+1) (by simpa using c)⟩
def bV {α:Type}(nm:α->ByteArray)(l:List α):Bool:=(l.all λx=>cS (nm x))&&kK nm l
theorem eT {W d:World}{b:Option Nat}{e of:Nat}{c:List Value}(h:aZ W e of c)(f:W.grownBy d b)(a:∀r,b=some r->∃o:Obj,W.heap[r]?=some o/\o.isCells=false):aZ d e of c:=
 λj v g=>cell_kept (h j v g) f a
theorem gC (W:World)(g t:Nat)(e:g=W.heap.size)(b c d:Value):aZ (W.alloc (.cells #[b,c,d] t)) g 0 [b,c,d]:=by
 subst e;intro j v a;match j,a with
 |0,a=>simp at a;subst a;simp
 |1,a=>simp at a;subst a;simp
 |2,a=>simp at a;subst a;simp
theorem r9 {l:List Fx}{k:Nat}(h:k<l.length)(a:cS l[k].n=false):bV Fx.n l=false:=by
 have:(l.all λx=>cS x.n)=false:=by
  rw[Bool.eq_false_iff];intro ha;have:=lat.1 ha l[k] (lgm h);rw[a]at this;cases this
 rw[bV,this];rfl
theorem LY {l:List Fx} (a:(l.all λx=>cS x.n)=true) (h:∀x∈cE (k8 l) (l.length-1),fY x.1.n x.2.n=true):bV Fx.n l=true:=by
 have ha:kK Fx.n l=true:=by
  refine(iJ Fx.n l).2 λi b=>?_;have:=h (k8 l i) (by simp only[cE,List.mem_map,List.mem_range];exact⟨i,by omega,rfl⟩);simp only[k8]at this;rwa[fV l i (by omega),fV l (i+1) b]at this
 rw[bV,a,ha];rfl
theorem LP {l:List Fx}{k:Nat}(hk:k<=l.length-1){x:Fx×Fx}(hx:x∈cE (k8 l) k)(h:fY x.1.n x.2.n=false):bV Fx.n l=false:=by
 simp only[cE,List.mem_map,List.mem_range]at hx;obtain⟨i,hi,rfl⟩:=hx;simp only[k8]at h;rw[fV l i (by omega),fV l (i+1) (by omega)]at h
 have:kK Fx.n l=false:=by
  rw[Bool.eq_false_iff];intro ha;have:=(iJ Fx.n l).1 ha i (by omega);rw[h]at this;cases this
 rw[bV,this,Bool.and_false]
theorem rZ (f:Fx)(w:World):
 aY 131 #[f.val] w λe w'=>e=.returned (.string f.n)/\aF w w':=by
 go_enter Tryz.func131,Tryz.ntmps131;go_wp2;go_ret;exact⟨rfl,(br _ _).alloc (nlq _) _⟩
theorem RQ (n:Nat)(hn:6<=n)(t:Option Addr)(d:Nat)(l:List Fx)(zd:l.length<=1048576)(hs:∀f∈l,f.n.size<=9223372036854775807)(w:World)(hl:Xs 3 Fx.cells w t l):
 CallsIn Fence.wide n Tryz.prog 130 #[.slice t l.length d,.func (.func 131) #[] #[]] w λe W'=>e=.returned (.bool (bV Fx.n l))/\aF w W':=by
 obtain⟨V,hV⟩:=bP (bV Fx.n l);rw[←hV];have HV:=aG hV;clear hV;have h1:1<=n:=by omega
 refine callsIn_of_wp_marks Tryz.func130 rfl trivial ?_ rfl;simp only[Tryz.ntmps130,lsz,llc,lln,Nat.reduceAdd,Nat.reduceSub,ars,arz,lpt,lap,lna,lca];gi_wp2;have bN:=(Boxed.new w 167 (.func (.func 131) #[] #[])).alloc (.cells #[.bool false] 4);have bR:=Boxed.new (w.alloc (.cells #[.func (.func 131) #[] #[]] 167)) 4 (.bool false);simp only[wsa]at bR;have J:aF w ((w.alloc (.cells #[.func (.func 131) #[] #[]] 167)).alloc (.cells #[.bool false] 4)):=((br _ w).alloc (nlq _) _).alloc (by simp) _;have E:((w.alloc (.cells #[.func (.func 131) #[] #[]] 167)).alloc (.cells #[.bool false] 4)).heap.size=w.heap.size+2:=by simp
 obtain⟨W0,zb⟩:=cK ((w.alloc (.cells #[.func (.func 131) #[] #[]] 167)).alloc (.cells #[.bool false] 4));rw[zb]at bN bR J E ⊢;clear zb
 gi_loopw [11] (λi wr=>∃k:Nat,k<=l.length/\i=.int .i64 k/\aF W0 wr/\Hid ((l.take k).all (λx=>cS x.n)=true)) (λi _=>l.length-(intOf i).toNat)
 case atStart=>exact⟨0,nz _,rfl,br _ _,by simp[Hid]⟩
 case round=>
  obtain⟨k,hk,rfl,F,R⟩:=hrel;have A:Boxed wr w.heap.size 167 (.func (.func 131) #[] #[]):=(F.block _ (by omega)).trans bN;have B:Boxed wr (w.heap.size+1) 4 (.bool false):=(F.block _ (by omega)).trans bR;have C:aF w wr:=J.trans (F.mono (by omega))
  by_cases z:k<l.length
  ·rcases hl with h|⟨bl,off,rfl,hc⟩
   ·subst h;simp at z
   ·have P:=(hc k z).zL C
    have E:=hs l[k] (lgm z);obtain⟨b,O⟩:=bP (l[k]);rw[←O]at P E;have HB:=aG O;clear O hc;obtain⟨c0,c1,c2⟩:=m8 P;clear P;have cN:=A.cell;have hz0:w.heap.size<wr.heap.size:=A.lt;have ze:w.heap.size+1<wr.heap.size:=B.lt;gi_wp2_with fail
    refine⟨trivial,?_⟩;refine(cw.2 (rZ b _)).mono ?_;rintro e S ⟨rfl,g⟩;gi_wp2_with fail
    refine⟨trivial,?_⟩;refine(cw.2 (sG b.n _ E)).mono ?_;rintro e S ⟨rfl,rfl⟩;have N:aF W0 S:=aC (F.alloc F.size _) g;have m:Boxed S (w.heap.size+1) 4 (.bool false):=(N.block _ (by omega)).trans bR;have cR:=m.cell;have fR:=m.frozen;clear c0 c1 c2 cN;gi_wp2
    ·have hv:cS b.n=false:=nf (by assumption)
     have v:=(m.set (.bool false)).cell;refine⟨.bool false,?_,by rw[HV.oQ,r9 z (by rw[←HB.oQ];exact hv)],(J.trans (N.mono (by omega))).setCell (p:=⟨w.heap.size+1,0,none⟩) (by simp) _⟩
     simp[results,Tryz.f130,go_sem,v]
    ·have hv:cS b.n=true:=nt (by assumption)
     go_roundw
     case rel=>exact⟨k+1,by omega,by go_num,N,by rw[Hid,List.take_succ_eq_append_getElem z,List.all_append,R.out,←HB.oQ];simp[hv]⟩
     case measure=>simp[intOf];omega
  ·clear hs
   rw[ltl (by omega)]at R;gi_wp2_with fail
   refine⟨trivial,?_⟩;refine(RW (n-1) _ _ _ _).mono ?_;rintro e w' ⟨rfl,rfl⟩;gi_wp2_with fail
   have bS:=Boxed.new wr 27 (.slice t l.length d);have zg:aF W0 (wr.alloc (.cells #[.slice t l.length d] 27)):=F.alloc F.size _;have Z:=A.alloc (.cells #[.slice t l.length d] 27);have m:=B.alloc (.cells #[.slice t l.length d] 27);have o:aF w (wr.alloc (.cells #[.slice t l.length d] 27)):=C.alloc C.size _;have ze:w.heap.size+1<wr.heap.size:=B.lt;have G:(wr.alloc (.cells #[.slice t l.length d] 27)).heap.size=wr.heap.size+1:=by simp
   obtain⟨H,hH⟩:=cK wr.heap.size;rw[hH]at ze G bS ⊢;obtain⟨W2,zc⟩:=cK (wr.alloc (.cells #[.slice t l.length d] 27));rw[zc]at bS zg Z m o G ⊢;clear zc hH A B C F
   refine wpIn_rangeFunc_ownH rfl h1 (gf:=226) (lb:=#[.pointer (some ⟨H,0,none⟩)]) rfl trivial (enters_of Tryz.func226 (by kernel_rfl) rfl)
    (GE (n-1) H d t l zd W2 bS.cell (hl.zL o)) belowK_t (belowK_b (nlq _)) (br _ _) (λ_=>rfl)
    (λu W=>(∀x∈u,fY x.1.n x.2.n=true)/\aF W2 W)
    (λc u W=>((c=.ret/\∃x∈u,fY x.1.n x.2.n=false)/\Boxed W (w.heap.size+1) 4 (.bool false))/\aF w W)
    (OwnFrom.and (ownFrom_pure _ _) (ownFrom_below (nlq _) (nlq _)))
    (λc=>OwnFrom.and (OwnFrom.and (ownFrom_pure _ _) (Own.from (boxed_own _ _ _) _)) (ownFrom_below (nlq _) (by omega)))
    ⟨by simp,br _ _⟩
    (λx a' W=>∃T U,aZ W T 0 x.1.cells/\aZ W U 0 x.2.cells/\a'={ tmps:=#[.slice t l.length d,.func (.func 131) #[] #[],undef,.pointer (some ⟨w.heap.size,0,none⟩),.pointer (some ⟨w.heap.size+1,0,none⟩),undef,u6,.pointer (some ⟨T,0,none⟩),.pointer (some ⟨U,0,none⟩),.slice t l.length d,.int .i64 l.length,.int .i64 k,.bool false,u13,u14,u15,u16,u17,u18,u19,u20,.slice t l.length d,.func (.func 226) #[] #[.pointer (some ⟨H,0,none⟩)],x.1.val,x.2.val,undef,undef,undef,undef,undef,undef,undef],defers:=[]})
    (λx a' _ X Y row hs hg hr=>by obtain⟨T,U,e1,e2,e3⟩:=hs;exact⟨T,U,eT e1 hg (λr e=>(hr r e).2),eT e2 hg (λr e=>(hr r e).2),e3⟩)
    ?assign ?body ?done ?stop
   case assign=>
    rintro lp u x W K ⟨hp,a⟩ L;gi_wp2
    exact L _ _ (((KeepsOthers.alloc _ _).trans (KeepsOthers.alloc _ _)).from _) (((br _ W).alloc a.size _).alloc (by have:=a.size;simp;omega) _) ⟨hp,(a.alloc a.size _).alloc (by have:=a.size;simp;omega) _⟩
     ⟨W.heap.size,W.heap.size+1,(gC W _ 74 rfl _ _ _).zL ((br _ _).alloc (nlq _) _),gC _ _ 74 (by simp) _ _ _,rfl⟩
   case body=>
    rintro lp u x a' W hl' ⟨r,hr⟩ ⟨hp,a⟩ ⟨T,U,e1,e2,rfl⟩ hlt';have zf:Boxed W w.heap.size 167 (.func (.func 131) #[] #[]):=(a.block _ (by omega)).trans Z;have j:Boxed W (w.heap.size+1) 4 (.bool false):=(a.block _ (by omega)).trans m;obtain⟨c0,c1,c2⟩:=m8 e1;obtain⟨d0,d1,d2⟩:=m8 e2;rw[Nat.zero_add]at c1 c2 d1 d2;have zh:Nonempty (cO W):=⟨⟨W,br _ _⟩⟩;have f0:=cO.cell c0;have f1:=cO.cell c1;have f2:=cO.cell c2;have g0:=cO.cell d0;have g1:=cO.cell d1;have g2:=cO.cell d2;have fN:=cO.cell zf.cell;clear c0 c1 c2 d0 d1 d2 e1 e2;gi_wp2_with fail
    refine pJ (by kernel_rfl) (by kernel_rfl) (by kernel_rfl) ?_
    repeat (go_big_quiet_step ((go_at_call 131;exact cO.call _ (rZ _ _))))
    refine wpQuiet_nil ?_;rintro _ ⟨s,rfl⟩;have g:=s.h;generalize s.w=S at g;clear s f0 f1 f2 g0 g1 g2 fN zh;have I:Boxed S (w.heap.size+1) 4 (.bool false):=(g.block _ j.lt).trans j;have cR:=I.cell;have fR:=I.frozen;have za:aF w S:=(o.trans (a.mono (by omega))).trans (g.mono (by have:=a.size;omega));gi_wp2
    ·have Q:fY x.1.n x.2.n=false:=nf (by assumption)
     exact⟨((bO g).trans (KeepsOthers.setCell _ _ _)).from _,⟨⟨rfl,x,lma.2 (.inr (by simp)),Q⟩,I.set _⟩,za.setCell (p:=⟨w.heap.size+1,0,none⟩) (by simp) _⟩
    ·have Q:fY x.1.n x.2.n=true:=nt (by assumption)
     exact⟨(bO g).from _,g.mono a.size,λy hy=>(lma.1 hy).elim (hp y) (λe=>by simp at e;subst e;exact Q),a.trans (g.mono a.size)⟩
   case done=>
    rintro D zs W hD rfl ⟨hp,a⟩ L;have j:Boxed W (w.heap.size+1) 4 (.bool false):=(a.block _ (by omega)).trans m;have cR:=j.cell;have fR:=j.frozen;gi_wp2;have M:=(KeepsOthers.setCell W ⟨w.heap.size+1,0,none⟩ (.bool true)).same D _ L rfl;refine⟨by simp,.inl ⟨_,_,rfl,run_takeDeferred M,?_⟩⟩;have v:=cell_kept (j.set (.bool true)).cell (grownBy_putObj' _ D (.deferred none)) (λr e=>by cases e;exact⟨_,M,rfl⟩);refine⟨.bool true,?_,by rw[HV.oQ,LY R.out hp],(((o.trans (a.mono (by omega))).setCell (p:=⟨w.heap.size+1,0,none⟩) (by simp) _).trans (belowK_b (w:=w) (nlq _) _ D _ _ (by omega) M rfl rfl))⟩
    simp[results,Tryz.f130,go_sem,v]
   case stop=>
    rintro D c u W hD ⟨q,hq,rfl⟩ ⟨⟨⟨rfl,x,hx,hy⟩,j⟩,a⟩ L;gi_wp2;refine⟨by simp,.inl ⟨_,_,rfl,run_takeDeferred L,?_⟩⟩;have v:=cell_kept j.cell (grownBy_putObj' _ D (.deferred none)) (λr e=>by cases e;exact⟨_,L,rfl⟩);refine⟨.bool false,?_,by rw[HV.oQ,LP hq hx hy],a.trans (belowK_b (w:=w) (nlq _) W D _ _ (by omega) L rfl rfl)⟩
    simp[results,Tryz.f130,go_sem,v]
theorem MH (c:Option Addr)(a:Nat)(l:List Fx)(b:l.length<=1048576)(h:∀f∈l,f.n.size<=9223372036854775807)(w:World)(g:Xs 3 Fx.cells w c l):
 aY 130 #[.slice c l.length a,.func (.func 131) #[] #[]] w λe d=>e=.returned (.bool (bV Fx.n l))/\aF w d:=
 cw.1 (RQ 6 (by omega) c a l b h w g)
end Go.Proofs.YtcdbcliaepcpfaaGreatDoor
namespace Go.Proofs.YtcdbcliaepcpfaaGreatDoor
set_option maxRecDepth 100000
set_option maxHeartbeats 2000000
open Go.RowKit
def jU (l:List Fx)(i:Nat)(f:Fx):Bool:=iD f.x f.y&&!BV (l.take i) f.x f.y
def jR (l:List Fx):Nat->Bool
 |0=>true
 |k+1=>jR l k&&jU l k (iS l k)
def cB (l:List Fx):Bool:=decide (l.length<=4)&&(bV Fx.n l&&jR l l.length)
theorem rJ {l:List Fx}{k:Nat}(h:jU l k (iS l k)=false):∀m,k<m->jR l m=false
 |0,hm=>absurd hm (by omega)
 |m+1,hm=>by
  rw[jR];by_cases e:k=m;·subst e;rw[h,Bool.and_false]
  ·rw[rJ h m (by omega)];rfl
theorem Xs.take {α:Type}{sz:Nat}{c:α->List Value}{w:World}{d:Option Addr}{l:List α}(h:Xs sz c w d l)(k:Nat):Xs sz c w d (l.take k):=by
 rcases h with h|⟨e,b,h,f⟩;·exact Or.inl (by rw[h];simp)
 ·refine Or.inr ⟨e,b,h,λj g=>?_⟩;have a:j<l.length:=by simp at g;omega
  have:=f j a;simpa using this
theorem EK (l:List Fx)(k:Nat)(hk:k<=l.length)(b:Option Addr)(a:Nat)(x y:Int)(w:World)(c:Xs 3 Fx.cells w b l)(hn:l.length<=1048576):
 aY 172 #[.slice b k a,.int .i64 x,.int .i64 y] w λe w'=>e=.returned (.bool (BV (l.take k) x y))/\aF w w':=by
 have h:=nN (l.take k) b a x y w (c.take k) (by simp;omega);rwa[show(l.take k).length=k by simp;omega]at h
theorem JB (l:List Fx)(k:Nat)(c:k<=l.length)(b:Option Addr)(a:Nat)(x y:Int)(v:Bool)(g:BV (l.take k) x y=v)(w:World)(d:Xs 3 Fx.cells w b l)(f:l.length<=1048576):
 aY 172 #[.slice b k a,.int .i64 x,.int .i64 y] w λe w'=>e=.returned (.bool v)/\aF w w':=by
 subst g;exact EK l k c b a x y w d f
theorem zM (x y:Int)(v:Bool)(a:iD x y=v)(w:World):aY 171 #[.int .i64 x,.int .i64 y] w λe w'=>e=.returned (.bool v)/\w'=w:=by
 subst a;exact oG x y w
theorem AN (l:List Fx)(C:Option Addr)(a:Nat)(hcap:l.length<=a)(_hc2:a<=9223372036854775807)(w:World)(G:Xs 3 Fx.cells w C l)(J:l.length<=1048576):
 aY 132 #[.slice C l.length a] w λe w'=>e=.returned (.bool (jR l l.length))/\aF w w':=by
 obtain⟨V,z⟩:=bP (jR l l.length);rw[←z];have v:=aG z;clear z
 go_enter Tryz.func132,Tryz.ntmps132
 go_wp2
 go_loopw [7] (λi wr=>∃k:Nat,k<=l.length/\i=.int .i64 k/\aF w wr/\Hid (jR l k=true)) (λi _=>l.length-(intOf i).toNat)
 case atStart=>exact⟨0,nz _,rfl,br _ _,by simp[Hid,jR]⟩
 case round=>
  obtain⟨k,I,rfl,r,q⟩:=hrel
  by_cases b:k<l.length
  ·have B:=G
   rcases G with h|⟨bl,off,rfl,F⟩
   ·subst h;simp at b
   ·have j:=(F k b).zL r
    obtain⟨f,d⟩:=bP (iS l k);rw[←fV l k b,←d]at j;have t:=aG d;clear d F;obtain⟨c0,c1,c2⟩:=m8 j;clear j;have hq0:(0:Int)<=(k:Int):=by omega
    have hq1:(k:Int)<=(a:Int):=by omega
    have hkc:k<=a:=by omega
    have hne:Nonempty (cO (wr.alloc (.cells #[.string f.n,.int .i64 f.x,.int .i64 f.y] 74))):=⟨⟨_,br _ _⟩⟩;have g:aF w (wr.alloc (.cells #[.string f.n,.int .i64 f.x,.int .i64 f.y] 74)):=r.alloc r.size _;have D:∀s:cO (wr.alloc (.cells #[.string f.n,.int .i64 f.x,.int .i64 f.y] 74)),s.w.cell? ⟨wr.heap.size,1,none⟩=some (.int .i64 f.x):=cO.cell (by simp);have E:∀s:cO (wr.alloc (.cells #[.string f.n,.int .i64 f.x,.int .i64 f.y] 74)),s.w.cell? ⟨wr.heap.size,2,none⟩=some (.int .i64 f.y):=cO.cell (by simp)
    rcases Bool.eq_false_or_eq_true (iD f.x f.y)with p|p
    ·obtain⟨o,H⟩:=cK (BV (l.take k) f.x f.y)
     have u:=aG H;clear H;go_wp2_with fail
     refine bC (by kernel_rfl) (by kernel_rfl) ?_
     repeat (go_big_quiet_step (first|(go_at_call 171;exact cO.same _ (zM _ _ _ p _))|(go_at_call 172;exact cO.call _ (JB l k I _ _ _ _ _ u.oQ _ (B.zL (aC g (cO.h _))) J))))
     refine wpQuiet_nil ?_;rintro _ ⟨s,rfl⟩;have c:aF w s.w:=aC g s.h;clear D E;go_wp2
     ·have m:o=true:=by assumption
      subst m;go_ret;exact⟨aD (by rw[v.oQ,rJ (k:=k) (by rw[←t.oQ,jU,u.oQ,p];rfl) _ b]),c⟩
     ·have m:o=false:=by assumption
      subst m
      go_roundw
      case rel=>exact⟨k+1,by omega,by go_num,c,by rw[Hid,jR,q.out,←t.oQ,jU,u.oQ,p];rfl⟩
      case measure=>simp[intOf];omega
    ·go_wp2_with fail
     refine bC (by kernel_rfl) (by kernel_rfl) ?_
     repeat (go_big_quiet_step ((go_at_call 171;exact cO.same _ (zM _ _ _ p _))))
     refine wpQuiet_nil ?_;rintro _ ⟨s,rfl⟩;have c:aF w s.w:=aC g s.h;clear D E;go_wp2
     go_ret;exact⟨aD (by rw[v.oQ,rJ (k:=k) (by rw[←t.oQ,jU,p];rfl) _ b]),c⟩
  ·have A:k=l.length:=by omega
   go_wp2
   go_ret;exact⟨aD (by rw[v.oQ,←q.out,A]),r⟩
def tU (n:Nat):Bool:=decide (n<=4)
theorem iE (l:List Fx):cB l=(tU l.length&&(bV Fx.n l&&jR l l.length)):=rfl
theorem TE (n a:Nat)(b:Option Addr)(w:World)(hn:n<=1048576):
 aY 128 #[.slice b n a] w λe w'=>e=.returned (.bool (tU n))/\w'=w:=by
 go_enter Tryz.func128,Tryz.ntmps128;go_wp2;go_ret;refine⟨aD ?_,rfl⟩;rw[Bool.eq_iff_iff];simp only[tU,dte];omega
theorem J2 (d:Option Addr)(b:Nat)(l:List Fx)(a:l.length<=1048576)(i:∀f∈l,f.n.size<=9223372036854775807)(w:World)(h:Xs 3 Fx.cells w d l):
 aY 129 #[.slice d l.length b] w λe g=>e=.returned (.bool (bV Fx.n l))/\aF w g:=by
 go_enter Tryz.func129,Tryz.ntmps129;go_wp2_with (go_at_call 130;refine(MH _ _ l a i _ h).mono ?_;rintro e w1 ⟨rfl,c⟩);go_ret;exact⟨rfl,c⟩
def JE (l:List Fx)(k:Nat):Prop:=(0<k->tU l.length=true)/\(1<k->bV Fx.n l=true)/\(2<k->jR l l.length=true)
theorem FB (l:List Fx)(r:Option Addr)(b G:Nat)(s:l.length<=b)(v:b<=9223372036854775807)(w:World)(A:Xs 3 Fx.cells w r l)(x:l.length<=1048576)(F:∀f∈l,f.n.size<=9223372036854775807)
 (m:w.cell? ⟨G,0,none⟩=some (.func (.func 128) #[] #[]))(o:w.cell? ⟨G,1,none⟩=some (.func (.func 129) #[] #[]))(q:w.cell? ⟨G,2,none⟩=some (.func (.func 132) #[] #[])):
 aY 127 #[.slice r l.length b,.slice (some ⟨G,0,none⟩) 3 3] w λe w'=>e=.returned (.bool (cB l))/\aF w w':=by
 obtain⟨V,u⟩:=bP (cB l);rw[←u];have t:=aG u;clear u
 go_enter Tryz.func127,Tryz.ntmps127
 go_wp2
 go_loopw [9] (λi wr=>∃k:Nat,k<=3/\i=.int .i64 k/\aF w wr/\Hid (JE l k)) (λi _=>3-(intOf i).toNat)
 case atStart=>exact⟨0,by omega,rfl,br _ _,by simp[Hid,JE]⟩
 case round=>
  obtain⟨k,hk,rfl,a,g⟩:=hrel;have d:k=0∨k=1∨k=2∨k=3:=by omega
  rcases d with B|C|D|E
  ·subst B
   have z:=(a.cell (p:=⟨G,0,none⟩) (aA m)).trans m;clear m o q
   go_wp2_with (go_at_call 128;refine(TE l.length b r _ x).mono ?_;rintro e wr ⟨rfl,rfl⟩)
   ·have c:tU l.length=false:=nf (by assumption)
    go_ret;exact⟨aD (by rw[t.oQ];exact(show cB l=false from by rw[iE,c];rfl).symm),a⟩
   ·have c:tU l.length=true:=nt (by assumption)
    go_roundw
    case rel=>exact⟨1,by omega,by go_num,a,⟨λ_=>c,λh=>absurd h (by omega),λh=>absurd h (by omega)⟩⟩
    case measure=>simp[intOf]
  ·subst C
   have z:=(a.cell (p:=⟨G,1,none⟩) (aA o)).trans o;clear m o q
   go_wp2_with (go_at_call 129;refine(J2 r b l x F _ (A.zL a)).mono ?_;rintro e y ⟨rfl,j⟩;have a:aF w y:=bL a (nlq _) j)
   ·have c:bV Fx.n l=false:=nf (by assumption)
    go_ret;exact⟨aD (by rw[t.oQ];exact(show cB l=false from by rw[iE,c];simp).symm),a⟩
   ·have c:bV Fx.n l=true:=nt (by assumption)
    go_roundw
    case rel=>exact⟨2,by omega,by go_num,a,⟨λ_=>g.out.1 (by omega),λ_=>c,λh=>absurd h (by omega)⟩⟩
    case measure=>simp[intOf]
  ·subst D
   have z:=(a.cell (p:=⟨G,2,none⟩) (aA q)).trans q;clear m o q
   go_wp2_with (go_at_call 132;refine(AN l r b s v _ (A.zL a) x).mono ?_;rintro e y ⟨rfl,j⟩;have a:aF w y:=bL a (nlq _) j)
   ·have c:jR l l.length=false:=nf (by assumption)
    go_ret;exact⟨aD (by rw[t.oQ];exact(show cB l=false from by rw[iE,c];simp).symm),a⟩
   ·have c:jR l l.length=true:=nt (by assumption)
    go_roundw
    case rel=>exact⟨3,by omega,by go_num,a,⟨λ_=>g.out.1 (by omega),λ_=>g.out.2.1 (by omega),λ_=>c⟩⟩
    case measure=>simp[intOf]
  ·subst E
   clear m o q;go_wp2
   go_ret;obtain⟨H,I,J⟩:=g.out;exact⟨aD (by rw[t.oQ,iE,H (by omega),I (by omega),J (by omega)];rfl),a⟩
theorem pZ (l:List Fx)(c:Option Addr)(a:Nat)(b:l.length<=a)(g:a<=9223372036854775807)(w:World)(h:Xs 3 Fx.cells w c l)(i:l.length<=1048576)(j:∀f∈l,f.n.size<=9223372036854775807):
 aY 95 #[.slice c l.length a] w λe w'=>e=.returned (.bool (cB l))/\aF w w':=by
 go_enter Tryz.func95,Tryz.ntmps95;go_wp2_with fail;refine(FB l c a w.heap.size b g _ (h.zL (aB (br _ _) _)) i j (by simp) (by simp) (by simp)).mono ?_;rintro e w1 ⟨rfl,d⟩;go_wp2_with fail;go_ret;exact⟨rfl,aC (aB (br _ _) _) d⟩
set_option maxHeartbeats 4000000
theorem fG (s:ByteArray)(v:Bool)(b:cS s=v)(w:World)(a:s.size<=9223372036854775807):aY 113 #[.string s] w λe w'=>e=.returned (.bool v)/\w'=w:=by
 subst b;exact uF s w a
theorem iH (n b a:Int)(v:Bool)(c:fO n b a=v)(w:World):aY 49 #[.int .i64 n,.int .i64 b,.int .i64 a] w λe w'=>e=.returned (.bool v)/\w'=w:=by
 subst c;exact dV n b a w
structure JS (l:List Fx)(k:Nat):Prop where
 nm:(l.take k).all (λx=>cS x.n)=true
 lt:∀i,i+1<k->fY (iS l i).n (iS l (i+1)).n=true
 gd:jR l k=true
theorem JS.step {l:List Fx}{k:Nat}(h:JS l k)(a:k<l.length)(b:cS (iS l k).n=true)(d:0<k->fY (iS l (k-1)).n (iS l k).n=true)(c:jU l k (iS l k)=true):JS l (k+1):=by
 refine⟨by rw[List.take_succ_eq_append_getElem a,List.all_append,h.nm];rw[fV l k a]at b;simp[b],λi hi=>?_,by rw[jR,h.gd,c];rfl⟩;by_cases e:i+1=k;·subst e;simpa using d (by omega)
 ·exact h.lt i (by omega)
theorem KR {l:List Fx}{k:Nat}(a:k<l.length)(h:cS (iS l k).n=false):cB l=false:=by
 rw[fV l k a]at h;rw[iE,r9 a h];simp
theorem RI {l:List Fx}{k:Nat}(hk:k<l.length)(h0:0<k)(h:fY (iS l (k-1)).n (iS l k).n=false):cB l=false:=by
 have:kK Fx.n l=false:=by
  rw[Bool.eq_false_iff];intro ha;have:=(iJ Fx.n l).1 ha (k-1) (by omega);rw[←fV l (k-1) (by omega),←fV l (k-1+1) (by omega),show k-1+1=k by omega,h]at this;cases this
 rw[iE,bV,this];simp
theorem lW {l:List Fx}{k:Nat}(a:k<l.length)(h:jU l k (iS l k)=false):cB l=false:=by
 rw[iE,rJ h _ a];simp
theorem TJ {l:List Fx}{k:Nat}(h:JS l k)(c:tU l.length=true)(d:k=l.length):cB l=true:=by
 subst d;have b:=h.nm;rw[ltl (nlq _)]at b
 have ha:kK Fx.n l=true:=(iJ Fx.n l).2 λi a=>by
  have:=h.lt i a;rwa[fV l i (by omega),fV l (i+1) a]at this
 rw[iE,c,bV,b,ha,h.gd];rfl
theorem wG (x y:Int):iD x y=(fO x 0 15&&fO y 0 15):=by
 rw[Bool.eq_iff_iff];simp only[iD,fO,bat,dte];omega
theorem DN {l:List Fx}{k:Nat}{f:Fx}(h:fO f.x 0 15=false):jU l k f=false:=by rw[jU,wG,h];rfl
theorem EB {l:List Fx}{k:Nat}{f:Fx}(h:fO f.y 0 15=false):jU l k f=false:=by rw[jU,wG,h];simp
theorem MF {l:List Fx}{k:Nat}{f:Fx}(h:BV (l.take k) f.x f.y=true):jU l k f=false:=by rw[jU,h];simp
theorem IL {l:List Fx}{k:Nat}{f:Fx}(hx:fO f.x 0 15=true)(a:fO f.y 0 15=true)(h:BV (l.take k) f.x f.y=false):jU l k f=true:=by rw[jU,wG,hx,a,h];rfl
theorem FU {W:World}{o:Obj}{a:Addr}{v:Value}(h:W.cell? a=some v):(W.alloc o).cell? a=some v:=((aB (br _ W) o).cell (aA h)).trans h
theorem pW (l:List Fx)(ao:Option Addr)(zb:Nat)(w:World)(hl:Xs 3 Fx.cells w ao l)(hn:l.length<=1048576)(hs:∀f∈l,f.n.size<=9223372036854775807):
 aY 74 #[.slice ao l.length zb] w λe w'=>e=.returned (.bool (cB l))/\aF w w':=by
 obtain⟨V,hV⟩:=bP (cB l);rw[←hV];have G:=aG hV;clear hV
 by_cases h4:l.length<=4
 ·have H4:Hid (tU l.length=true):=decide_eq_true h4
  go_enter Tryz.func74,Tryz.ntmps74
  go_wp2
  go_loopw [3] (λi wr=>∃k:Nat,k<=l.length/\i=.int .i64 k/\aF w wr/\Hid (JS l k)) (λi _=>l.length-(intOf i).toNat)
  case atStart=>exact⟨0,nz _,rfl,br _ _,⟨by simp,λi hi=>absurd hi (by omega),rfl⟩⟩
  case round=>
   obtain⟨k,hk,rfl,W,S⟩:=hrel
   by_cases m:k<l.length
   ·rcases hl with h|⟨bl,ze,rfl,T⟩
    ·subst h;simp at m
    have N:=(T k m).zL W;have q:=hs l[k] (lgm m);obtain⟨f,M⟩:=bP (iS l k);rw[←fV l k m,←M]at N q;have C:=aG M;clear M;obtain⟨c0,c1,c2⟩:=m8 N;clear N;have t:Nonempty (cO (wr.alloc (.cells #[.string f.n,.int .i64 f.x,.int .i64 f.y] 74))):=⟨⟨_,br _ _⟩⟩;have o:aF w (wr.alloc (.cells #[.string f.n,.int .i64 f.x,.int .i64 f.y] 74)):=W.alloc W.size _;have H:∀s:cO (wr.alloc (.cells #[.string f.n,.int .i64 f.x,.int .i64 f.y] 74)),s.w.cell? ⟨wr.heap.size,0,none⟩=some (.string f.n):=cO.cell (by simp);have I:∀s:cO (wr.alloc (.cells #[.string f.n,.int .i64 f.x,.int .i64 f.y] 74)),s.w.cell? ⟨wr.heap.size,1,none⟩=some (.int .i64 f.x):=cO.cell (by simp);have J:∀s:cO (wr.alloc (.cells #[.string f.n,.int .i64 f.x,.int .i64 f.y] 74)),s.w.cell? ⟨wr.heap.size,2,none⟩=some (.int .i64 f.y):=cO.cell (by simp)
    rcases Bool.eq_false_or_eq_true (cS f.n)with d|d
    ·by_cases Z:k=0
     ·subst Z
      rw[Nat.zero_mul,Nat.add_zero]at c0 c1 c2
      rcases Bool.eq_false_or_eq_true (fO f.x 0 15)with hx|hx
      ·rcases Bool.eq_false_or_eq_true (fO f.y 0 15)with z|z
       ·go_wp2_with fail
        refine bC (by kernel_rfl) (by kernel_rfl) ?_
        repeat (go_big_quiet_step (first|(go_at_call 113;exact cO.same _ (fG _ _ d _ q))|(go_at_call_of 49 f.x;exact cO.same _ (iH _ _ _ _ hx _))|(go_at_call_of 49 f.y;exact cO.same _ (iH _ _ _ _ z _))))
        refine wpQuiet_nil ?_;rintro _ ⟨s,rfl⟩;have b:aF w s.w:=aC o s.h;have c:=s.h;generalize s.w=w1 at b c;clear s H I J t;go_wp2
        have HX:=aG hx;have HY:=aG z;have HM:=aG d;clear hx z d b c0 c1 c2
        go_loopw [5] (λi K=>∃j:Nat,j<=0/\i=.int .i64 j/\Below (wr.alloc (.cells #[.string f.n,.int .i64 f.x,.int .i64 f.y] 74)).heap.size (wr.alloc (.cells #[.string f.n,.int .i64 f.x,.int .i64 f.y] 74)) K/\Hid ((l.take j).any (λg=>qQ g f.x f.y)=false)) (λi _=>0-(intOf i).toNat)
        case atStart=>exact⟨0,nz _,rfl,c,by simp[Hid]⟩
        case round=>
         clear c;obtain⟨j,hj,rfl,u,F⟩:=hrel
         by_cases Y:j<0
         ·exact absurd Y (by omega)
         ·have R:j=0:=by omega
          go_wp2
          go_roundw
          case rel=>exact⟨0+1,by omega,by go_num,o.trans (u.mono (by have:=o.size;omega)),S.out.step m (by rw[←C.oQ];exact HM.oQ) (λh0=>absurd h0 (by omega)) (by rw[←C.oQ];exact IL HX.oQ HY.oQ (by rw[←R];exact F.out))⟩
          case measure=>simp[intOf];omega
       ·clear T
        go_wp2_with fail
        refine bC (by kernel_rfl) (by kernel_rfl) ?_
        repeat (go_big_quiet_step (first|(go_at_call 113;exact cO.same _ (fG _ _ d _ q))|(go_at_call_of 49 f.x;exact cO.same _ (iH _ _ _ _ hx _))|(go_at_call_of 49 f.y;exact cO.same _ (iH _ _ _ _ z _))))
        refine wpQuiet_nil ?_;rintro _ ⟨s,rfl⟩;have b:aF w s.w:=aC o s.h;have c:=s.h;generalize s.w=w1 at b c;clear s H I J t;go_wp2
        go_ret;exact⟨aD (by rw[G.oQ,lW m (by rw[←C.oQ];exact EB z)]),b⟩
      ·clear T
       have z:fO f.y 0 15=fO f.y 0 15:=rfl;go_wp2_with fail
       refine bC (by kernel_rfl) (by kernel_rfl) ?_
       repeat (go_big_quiet_step (first|(go_at_call 113;exact cO.same _ (fG _ _ d _ q))|(go_at_call_of 49 f.x;exact cO.same _ (iH _ _ _ _ hx _))))
       refine wpQuiet_nil ?_;rintro _ ⟨s,rfl⟩;have b:aF w s.w:=aC o s.h;have c:=s.h;generalize s.w=w1 at b c;clear s H I J t;go_wp2
       go_ret;exact⟨aD (by rw[G.oQ,lW m (by rw[←C.oQ];exact DN hx)]),b⟩
     ·have zd:0<k:=by omega
      have hkq:(1:Int)<=(k:Int):=by omega
      have P:=(T (k-1) (by omega)).zL W;obtain⟨a,L⟩:=bP (iS l (k-1));rw[←fV l (k-1) (by omega),←L]at P;have HA:=aG L;clear L Z;have g0:∀s:cO (wr.alloc (.cells #[.string f.n,.int .i64 f.x,.int .i64 f.y] 74)),s.w.cell? ⟨bl,ze+(k-1)*3,none⟩=some (.string a.n):=cO.cell (FU (m8 P).1);clear P
      rcases Bool.eq_false_or_eq_true (fY a.n f.n)with p|p
      ·have HL:=aG p
       have X:Op.bytesLess a.n.toList f.n.toList=true:=p;clear p
       rcases Bool.eq_false_or_eq_true (fO f.x 0 15)with hx|hx
       ·rcases Bool.eq_false_or_eq_true (fO f.y 0 15)with z|z
        ·skip
         go_wp2_with fail
         refine bC (by kernel_rfl) (by kernel_rfl) ?_
         repeat (go_big_quiet_step (first|(go_at_call 113;exact cO.same _ (fG _ _ d _ q))|(go_at_call_of 49 f.x;exact cO.same _ (iH _ _ _ _ hx _))|(go_at_call_of 49 f.y;exact cO.same _ (iH _ _ _ _ z _))))
         refine wpQuiet_nil ?_;rintro _ ⟨s,rfl⟩;have b:aF w s.w:=aC o s.h;have c:=s.h;generalize s.w=w1 at b c;clear s H I J t g0;clear X;go_wp2
         have HX:=aG hx;have HY:=aG z;have HM:=aG d;have za:Hid (∀K,Below (wr.alloc (.cells #[.string f.n,.int .i64 f.x,.int .i64 f.y] 74)).heap.size (wr.alloc (.cells #[.string f.n,.int .i64 f.x,.int .i64 f.y] 74)) K->K.cell? ⟨wr.heap.size,1,none⟩=some (.int .i64 f.x)/\K.cell? ⟨wr.heap.size,2,none⟩=some (.int .i64 f.y)):=λK hb=>⟨(hb.cell (by simp)).trans (by simp),(hb.cell (by simp)).trans (by simp)⟩;clear hx z d b c0 c1 c2
         go_loopw [5] (λi K=>∃j:Nat,j<=k/\i=.int .i64 j/\Below (wr.alloc (.cells #[.string f.n,.int .i64 f.x,.int .i64 f.y] 74)).heap.size (wr.alloc (.cells #[.string f.n,.int .i64 f.x,.int .i64 f.y] 74)) K/\Hid ((l.take j).any (λg=>qQ g f.x f.y)=false)) (λi _=>k-(intOf i).toNat)
         case atStart=>exact⟨0,nz _,rfl,c,by simp[Hid]⟩
         case round=>
          clear c;obtain⟨j,hj,rfl,u,F⟩:=hrel;have D:aF w _:=o.trans (u.mono (by have:=o.size;omega))
          by_cases Y:j<k
          ·have O:=(T j (by omega)).zL D
           obtain⟨g,Q⟩:=bP (l[j]'(by omega));rw[←Q]at O;have HG:=aG Q;clear Q;obtain⟨e0,e1,e2⟩:=m8 O;obtain⟨i1,i2⟩:=za.oQ _ u;have E:Nonempty (cO wr):=⟨⟨_,br _ _⟩⟩;have p1:=cO.cell e1;have p2:=cO.cell e2;have q1:=cO.cell i1;have q2:=cO.cell i2;clear O e0 e1 e2 i1 i2
           by_cases r:g.x=f.x
           ·by_cases B:g.y=f.y
            ·have ex:(g.x==f.x)=true:=by simp[r]
             have ey:(g.y==f.y)=true:=by simp[B]
             have U:Hid (g.x=f.x/\g.y=f.y):=⟨r,B⟩;clear r B;go_wp2_with fail
             refine bC (by kernel_rfl) (by kernel_rfl) ?_
             repeat (go_big_quiet_step (fail))
             refine wpQuiet_nil ?_;rintro _ ⟨s,rfl⟩;have v:=bL u (nlq _) s.h;have A:=bL D (nlq _) s.h;generalize s.w=w3 at v A;clear s p1 p2 q1 q2 E;go_wp2
             go_ret;exact⟨aD (by rw[G.oQ,lW m (by rw[←C.oQ];exact MF (gI _ (l.take k) j (by simp;omega) (by simp only[List.getElem_take];rw[←HG.oQ];exact decide_eq_true U.oQ)))]),A⟩
            ·have ex:(g.x==f.x)=true:=by simp[r]
             have ey:(g.y==f.y)=false:=by simp[B]
             have U:Hid (¬(g.x=f.x/\g.y=f.y)):=λh=>B h.2;clear r B;go_wp2_with fail
             refine bC (by kernel_rfl) (by kernel_rfl) ?_
             repeat (go_big_quiet_step (fail))
             refine wpQuiet_nil ?_;rintro _ ⟨s,rfl⟩;have v:=bL u (nlq _) s.h;have A:=bL D (nlq _) s.h;generalize s.w=w3 at v A;clear s p1 p2 q1 q2 E;go_wp2
             go_roundw
             case rel=>exact⟨j+1,by omega,by go_num,v,by rw[Hid,gQ _ l j (by omega),F.out,←HG.oQ,qQ,decide_eq_false U.oQ];rfl⟩
             case measure=>simp[intOf];omega
           ·have ex:(g.x==f.x)=false:=by simp[r]
            have U:Hid (¬(g.x=f.x/\g.y=f.y)):=λh=>r h.1;clear r;go_wp2_with fail
            refine bC (by kernel_rfl) (by kernel_rfl) ?_
            repeat (go_big_quiet_step (fail))
            refine wpQuiet_nil ?_;rintro _ ⟨s,rfl⟩;have v:=bL u (nlq _) s.h;have A:=bL D (nlq _) s.h;generalize s.w=w3 at v A;clear s p1 p2 q1 q2 E;go_wp2
            go_roundw
            case rel=>exact⟨j+1,by omega,by go_num,v,by rw[Hid,gQ _ l j (by omega),F.out,←HG.oQ,qQ,decide_eq_false U.oQ];rfl⟩
            case measure=>simp[intOf];omega
          ·have R:j=k:=by omega
           go_wp2
           go_roundw
           case rel=>exact⟨k+1,by omega,by go_num,D,S.out.step m (by rw[←C.oQ];exact HM.oQ) (λ_=>by rw[←HA.oQ,←C.oQ];exact HL.oQ) (by rw[←C.oQ];exact IL HX.oQ HY.oQ (by rw[←R];exact F.out))⟩
           case measure=>simp[intOf];omega
        ·skip
         go_wp2_with fail
         refine bC (by kernel_rfl) (by kernel_rfl) ?_
         repeat (go_big_quiet_step (first|(go_at_call 113;exact cO.same _ (fG _ _ d _ q))|(go_at_call_of 49 f.x;exact cO.same _ (iH _ _ _ _ hx _))|(go_at_call_of 49 f.y;exact cO.same _ (iH _ _ _ _ z _))))
         refine wpQuiet_nil ?_;rintro _ ⟨s,rfl⟩;have b:aF w s.w:=aC o s.h;have c:=s.h;generalize s.w=w1 at b c;clear s H I J t g0;go_wp2
         go_ret;exact⟨aD (by rw[G.oQ,lW m (by rw[←C.oQ];exact EB z)]),b⟩
       ·skip
        go_wp2_with fail
        refine bC (by kernel_rfl) (by kernel_rfl) ?_
        repeat (go_big_quiet_step (first|(go_at_call 113;exact cO.same _ (fG _ _ d _ q))|(go_at_call_of 49 f.x;exact cO.same _ (iH _ _ _ _ hx _))))
        refine wpQuiet_nil ?_;rintro _ ⟨s,rfl⟩;have b:aF w s.w:=aC o s.h;have c:=s.h;generalize s.w=w1 at b c;clear s H I J t g0;go_wp2
        go_ret;exact⟨aD (by rw[G.oQ,lW m (by rw[←C.oQ];exact DN hx)]),b⟩
      ·have HL:=aG p
       have X:Op.bytesLess a.n.toList f.n.toList=false:=p;clear p;go_wp2_with fail
       refine bC (by kernel_rfl) (by kernel_rfl) ?_
       repeat (go_big_quiet_step (first|(go_at_call 113;exact cO.same _ (fG _ _ d _ q))))
       refine wpQuiet_nil ?_;rintro _ ⟨s,rfl⟩;have b:aF w s.w:=aC o s.h;have c:=s.h;generalize s.w=w1 at b c;clear s H I J t g0;go_wp2
       go_ret;exact⟨aD (by rw[G.oQ,RI m zd (by rw[←HA.oQ,←C.oQ];exact HL.oQ)]),b⟩
    ·clear T
     go_wp2_with fail
     refine bC (by kernel_rfl) (by kernel_rfl) ?_
     repeat (go_big_quiet_step (first|(go_at_call 113;exact cO.same _ (fG _ _ d _ q))))
     refine wpQuiet_nil ?_;rintro _ ⟨s,rfl⟩;have b:aF w s.w:=aC o s.h;have c:=s.h;generalize s.w=w1 at b c;clear s H I J t;go_wp2
     go_ret;exact⟨aD (by rw[G.oQ,KR m (by rw[←C.oQ];exact d)]),b⟩
   ·have zc:k=l.length:=by omega
    go_wp2
    go_ret;exact⟨aD (by rw[G.oQ,TJ S.out H4.oQ zc]),W⟩
 ·have H4:Hid (tU l.length=false):=decide_eq_false h4
  go_enter Tryz.func74,Tryz.ntmps74
  go_wp2
  go_ret;exact⟨aD (by rw[G.oQ,iE,H4.oQ];rfl),br _ _⟩
end Go.Proofs.YtcdbcliaepcpfaaGreatDoor
namespace Go.Proofs.YtcdbcliaepcpfaaGreatDoor
set_option maxRecDepth 100000
set_option maxHeartbeats 4000000
open Go.RowKit Go.Shelf
attribute [local go_sem] Oper.semAt_some
theorem qH {l:List Hx}{k:Nat}(h:k<l.length)(a:cS l[k].n=false):bV Hx.n l=false:=by
 have:(l.all λx=>cS x.n)=false:=by
  rw[Bool.eq_false_iff];intro ha;have:=lat.1 ha l[k] (lgm h);rw[a]at this;cases this
 rw[bV,this];rfl
theorem KO {l:List Hx} (a:(l.all λx=>cS x.n)=true) (h:∀x∈cE (lB l) (l.length-1),fY x.1.n x.2.n=true):bV Hx.n l=true:=by
 have ha:kK Hx.n l=true:=by
  refine(iJ Hx.n l).2 λi b=>?_;have:=h (lB l i) (by simp only[cE,List.mem_map,List.mem_range];exact⟨i,by omega,rfl⟩);simp only[lB]at this;rwa[cQ l i (by omega),cQ l (i+1) b]at this
 rw[bV,a,ha];rfl
theorem JX {l:List Hx}{k:Nat}(hk:k<=l.length-1){x:Hx×Hx}(hx:x∈cE (lB l) k)(h:fY x.1.n x.2.n=false):bV Hx.n l=false:=by
 simp only[cE,List.mem_map,List.mem_range]at hx;obtain⟨i,hi,rfl⟩:=hx;simp only[lB]at h;rw[cQ l i (by omega),cQ l (i+1) (by omega)]at h
 have:kK Hx.n l=false:=by
  rw[Bool.eq_false_iff];intro ha;have:=(iJ Hx.n l).1 ha i (by omega);rw[h]at this;cases this
 rw[bV,this,Bool.and_false]
theorem tR (f:Hx)(w:World):
 aY 134 #[f.val] w λe w'=>e=.returned (.string f.n)/\aF w w':=by
 go_enter Tryz.func134,Tryz.ntmps134;go_wp2;go_ret;exact⟨rfl,(br _ _).alloc (nlq _) _⟩
theorem PU (n:Nat)(hn:6<=n)(t:Option Addr)(d:Nat)(l:List Hx)(zd:l.length<=1048576)(hs:∀f∈l,f.n.size<=9223372036854775807)(w:World)(hl:Xs 3 Hx.cells w t l):
 CallsIn Fence.wide n Tryz.prog 133 #[.slice t l.length d,.func (.func 134) #[] #[]] w λe W'=>e=.returned (.bool (bV Hx.n l))/\aF w W':=by
 obtain⟨V,hV⟩:=bP (bV Hx.n l);rw[←hV];have HV:=aG hV;clear hV;have h1:1<=n:=by omega
 refine callsIn_of_wp_marks Tryz.func133 rfl trivial ?_ rfl;simp only[Tryz.ntmps133,lsz,llc,lln,Nat.reduceAdd,Nat.reduceSub,ars,arz,lpt,lap,lna,lca];gi_wp2;have bN:=(Boxed.new w 170 (.func (.func 134) #[] #[])).alloc (.cells #[.bool false] 4);have bR:=Boxed.new (w.alloc (.cells #[.func (.func 134) #[] #[]] 170)) 4 (.bool false);simp only[wsa]at bR;have J:aF w ((w.alloc (.cells #[.func (.func 134) #[] #[]] 170)).alloc (.cells #[.bool false] 4)):=((br _ w).alloc (nlq _) _).alloc (by simp) _;have E:((w.alloc (.cells #[.func (.func 134) #[] #[]] 170)).alloc (.cells #[.bool false] 4)).heap.size=w.heap.size+2:=by simp
 obtain⟨W0,zb⟩:=cK ((w.alloc (.cells #[.func (.func 134) #[] #[]] 170)).alloc (.cells #[.bool false] 4));rw[zb]at bN bR J E ⊢;clear zb
 gi_loopw [11] (λi wr=>∃k:Nat,k<=l.length/\i=.int .i64 k/\aF W0 wr/\Hid ((l.take k).all (λx=>cS x.n)=true)) (λi _=>l.length-(intOf i).toNat)
 case atStart=>exact⟨0,nz _,rfl,br _ _,by simp[Hid]⟩
 case round=>
  obtain⟨k,hk,rfl,F,R⟩:=hrel;have A:Boxed wr w.heap.size 170 (.func (.func 134) #[] #[]):=(F.block _ (by omega)).trans bN;have B:Boxed wr (w.heap.size+1) 4 (.bool false):=(F.block _ (by omega)).trans bR;have C:aF w wr:=J.trans (F.mono (by omega))
  by_cases z:k<l.length
  ·rcases hl with h|⟨bl,off,rfl,hc⟩
   ·subst h;simp at z
   ·have P:=(hc k z).zL C
    have E:=hs l[k] (lgm z);obtain⟨b,O⟩:=bP (l[k]);rw[←O]at P E;have HB:=aG O;clear O hc;obtain⟨c0,c1,c2⟩:=iI P;clear P;have cN:=A.cell;have hz0:w.heap.size<wr.heap.size:=A.lt;have ze:w.heap.size+1<wr.heap.size:=B.lt;gi_wp2_with fail
    refine⟨trivial,?_⟩;refine(cw.2 (tR b _)).mono ?_;rintro e S ⟨rfl,g⟩;gi_wp2_with fail
    refine⟨trivial,?_⟩;refine(cw.2 (sG b.n _ E)).mono ?_;rintro e S ⟨rfl,rfl⟩;have N:aF W0 S:=aC (F.alloc F.size _) g;have m:Boxed S (w.heap.size+1) 4 (.bool false):=(N.block _ (by omega)).trans bR;have cR:=m.cell;have fR:=m.frozen;clear c0 c1 c2 cN;gi_wp2
    ·have hv:cS b.n=false:=nf (by assumption)
     have v:=(m.set (.bool false)).cell;refine⟨.bool false,?_,by rw[HV.oQ,qH z (by rw[←HB.oQ];exact hv)],(J.trans (N.mono (by omega))).setCell (p:=⟨w.heap.size+1,0,none⟩) (by simp) _⟩
     simp[results,Tryz.f133,go_sem,v]
    ·have hv:cS b.n=true:=nt (by assumption)
     go_roundw
     case rel=>exact⟨k+1,by omega,by go_num,N,by rw[Hid,List.take_succ_eq_append_getElem z,List.all_append,R.out,←HB.oQ];simp[hv]⟩
     case measure=>simp[intOf];omega
  ·clear hs
   rw[ltl (by omega)]at R;gi_wp2_with fail
   refine⟨trivial,?_⟩;refine(PQ (n-1) _ _ _ _).mono ?_;rintro e w' ⟨rfl,rfl⟩;gi_wp2_with fail
   have bS:=Boxed.new wr 28 (.slice t l.length d);have zg:aF W0 (wr.alloc (.cells #[.slice t l.length d] 28)):=F.alloc F.size _;have Z:=A.alloc (.cells #[.slice t l.length d] 28);have m:=B.alloc (.cells #[.slice t l.length d] 28);have o:aF w (wr.alloc (.cells #[.slice t l.length d] 28)):=C.alloc C.size _;have ze:w.heap.size+1<wr.heap.size:=B.lt;have G:(wr.alloc (.cells #[.slice t l.length d] 28)).heap.size=wr.heap.size+1:=by simp
   obtain⟨H,hH⟩:=cK wr.heap.size;rw[hH]at ze G bS ⊢;obtain⟨W2,zc⟩:=cK (wr.alloc (.cells #[.slice t l.length d] 28));rw[zc]at bS zg Z m o G ⊢;clear zc hH A B C F
   refine wpIn_rangeFunc_ownH rfl h1 (gf:=227) (lb:=#[.pointer (some ⟨H,0,none⟩)]) rfl trivial (enters_of Tryz.func227 (by kernel_rfl) rfl)
    (EP (n-1) H d t l zd W2 bS.cell (hl.zL o)) belowK_t (belowK_b (nlq _)) (br _ _) (λ_=>rfl)
    (λu W=>(∀x∈u,fY x.1.n x.2.n=true)/\aF W2 W)
    (λc u W=>((c=.ret/\∃x∈u,fY x.1.n x.2.n=false)/\Boxed W (w.heap.size+1) 4 (.bool false))/\aF w W)
    (OwnFrom.and (ownFrom_pure _ _) (ownFrom_below (nlq _) (nlq _)))
    (λc=>OwnFrom.and (OwnFrom.and (ownFrom_pure _ _) (Own.from (boxed_own _ _ _) _)) (ownFrom_below (nlq _) (by omega)))
    ⟨by simp,br _ _⟩
    (λx a' W=>∃T U,aZ W T 0 x.1.cells/\aZ W U 0 x.2.cells/\a'={ tmps:=#[.slice t l.length d,.func (.func 134) #[] #[],undef,.pointer (some ⟨w.heap.size,0,none⟩),.pointer (some ⟨w.heap.size+1,0,none⟩),undef,u6,.pointer (some ⟨T,0,none⟩),.pointer (some ⟨U,0,none⟩),.slice t l.length d,.int .i64 l.length,.int .i64 k,.bool false,u13,u14,u15,u16,u17,u18,u19,u20,.slice t l.length d,.func (.func 227) #[] #[.pointer (some ⟨H,0,none⟩)],x.1.val,x.2.val,undef,undef,undef,undef,undef,undef,undef],defers:=[]})
    (λx a' _ X Y row hs hg hr=>by obtain⟨T,U,e1,e2,e3⟩:=hs;exact⟨T,U,eT e1 hg (λr e=>(hr r e).2),eT e2 hg (λr e=>(hr r e).2),e3⟩)
    ?assign ?body ?done ?stop
   case assign=>
    rintro lp u x W K ⟨hp,a⟩ L;gi_wp2
    exact L _ _ (((KeepsOthers.alloc _ _).trans (KeepsOthers.alloc _ _)).from _) (((br _ W).alloc a.size _).alloc (by have:=a.size;simp;omega) _) ⟨hp,(a.alloc a.size _).alloc (by have:=a.size;simp;omega) _⟩
     ⟨W.heap.size,W.heap.size+1,(gC W _ 90 rfl _ _ _).zL ((br _ _).alloc (nlq _) _),gC _ _ 90 (by simp) _ _ _,rfl⟩
   case body=>
    rintro lp u x a' W hl' ⟨r,hr⟩ ⟨hp,a⟩ ⟨T,U,e1,e2,rfl⟩ hlt';have zf:Boxed W w.heap.size 170 (.func (.func 134) #[] #[]):=(a.block _ (by omega)).trans Z;have j:Boxed W (w.heap.size+1) 4 (.bool false):=(a.block _ (by omega)).trans m;obtain⟨c0,c1,c2⟩:=iI e1;obtain⟨d0,d1,d2⟩:=iI e2;rw[Nat.zero_add]at c1 c2 d1 d2;have zh:Nonempty (cO W):=⟨⟨W,br _ _⟩⟩;have f0:=cO.cell c0;have f1:=cO.cell c1;have f2:=cO.cell c2;have g0:=cO.cell d0;have g1:=cO.cell d1;have g2:=cO.cell d2;have fN:=cO.cell zf.cell;clear c0 c1 c2 d0 d1 d2 e1 e2;gi_wp2_with fail
    refine pJ (by kernel_rfl) (by kernel_rfl) (by kernel_rfl) ?_
    repeat (go_big_quiet_step ((go_at_call 134;exact cO.call _ (tR _ _))))
    refine wpQuiet_nil ?_;rintro _ ⟨s,rfl⟩;have g:=s.h;generalize s.w=S at g;clear s f0 f1 f2 g0 g1 g2 fN zh;have I:Boxed S (w.heap.size+1) 4 (.bool false):=(g.block _ j.lt).trans j;have cR:=I.cell;have fR:=I.frozen;have za:aF w S:=(o.trans (a.mono (by omega))).trans (g.mono (by have:=a.size;omega));gi_wp2
    ·have Q:fY x.1.n x.2.n=false:=nf (by assumption)
     exact⟨((bO g).trans (KeepsOthers.setCell _ _ _)).from _,⟨⟨rfl,x,lma.2 (.inr (by simp)),Q⟩,I.set _⟩,za.setCell (p:=⟨w.heap.size+1,0,none⟩) (by simp) _⟩
    ·have Q:fY x.1.n x.2.n=true:=nt (by assumption)
     exact⟨(bO g).from _,g.mono a.size,λy hy=>(lma.1 hy).elim (hp y) (λe=>by simp at e;subst e;exact Q),a.trans (g.mono a.size)⟩
   case done=>
    rintro D zs W hD rfl ⟨hp,a⟩ L;have j:Boxed W (w.heap.size+1) 4 (.bool false):=(a.block _ (by omega)).trans m;have cR:=j.cell;have fR:=j.frozen;gi_wp2;have M:=(KeepsOthers.setCell W ⟨w.heap.size+1,0,none⟩ (.bool true)).same D _ L rfl;refine⟨by simp,.inl ⟨_,_,rfl,run_takeDeferred M,?_⟩⟩;have v:=cell_kept (j.set (.bool true)).cell (grownBy_putObj' _ D (.deferred none)) (λr e=>by cases e;exact⟨_,M,rfl⟩);refine⟨.bool true,?_,by rw[HV.oQ,KO R.out hp],(((o.trans (a.mono (by omega))).setCell (p:=⟨w.heap.size+1,0,none⟩) (by simp) _).trans (belowK_b (w:=w) (nlq _) _ D _ _ (by omega) M rfl rfl))⟩
    simp[results,Tryz.f133,go_sem,v]
   case stop=>
    rintro D c u W hD ⟨q,hq,rfl⟩ ⟨⟨⟨rfl,x,hx,hy⟩,j⟩,a⟩ L;gi_wp2;refine⟨by simp,.inl ⟨_,_,rfl,run_takeDeferred L,?_⟩⟩;have v:=cell_kept j.cell (grownBy_putObj' _ D (.deferred none)) (λr e=>by cases e;exact⟨_,L,rfl⟩);refine⟨.bool false,?_,by rw[HV.oQ,JX hq hx hy],a.trans (belowK_b (w:=w) (nlq _) W D _ _ (by omega) L rfl rfl)⟩
    simp[results,Tryz.f133,go_sem,v]
theorem LT (c:Option Addr)(a:Nat)(l:List Hx)(b:l.length<=1048576)(h:∀f∈l,f.n.size<=9223372036854775807)(w:World)(g:Xs 3 Hx.cells w c l):
 aY 133 #[.slice c l.length a,.func (.func 134) #[] #[]] w λe d=>e=.returned (.bool (bV Hx.n l))/\aF w d:=
 cw.1 (PU 6 (by omega) c a l b h w g)
end Go.Proofs.YtcdbcliaepcpfaaGreatDoor
namespace Go.Proofs.YtcdbcliaepcpfaaGreatDoor
set_option maxRecDepth 100000
set_option maxHeartbeats 1000000
open Go.RowKit
def fJ (now:Int)(l:List Bx):Bool:=l.all λb=>decide (now<=b.i)
theorem IN {a:Int}{l:List Bx}{k:Nat}(h:k<l.length)(b:¬a<=l[k].i):fJ a l=false:=sN _ l k h (decide_eq_false b)
theorem AD (l:List Bx)(o:Option Addr)(j:Nat)(a:Int)(w:World)(q:jJ w o l)(hn:l.length<=1048576):
 aY 45 #[.slice o l.length j,.int .i64 a] w λe w'=>e=.returned (.bool (fJ a l))/\w'=w:=by
 go_enter Tryz.func45,Tryz.ntmps45
 go_wp2
 go_loop [5] (λi=>∃k:Nat,k<=l.length/\i=.int .i64 k/\Hid (fJ a (l.take k)=true)) (λi=>l.length-(intOf i).toNat)
 case atStart=>exact⟨0,nz _,rfl,by simp[Hid,fJ]⟩
 case round=>
  obtain⟨k,hk,rfl,d⟩:=hrel
  by_cases c:k<l.length
  ·rcases q with h|⟨bl,off,rfl,p⟩
   ·subst h;simp at c
   ·have g:=p k c
    obtain⟨b,f⟩:=bP (l[k]);rw[←f]at g;have n:=aG f;clear f p;obtain⟨c0,c1,c2,c3,c4,c5⟩:=g
    by_cases r:a<=b.i
    ·have m:¬b.i<a:=by omega
     go_wp2
     go_round
     case rel=>exact⟨k+1,by omega,by go_num,by rw[Hid,fJ,t8 _ l k c];rw[Hid,fJ]at d;rw[d,←n.oQ,decide_eq_true r];rfl⟩
     case measure=>simp[intOf];omega
    ·have m:b.i<a:=by omega
     go_wp2
     go_ret;exact⟨aD (IN c (by rw[←n.oQ];omega)).symm,rfl⟩
  ·go_wp2
   go_ret;rw[ltl (by omega)]at d;exact⟨aD d.out.symm,rfl⟩
theorem AU (l:List Bx)(p:Option Addr)(m:Nat)(a:Int)(w:World)(r:jJ w p l)(hn:l.length<=1048576):
 aY 177 #[.slice p l.length m,.int .i64 a] w λe w'=>e=.returned (.bool (fJ a l))/\aF w w':=by
 go_enter Tryz.func177,Tryz.ntmps177
 go_wp2
 go_loopw [9] (λi wr=>∃k:Nat,k<=l.length/\i=.int .i64 k/\aF w wr/\Hid (fJ a (l.take k)=true)) (λi _=>l.length-(intOf i).toNat)
 case atStart=>exact⟨0,nz _,rfl,br _ _,by simp[Hid,fJ]⟩
 case round=>
  obtain⟨k,hk,rfl,g,d⟩:=hrel
  by_cases c:k<l.length
  ·rcases r with h|⟨bl,off,rfl,q⟩
   ·subst h;simp at c
   ·have j:=(q k c).zL g
    obtain⟨b,f⟩:=bP (l[k]);rw[←f]at j;have o:=aG f;clear f q;obtain⟨c0,c1,c2,c3,c4,c5⟩:=j
    by_cases s:a<=b.i
    ·have n:¬b.i<a:=by omega
     go_wp2
     go_roundw
     case rel=>exact⟨k+1,by omega,by go_num,g.alloc g.size _,by rw[Hid,fJ,t8 _ l k c];rw[Hid,fJ]at d;rw[d,←o.oQ,decide_eq_true s];rfl⟩
     case measure=>simp[intOf];omega
    ·have n:b.i<a:=by omega
     go_wp2
     go_ret;exact⟨aD (IN c (by rw[←o.oQ];omega)).symm,g.alloc g.size _⟩
  ·go_wp2
   go_ret;rw[ltl (by omega)]at d;exact⟨aD d.out.symm,g⟩
structure Bk where
 now:Int
 fa:Option Addr
 fl:List Fx
 fc:Nat
 ha:Option Addr
 hl:List Hx
 hc:Nat
abbrev Bk.val (b:Bk):Value:=.agg #[.int .i64 b.now,.slice b.fa b.fl.length b.fc,.slice b.ha b.hl.length b.hc]
def nT (n:Int):Bool:=decide (0<=n/\n<=10000)
theorem QV (b:Bk)(w:World):
 aY 93 #[b.val] w λe w'=>e=.returned (.bool (nT b.now))/\aF w w':=by
 go_enter Tryz.func93,Tryz.ntmps93
 go_wp2
 all_goals go_ret
 all_goals refine⟨aD ?_,(br _ _).alloc (nlq _) _⟩
 all_goals (rw[Bool.eq_iff_iff];simp only[nT,dte,Bool.false_eq_true,false_iff];omega)
theorem QM (b:Bk)(w:World)(g:Xs 3 Fx.cells w b.fa b.fl)(h:b.fl.length<=1048576)(a:b.fl.length<=b.fc)(d:b.fc<=9223372036854775807)(i:∀f∈b.fl,f.n.size<=9223372036854775807):
 aY 94 #[b.val] w λe w'=>e=.returned (.bool (cB b.fl))/\aF w w':=by
 go_enter Tryz.func94,Tryz.ntmps94;go_wp2_with (go_at_call 95;refine(pZ b.fl _ _ a d _ (g.zL (aB (br _ _) _)) h i).mono ?_;rintro e w1 ⟨rfl,c⟩);go_ret;exact⟨rfl,aC (aB (br _ _) _) c⟩
def gA (n:Nat):Bool:=decide (n<=16)
theorem IP (b:Bk)(w:World)(g:Xs 3 Hx.cells w b.ha b.hl)(i:b.hl.length<=1048576)(j:∀h∈b.hl,h.n.size<=9223372036854775807):
 aY 96 #[b.val] w λe w'=>e=.returned (.bool (gA b.hl.length&&bV Hx.n b.hl))/\aF w w':=by
 obtain⟨V,a⟩:=bP ((gA b.hl.length&&bV Hx.n b.hl));rw[←a];have d:=aG a;clear a;by_cases h:b.hl.length<=16
 · have f:decide ((b.hl.length:Int)<=16)=true:=by simp;omega
   go_enter Tryz.func96,Tryz.ntmps96;go_wp2_with (go_at_call 133;refine(LT _ _ b.hl i j _ (g.zL (aB (br _ _) _))).mono ?_;rintro e w1 ⟨rfl,c⟩)
   all_goals first
    | (go_ret
       exact⟨aD (by rw[d.oQ,gA,decide_eq_true h];rfl),aC (aB (br _ _) _) c⟩)
    | omega
 · have f:decide ((b.hl.length:Int)<=16)=false:=by simp;omega
   go_enter Tryz.func96,Tryz.ntmps96;go_wp2;go_ret;exact⟨aD (by rw[d.oQ,gA,decide_eq_false h];rfl),aB (br _ _) _⟩
end Go.Proofs.YtcdbcliaepcpfaaGreatDoor
