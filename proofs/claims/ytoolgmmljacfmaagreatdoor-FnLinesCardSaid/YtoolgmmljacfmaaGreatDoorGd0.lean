import Derived.Test.YtoolgmmljacfmaaGreatDoorFa
import Derived.Test.YtoolgmmljacfmaaGreatDoorGa
import Derived.Deep.DeepCutAuto
import Derived.Deep.CutBlock
set_option maxRecDepth 100000
set_option maxHeartbeats 16000000
open List renaming length → ln
open Go.Proofs.Tryz Go.RowKit
namespace Go.Proofs.YtoolgmmljacfmaaGreatDoor
open Go.Shelf
attribute [local go_sem] Oper.semAt_some
variable {c m w' t x:Wd}{A k:Nat}{l:List Hx}{y:Hx}{d e a n o b z v w:Va}{L:Nat → Prop}{r f i u:Nat → Va}
def K6c (A k:Nat)(y:Hx)(h0 h4 h12:Value):Nat->Option Value
 |1|9|14=>some (E A 2)
 |2|10=>some h0
 |3|11=>some (I (k:Int))
 |4=>some h4
 |6=>some y.val
 |12=>some h12
 |_=>none
structure K6 (Wd:World)(A k:Nat)(l:List Hx)(y:Hx)(h0 h4 h12:Value)(L:Nat->Prop)(vs:Nat->Value)(w':World):Prop where
 c:∀j v,K6c A k y h0 h4 h12 j=some v->L j->vs j=v
 v0:L 0->∃p,vs 0=.slice (some ⟨p,0,none⟩) 0 0/\Wd.heap.size<=p/\(¬L 5->w'.heap[p]?=some (.cells #[] 74))
 v5:L 5->¬L 8->w'.ownsRow Wd.heap.size 74 3 (vs 5) k (aJ Hx.cells (l.take k))
 v7:L 7->∃V,vs 7=.slice (some ⟨V,0,none⟩) 1 1/\(¬L 8->w'.heap[V]?=some (.cells #[.string y.n,.slice y.ta y.tl.length y.tc,.slice y.na y.nl.length y.nc] 74))
 v8:L 8->¬L 13->w'.ownsRow Wd.heap.size 74 3 (vs 8) (k+1) (aJ Hx.cells (l.take k)++y.cells)
 v13:L 13->¬L 15->w'.ownsRow Wd.heap.size 74 3 (vs 13) (l.length+1) (aJ Hx.cells (l.take k)++y.cells++aJ Hx.cells (l.drop k))
 w15:L 15->∃w0,aG Wd w0/\w0.ownsRow Wd.heap.size 74 3 (vs 13) (l.length+1) (aJ Hx.cells (l.take k)++y.cells++aJ Hx.cells (l.drop k))/\w'=w0.setCell ⟨A,2,none⟩ (vs 13)
 bw:¬L 15->aG Wd w'
theorem K6.ext (L b:Nat->Prop)(f:Nat->Va)(w':Wd)(h:∀j,L j↔b j)(q:K6 c A k l y d e a L f w'):K6 c A k l y d e a b f w':=by
 obtain rfl:L=b:=funext λj=>propext (h j);exact q
theorem K6.zL {w' d:Wd}(q:K6 m A k l y n o b L r w')(f:¬L 15)(a:aG w' d):K6 m A k l y n o b L r d:=
 ⟨q.c,λh=>by obtain⟨p,e,s,i⟩:=q.v0 h;exact⟨p,e,s,λj=>bJ (i j) a⟩,λh g=>dC (q.v5 h g) a,λh=>by obtain⟨V,e,i⟩:=q.v7 h;exact⟨V,e,λj=>bJ (i j) a⟩,λh g=>dC (q.v8 h g) a,λh g=>dC (q.v13 h g) a,λh=>absurd h f,λh=>aE (q.bw h) a⟩
theorem K6.cc (q:K6 m A k l y d o a L r w')(i:Nat)(v:Va)(n:∀u,K6c A k y d o a i=some u->u=v):∀j u,K6c A k y d o a j=some u->(L j∨j=i)->aH r i v j=u:=λj u e h=>by
 by_cases g:j=i;·subst g;rw[n u e];simp[aH]
 ·rw[show aH r i v j=r j from by simp[aH,g]];exact q.c j u e (h.resolve_right g)
theorem K6.addc (q:K6 t A k l y b z a L f w')(i:Nat){v:Va}(w:K6c A k y b z a i=some v):K6 t A k l y b z a (λj=>L j∨j=i) (aH f i v) w':=by
 have n:∀m,K6c A k y b z a m=none->m≠i:=λm d e=>by rw[e,w]at d;cases d
 have u:∀m,K6c A k y b z a m=none->aH f i v m=f m:=λm d=>by simp[aH,n m d]
 refine⟨q.cc i v (λu e=>by rw[w]at e;cases e;rfl),λh=>?_,λh g=>?_,λh=>?_,λh g=>?_,λh g=>?_,λh=>?_,λh=>q.bw (λs=>h (.inl s))⟩;·rw[u 0 rfl];obtain⟨p,e,x,o⟩:=q.v0 (h.resolve_right (n 0 rfl));exact⟨p,e,x,λr=>o (λs=>r (.inl s))⟩
 ·rw[u 5 rfl];exact q.v5 (h.resolve_right (n 5 rfl)) (λs=>g (.inl s))
 ·rw[u 7 rfl];obtain⟨V,e,o⟩:=q.v7 (h.resolve_right (n 7 rfl));exact⟨V,e,λr=>o (λs=>r (.inl s))⟩
 ·rw[u 8 rfl];exact q.v8 (h.resolve_right (n 8 rfl)) (λs=>g (.inl s))
 ·rw[u 13 rfl];exact q.v13 (h.resolve_right (n 13 rfl)) (λs=>g (.inl s))
 ·rw[u 13 rfl];exact q.w15 (h.resolve_right (n 15 rfl))
theorem K6.add0 (q:K6 t A k l y d z a L r w')(o:∃p,v=.slice (some (Y p 0)) 0 0/\t.heap.size<=p/\w'.heap[p]?=some (.cells #[] 74)):K6 t A k l y d z a (λj=>L j∨j=0) (aH r 0 v) w':=
 ⟨q.cc 0 v (λ_ e=>by cases e),λ_=>by obtain⟨p,e,m,c⟩:=o;exact⟨p,e,m,λ_=>c⟩,λh g=>q.v5 (iT h) (λs=>g (.inl s)),λh=>by obtain⟨V,e,c⟩:=q.v7 (iT h);exact⟨V,e,λn=>c (λs=>n (.inl s))⟩,λh g=>q.v8 (iT h) (λs=>g (.inl s)),λh g=>q.v13 (iT h) (λs=>g (.inl s)),λh=>q.w15 (iT h),λh=>q.bw (λs=>h (.inl s))⟩
theorem K6.add5 (q:K6 t A k l y d z a L r w')(o:w'.ownsRow t.heap.size 74 3 v k (aJ Hx.cells (l.take k))):K6 t A k l y d z a (λj=>L j∨j=5) (aH r 5 v) w':=
 ⟨q.cc 5 v (λ_ e=>by cases e),λh=>by obtain⟨p,e,n,f⟩:=q.v0 (iT h);exact⟨p,e,n,λc=>absurd (.inr rfl) c⟩,λ_ _=>o,λh=>by obtain⟨V,e,f⟩:=q.v7 (iT h);exact⟨V,e,λc=>f (λs=>c (.inl s))⟩,λh g=>q.v8 (iT h) (λs=>g (.inl s)),λh g=>q.v13 (iT h) (λs=>g (.inl s)),λh=>q.w15 (iT h),λh=>q.bw (λs=>h (.inl s))⟩
theorem K6.add7 (q:K6 c A k l y d z a L i w')(r:∃V,v=.slice (some (Y V 0)) 1 1/\w'.heap[V]?=some (.cells #[.string y.n,.slice y.ta (ln y.tl) y.tc,.slice y.na (ln y.nl) y.nc] 74)):K6 c A k l y d z a (λj=>L j∨j=7) (aH i 7 v) w':=
 ⟨q.cc 7 v (λ_ e=>by cases e),λh=>by obtain⟨p,e,m,b⟩:=q.v0 (iT h);exact⟨p,e,m,λo=>b (λs=>o (.inl s))⟩,λh g=>q.v5 (iT h) (λs=>g (.inl s)),λ_=>by obtain⟨V,e,b⟩:=r;exact⟨V,e,λ_=>b⟩,λh g=>q.v8 (iT h) (λs=>g (.inl s)),λh g=>q.v13 (iT h) (λs=>g (.inl s)),λh=>q.w15 (iT h),λh=>q.bw (λs=>h (.inl s))⟩
theorem K6.add8 (q:K6 c A k l y z w b L u w') (r:L 5) (d:¬L 13) (f:¬L 15) (t:x.ownsRow c.heap.size 74 3 v (k+1) (aJ Hx.cells (l.take k)++y.cells)) (s:aG c x):K6 c A k l y z w b (λj=>L j∨j=8) (aH u 8 v) x:=
 ⟨q.cc 8 v (λ_ e=>by cases e),λh=>by obtain⟨p,e,o,_⟩:=q.v0 (iT h);exact⟨p,e,o,λg=>absurd (.inl r) g⟩,λ_ g=>absurd (.inr rfl) g,λh=>by obtain⟨V,e,_⟩:=q.v7 (iT h);exact⟨V,e,λg=>absurd (.inr rfl) g⟩,λ_ _=>t,λh=>absurd (iT h) d,λh=>absurd (iT h) f,λ_=>s⟩
theorem K6.add13 {v:Va} (q:K6 c A k l y z w b L u w') (r:L 5) (m:L 8) (d:¬L 15) (t:x.ownsRow c.heap.size 74 3 v (ln l+1) (aJ Hx.cells (l.take k)++y.cells++aJ Hx.cells (l.drop k))) (s:aG c x):K6 c A k l y z w b (λj=>L j∨j=13) (aH u 13 v) x:=
 ⟨q.cc 13 v (λ_ e=>by cases e),λh=>by obtain⟨p,e,o,_⟩:=q.v0 (iT h);exact⟨p,e,o,λg=>absurd (.inl r) g⟩,λ_ g=>absurd (.inl m) g,λh=>by obtain⟨V,e,_⟩:=q.v7 (iT h);exact⟨V,e,λg=>absurd (.inl m) g⟩,λ_ g=>absurd (.inr rfl) g,λ_ _=>t,λh=>absurd (iT h) d,λ_=>s⟩
theorem K6.add15 {v:Va}(q:K6 t A k l y z w a L u w')(r:L 5)(n:L 8)(b:L 13)(c:¬L 15):K6 t A k l y z w a (λj=>L j∨j=15) (aH u 15 v) (w'.setCell (Y A 2) (u 13)):=
 ⟨q.cc 15 v (λ_ e=>by cases e),λh=>by obtain⟨p,e,o,_⟩:=q.v0 (iT h);exact⟨p,e,o,λg=>absurd (.inl r) g⟩,λ_ g=>absurd (.inl n) g,λh=>by obtain⟨V,e,_⟩:=q.v7 (iT h);exact⟨V,e,λg=>absurd (.inl n) g⟩,λ_ g=>absurd (.inl b) g,λ_ g=>absurd (.inr rfl) g,λ_=>⟨w',q.bw c,q.v13 b c,rfl⟩,λh=>absurd (.inr rfl) h⟩
open Go.BigFrame
variable {nm:Ba}{g a:Nat}{w W:Wd}
def mW (l:List Hx)(nm:ByteArray):Nat:=(l.takeWhile (λh=>gE h.n nm)).length
def nY (l:List Hx)(y:Hx):List Hx:=l.take (mW l y.n)++y::l.drop (mW l y.n)
theorem GK (d:k<=ln l)(c:∀j (h:j<ln l),j<k->gE l[j].n nm=true)(b:∀h:k<ln l,gE l[k].n nm=false):mW l nm=k:=by
 induction l generalizing k with
 |nil=>simp at d;subst d;rfl
 |cons a r ih=>
  cases k with
  |zero=>
   have:=b sm;simp only[List.getElem_cons_zero]at this;simp[mW,this]
  |succ m=>
   have e:=c 0 sm om;simp only[List.getElem_cons_zero]at e;have:=ih (k:=m) (by simpa using d) (λj h hj=>by have:=c (j+1) (by simpa using h) om;simpa using this) (λh=>by have:=b (by simpa using h);simpa using this);simp only[mW]at this ⊢;simp[e,this]
theorem WI (h:gD 74 3 Hx.cells w g a l (ln l))(c:ln l<=a)(b:aG w W):∀j u,(aJ Hx.cells (l.take k))[j]?=some u->W.cell? (((Y g 0):Addr).add j)=some u:=
 nA Hx.cells_length dz (λi d=>by
  rw[List.getElem_take];exact(h.xs' Hx.cells_length (nlq _) c i (by simp at d;omega)).zL b)
theorem V5 (h:gD 74 3 Hx.cells w g a l (ln l))(c:ln l<=a)(b:aG w W):∀j u,(aJ Hx.cells (l.drop k))[j]?=some u->W.cell? (((Y g (k*3)):Addr).add j)=some u:=
 nA Hx.cells_length dz (λi d=>by
  rw[List.getElem_drop];have:=(h.xs' Hx.cells_length (nlq _) c (k+i) (by simp at d;omega)).zL b;rwa[nza,Nat.add_mul]at this)
theorem SW (b:Bk)(y:Hx)(z:Nat)(w:Wd)(hO:bW 74 3 Hx.cells w z (.slice b.ha (ln b.hl) b.hc) b.hl)(hn:ln b.hl<=64):
 aW 64 #[b.val,y.val] w λe w'=>(∃a' c',e=rt (Bk.val ⟨b.now,b.fa,b.fl,b.fc,a',nY b.hl y,c'⟩)/\bW 74 3 Hx.cells w' w.heap.size (.slice a' (ln (nY b.hl y)) c') (nY b.hl y))/\aG w w':=by
 obtain⟨j0,zu,zx,zy,zz⟩:=info_parts Tryz.info74;have N1:aG w (w.alloc b.obj):=aC (br _ _) _;have A1:=wnq w b.obj;obtain⟨U1,zs⟩:∃U,w.alloc b.obj=U:=⟨_,rfl⟩;have z1:U1.heap.size=w.heap.size+1:=by rw[←zs];simp
 rw[zs]at N1 A1;have M2:aG U1 (U1.alloc (.cells #[.string y.n,.slice y.ta (ln y.tl) y.tc,.slice y.na (ln y.nl) y.nc] 74)):=aC (br _ _) _;have X2:=wnq U1 (.cells #[.string y.n,.slice y.ta (ln y.tl) y.tc,.slice y.na (ln y.nl) y.nc] 74);obtain⟨U2,zt⟩:∃U,U1.alloc (.cells #[.string y.n,.slice y.ta (ln y.tl) y.tc,.slice y.na (ln y.nl) y.nc] 74)=U:=⟨_,rfl⟩;have z2:U2.heap.size=w.heap.size+2:=by rw[←zt];simp[z1]
 rw[zt]at M2 X2;have M3:aG U2 (U2.alloc (zo)):=aC (br _ _) _;have R3:=wnq U2 (zo);obtain⟨U3,yi⟩:∃U,U2.alloc (zo)=U:=⟨_,rfl⟩;rw[yi]at M3 R3;have N3:aG w U3:=aE (aE N1 M2) M3;have yb:Hid _:=bJ (bJ A1 M2) M3;have yf:Hid (U3.heap[w.heap.size+1]?=some (.cells #[.string y.n,.slice y.ta (ln y.tl) y.tc,.slice y.na (ln y.nl) y.nc] 74)):=by rw[Hid,←z1];exact bJ X2 M3
 have yu:Hid (U3.heap[w.heap.size+2]?=some (zo)):=by rw[Hid,←z2];exact R3
 clear N1 M2 M3 A1 X2 R3
 go_enter func64,ntmps64
 go_upto_block 0 with fail
 clear zs zt yi
 go_cut [5] (λiv wx=>∃k:Nat,k<=ln b.hl/\iv=I (k:Int)/\aG U3 wx/\mW b.hl y.n=k)
 case first=>
  go_wp2_with fail
  go_loopw [5] (λiv wr=>∃k:Nat,k<=ln b.hl/\iv=I (k:Int)/\aG U3 wr/\Hid (∀j (h:j<ln b.hl),j<k->gE b.hl[j].n y.n=true)) (λiv _=>ln b.hl-(intOf iv).toNat)
  case atStart=>exact⟨0,nz _,rfl,br _ _,λj h N=>by omega⟩
  case round=>
   obtain⟨k,hk,rfl,hB,zb⟩:=hrel;have HB:=aI hB;have a2:wr.cell? (Y w.heap.size 2)=some (.slice b.ha (ln b.hl) b.hc):=aB (bJ yb.oQ hB) rfl
   by_cases zn:k<ln b.hl
   ·obtain⟨g,ha,D,A⟩:∃g,b.ha=some (Y g 0)/\(ln b.hl)<=b.hc/\gD 74 3 Hx.cells w g b.hc b.hl (ln b.hl):=by
     rcases hO with⟨_,e⟩|⟨g,yw,e,_,h2,h3⟩
     ·rw[e]at zn;simp at zn
     ·simp only[vsi]at e
      obtain⟨S,_,rfl⟩:=e;exact⟨g,S,h2,h3⟩
    obtain⟨c0,_,_⟩:=gN (A.xs' Hx.cells_length (nlq _) D k zn);rw[nza]at c0;have c0:=((aE N3 hB).cell (aA c0)).trans c0;have y0:wr.cell? (Y (w.heap.size+1) 0)=some (.string y.n):=aB (bJ yf.oQ hB) rfl;rw[ha]at a2;obtain⟨x,hx⟩:=bQ (b.hl[k]);rw[←hx]at c0;have ye:=aI hx;clear hx ha A hO hB
    cases hq:gE x.n y.n with
    |true=>
     have yr:Hid (∀j (h:j<ln b.hl),j<k+1->gE b.hl[j].n y.n=true):=λj h N=>by
      by_cases e:j=k
      ·subst e;rw[←ye.oQ];exact hq
      ·exact zb.out j h om
     clear zb;unfold gE at hq;go_wp2_with fail
     go_quiet (fail)
     go_wp2
     go_roundw
     case rel=>exact⟨k+1,om,gn,(below_drewN HB.oQ _),yr⟩
     case measure=>simp[intOf];omega
    |false=>
     have zc:Hid (mW b.hl y.n=k):=GK hk zb.out (λh=>by have e:=ye.oQ;rw[←e];exact hq);clear zb;unfold gE at hq;go_wp2_with fail
     go_quiet (fail)
     go_wp2
     all_goals go_meet
     all_goals exact⟨k,hk,rfl,(below_drewN HB.oQ _),zc.oQ⟩
   ·have zc:Hid (mW b.hl y.n=k):=GK hk zb.out (λh=>absurd h zn)
    clear zb hO hB;go_wp2_with fail
    go_quiet (fail)
    go_wp2
    all_goals go_meet
    all_goals exact⟨k,hk,rfl,(below_drewN HB.oQ _),zc.oQ⟩
 case rest=>
  obtain⟨k,hk,rfl,hB,yp⟩:=hcut
  have yc:Hid (nY b.hl y=b.hl.take k++y::b.hl.drop k):=by
   show nY b.hl y=_
   unfold nY;rw[yp]
  obtain⟨C,X⟩:∃C:Oa,(b.ha=none/\b.hl=[]/\b.hc=0/\C=none/\k=0)∨∃g,b.ha=some (Y g 0)/\(ln b.hl)<=b.hc/\gD 74 3 Hx.cells w g b.hc b.hl (ln b.hl)/\((k<b.hc/\C=some (Y g (k*3)))∨(¬k<b.hc/\C=some (Y g 0))):=by
   rcases hO with⟨e,za⟩|⟨g,yw,e,_,D,A⟩
   ·simp only[vsi]at e
    exact⟨none,.inl ⟨e.1,za,e.2.2,rfl,by rw[za]at hk;simpa using hk⟩⟩
   ·simp only[vsi]at e
    obtain⟨S,_,rfl⟩:=e
    by_cases zi:k<b.hc
    ·exact⟨_,.inr ⟨g,S,D,A,.inl ⟨zi,rfl⟩⟩⟩
    ·exact⟨_,.inr ⟨g,S,D,A,.inr ⟨zi,rfl⟩⟩⟩
  have HA:Hid _:=X
  have HN:Hid (b.ha=none->k=0):=λe=>by
   rcases X with h|⟨g,K,_⟩
   ·exact h.2.2.2.2
   ·rw[e]at K;cases K
  have yt:Hid (C=none->b.hl=[]/\b.hc=0/\k=0):=λe=>by
   rcases X with h|⟨g,_,_,_,⟨_,O⟩|⟨_,O⟩⟩
   ·exact⟨h.2.1,h.2.2.1,h.2.2.2.2⟩
   ·rw[e]at O;cases O
   ·rw[e]at O;cases O
  have Nd:aG w wc.drew:=(aE N3 hB).drew;have Ar:=bJ yb.oQ hB;have Yr:=bJ yf.oQ hB;have Rr:=bJ yu.oQ hB;obtain⟨R,zf⟩:=cI wc.drew;have zr:Hid (R.heap[w.heap.size]?=some b.obj):=by rw[Hid,←zf];exact Ar
  have Y2:R.heap[w.heap.size+1]?=some (.cells #[.string y.n,.slice y.ta (ln y.tl) y.tc,.slice y.na (ln y.nl) y.nc] 74):=by rw[←zf];exact Yr
  have yd:Hid (R.heap[w.heap.size+2]?=some (zo)):=by rw[Hid,←zf];exact Rr
  have a2:R.cell? (Y w.heap.size 2)=some (.slice b.ha (ln b.hl) b.hc):=aB zr.oQ rfl;obtain⟨y0,y1,y2⟩:=aM Y2;rw[zf]at Nd;have hsd:=Nd.size;have hAw:w.heap.size+2<R.heap.size:=(cE yd.oQ)
  have yv:Hid (∀ad,b.ha=some ad->∀w',aG R w'->∀j u,(aJ Hx.cells (b.hl.take k))[j]?=some u->w'.cell? (ad.add j)=some u):=λad e w' h=>by
   rcases X with⟨K,_⟩|⟨g,K,D,A,_⟩
   ·rw[K]at e;cases e
   ·rw[K]at e;cases e
    exact WI A D (aE Nd h)
  have yq:Hid (∀ad,C=some ad->∀w',aG R w'->∀j u,(aJ Hx.cells (b.hl.drop k))[j]?=some u->w'.cell? (ad.add j)=some u):=λad e w' h j u N=>by
   rcases X with⟨_,_,_,O,_⟩|⟨g,_,D,A,⟨_,O⟩|⟨zi,O⟩⟩
   ·rw[O]at e;cases e
   ·rw[O]at e;cases e
    exact V5 A D (aE Nd h) j u N
   ·rw[List.drop_of_length_le om]at N;simp[aJ]at N
  clear Ar Yr Rr Y2 hB X hO yp;go_wp2_with fail
  refine wpIn_wide.1 (fA (F:=Fence.wide) (n:=0) kr [some 24,some 25,some 26,some 27,some 28,some 29,some 30,some 31,some 32,some 33,some 34,some 35,some 36,some 37,some 38] (K6 R w.heap.size k b.hl y (.slice b.ha (ln b.hl) b.hc) (.slice b.ha k b.hc) (.slice C (ln b.hl-k) (b.hc-k))) kr ?h0 K6.ext ?step ?fin)
  case h0=>
   exact⟨λ_ _ _ h=>h.elim,λh=>h.elim,λh=>h.elim,λh=>h.elim,λh=>h.elim,λh=>h.elim,λh=>h.elim,λ_=>by rw[zf];exact br _ _⟩
  case step=>
   intro L ii o B w' Q r t s hK;have hi:ii<16:=(lgs.1 Q).1;have m:=aI hK;clear hK
   match ii,hi with
   |0,_=>
    cases Q
    have d:¬L 15:=λh=>r (s 15 _ h rfl (eP 0) sm rfl);have l:=m.oQ.bw d;have zg:aG w' (w'.alloc (.cells #[] 74)):=aC (br _ _) _;have H:Hid _:=(m.oQ.zL d zg).add0 ⟨w'.heap.size,rfl,l.size,wnq w' _⟩;clear zg;gi_wp2;exact⟨_,uhx,H.oQ⟩
   |1,_=>
    cases Q
    have d:¬L 15:=λh=>r (s 15 _ h rfl (eP 1) sm rfl);have l:=m.oQ.bw d;gi_wp2;exact⟨(E w.heap.size 2),uhx,m.oQ.addc 1 rfl⟩
   |2,_=>
    cases Q
    have d:¬L 15:=λh=>r (s 15 _ h rfl (eP 2) sm rfl);have l:=m.oQ.bw d;have d1:=m.oQ.c 1 _ rfl (Zq t 1);have k2:=ctq l a2;simp only[aD,Act.put];rw[d1];gi_wp2;exact⟨.slice b.ha (ln b.hl) b.hc,by simp[aH,d1],m.oQ.addc 2 rfl⟩
   |3,_=>
    cases Q
    have d:¬L 15:=λh=>r (s 15 _ h rfl (eP 3) sm rfl);have l:=m.oQ.bw d;gi_wp2;exact⟨I ((k:Nat):Int),uhx,m.oQ.addc 3 rfl⟩
   |4,_=>
    cases Q
    have d:¬L 15:=λh=>r (s 15 _ h rfl (eP 4) sm rfl);have l:=m.oQ.bw d;have d2:=m.oQ.c 2 _ rfl (Zq t 2);have d3:=m.oQ.c 3 _ rfl (Zq t 3);have H:Hid _:=m.oQ.addc 4 (v:=.slice b.ha k b.hc) rfl
    rcases HA.oQ with⟨K,S,e2,-,rfl⟩|⟨g,K,S,-,-⟩
    ·have d2:B 2=ms:=by rw[d2,K,S,e2];rfl
     have E0:Hid (b.ha=none/\b.hc=0):=⟨K,e2⟩;clear K S e2;simp only[aD,Act.put];rw[d2,d3];gi_wp2;exact⟨.slice b.ha 0 b.hc,by simp[aH,d2,d3,E0.out],H.oQ⟩
    ·have d2:B 2=.slice (some (Y g 0)) (ln b.hl) b.hc:=by rw[d2,K]
     have E0:Hid _:=K;clear K;simp only[aD,Act.put];rw[d2,d3];gi_wp2;exact⟨.slice b.ha k b.hc,by simp[aH,d2,d3,E0.out],H.oQ⟩
   |5,_=>
    cases Q
    have d:¬L 15:=λh=>r (s 15 _ h rfl (eP 5) sm rfl);have l:=m.oQ.bw d;have d4:=m.oQ.c 4 _ rfl (Zq t 4);obtain⟨p,d0,yy,yo⟩:=m.oQ.v0 (Zq t 0);have hp:=yo r;simp only[aD,Act.put,sit,lcs,lcz];rw[d0,d4];refine lN w' rfl (.tmp 24) (.tmp 28) 30 rfl 74 j0 _ 3 64 underlying30 zu zx zy zz rfl dz p rfl hp b.ha k b.hc (aJ Hx.cells (b.hl.take k)) rfl HN.oQ (by rw[cP Hx.cells_length,llt];congr 1;omega) (λad e j u N=>yv.oQ ad e w' l j u N) (iP lQ _) (by unfold maxLen;omega) om R.heap.size yy (λv' w2 G Z=>?_);have H:Hid _:=(m.oQ.zL d Z).add5 G;clear G Z hp yo;gi_wp2;exact⟨_,by simp[aH,d0,d4],H.oQ⟩
   |6,_=>
    cases Q
    have d:¬L 15:=λh=>r (s 15 _ h rfl (eP 6) sm rfl);have l:=m.oQ.bw d;have k0:=ctq l y0;have k1:=ctq l y1;have k2:=ctq l y2;gi_wp2;exact⟨y.val,uhx,m.oQ.addc 6 rfl⟩
   |7,_=>
    cases Q
    have d:¬L 15:=λh=>r (s 15 _ h rfl (eP 7) sm rfl);have l:=m.oQ.bw d;have d6:=m.oQ.c 6 _ rfl (Zq t 6);have zg:aG w' (w'.alloc (.cells #[.string y.n,.slice y.ta (ln y.tl) y.tc,.slice y.na (ln y.nl) y.nc] 74)):=aC (br _ _) _;have H:Hid _:=(m.oQ.zL d zg).add7 ⟨w'.heap.size,rfl,wnq w' _⟩;clear zg;gi_wp2;exact⟨_,by simp[aH,d6],H.oQ⟩
   |8,_=>
    cases Q
    have d:¬L 15:=λh=>r (s 15 _ h rfl (eP 8) sm rfl);have l:=m.oQ.bw d;have h5:L 5:=Zq t 5;have ze:¬L 13:=λh=>r (s 13 _ h rfl (eD 8) sm rfl);have zp:=m.oQ.v5 h5 r;obtain⟨V,d7,yj⟩:=m.oQ.v7 (Zq t 7);have hV:=yj r;obtain⟨u5,e5⟩:∃u,B 5=u:=⟨_,rfl⟩;rw[e5]at zp;simp only[aD,Act.put,sit,lcs,lcz];rw[d7,e5]
    refine wpListIn_append_own w' rfl (.tmp 29) (.tmp 31) 30 rfl R.heap.size 74 j0 _ 3 64 underlying30 zu zx zy zz rfl dz u5 k (aJ Hx.cells (b.hl.take k)) rfl zp (Y V 0) 1 1 y.cells rfl (by simp[Hx.cells]) (λj u N=>by
     rw[aal,nza]
     match j,N with
     |0,N=>simp[Hx.cells]at N;subst N;exact aB hV rfl
     |1,N=>simp[Hx.cells]at N;subst N;exact aB hV rfl
     |2,N=>simp[Hx.cells]at N;subst N;exact aB hV rfl) (lQ y) (by unfold maxLen;omega) om l.size (λv' w2 G zh _=>?_)
    have Z:aG R w2:=l.grown zh l.size (λq hq=>eH zp hq);have H:Hid _:=m.oQ.add8 h5 ze d G Z;clear G zh zp hV yj;gi_wp2;exact⟨_,by simp[aH,d7,e5],H.oQ⟩
   |9,_=>
    cases Q
    have d:¬L 15:=λh=>r (s 15 _ h rfl (eP 9) sm rfl);have l:=m.oQ.bw d;gi_wp2;exact⟨(E w.heap.size 2),uhx,m.oQ.addc 9 rfl⟩
   |10,_=>
    cases Q
    have d:¬L 15:=λh=>r (s 15 _ h rfl (eP 10) sm rfl);have l:=m.oQ.bw d;have d9:=m.oQ.c 9 _ rfl (Zq t 9);have k2:=ctq l a2;simp only[aD,Act.put];rw[d9];gi_wp2;exact⟨.slice b.ha (ln b.hl) b.hc,by simp[aH,d9],m.oQ.addc 10 rfl⟩
   |11,_=>
    cases Q
    have d:¬L 15:=λh=>r (s 15 _ h rfl (eP 11) sm rfl);have l:=m.oQ.bw d;gi_wp2;exact⟨I ((k:Nat):Int),uhx,m.oQ.addc 11 rfl⟩
   |12,_=>
    cases Q
    have d:¬L 15:=λh=>r (s 15 _ h rfl (eP 12) sm rfl);have l:=m.oQ.bw d;have J:=m.oQ.c 10 _ rfl (Zq t 10);have T:=m.oQ.c 11 _ rfl (Zq t 11);have H:Hid _:=m.oQ.addc 12 (v:=.slice C (ln b.hl-k) (b.hc-k)) rfl
    rcases HA.oQ with⟨K,S,e2,O,rfl⟩|⟨g,K,S,-,h3⟩
    ·have J:B 10=ms:=by rw[J,K,S,e2];rfl
     have E0:Hid (b.hl=[]/\b.hc=0/\C=none):=⟨S,e2,O⟩;clear K S e2 O;simp only[aD,Act.put];rw[J,T];gi_wp2;exact⟨.slice C (ln b.hl-0) (b.hc-0),by simp[aH,J,T,E0.out],H.oQ⟩
    ·have J:B 10=.slice (some (Y g 0)) (ln b.hl) b.hc:=by rw[J,K]
     clear K
     rcases h3 with⟨zi,O⟩|⟨zi,O⟩
     ·have E3:Hid _:=O
      clear O;simp only[aD,Act.put];rw[J,T];gi_wp2;exact⟨.slice C (ln b.hl-k) (b.hc-k),by simp[aH,J,T,E3.out],H.oQ⟩
     ·have ym:b.hc-k=0:=om
      have E3:Hid _:=O;clear O;simp only[aD,Act.put];rw[J,T];gi_wp2;exact⟨.slice C (ln b.hl-k) (b.hc-k),by simp[aH,J,T,E3.out,ym];omega,by have h:=H.oQ;have e:b.hc=k:=om;simp only[e,nss]at h ⊢;exact h⟩
   |13,_=>
    cases Q
    have d:¬L 15:=λh=>r (s 15 _ h rfl (eP 13) sm rfl);have l:=m.oQ.bw d;have W:=m.oQ.c 12 _ rfl (Zq t 12);have h8:L 8:=Zq t 8;have h5:L 5:=s 8 _ h8 rfl (eD 5) sm rfl;have P:=m.oQ.v8 h8 r;obtain⟨u8,e8⟩:∃u,B 8=u:=⟨_,rfl⟩
    cases C with
    |none=>
     obtain⟨za,yl,zm⟩:=yt.oQ rfl
     obtain⟨g8,M,e9,hc8⟩:∃g8 M,B 8=.slice (some (Y g8 0)) 1 M/\1<=M:=by
      rw[zm]at P;obtain⟨_,⟨_,e⟩|⟨g8,M,_,e,_,_,yx,_⟩⟩:=P
      ·omega
      ·exact⟨g8,M,e,yx⟩
     have H:Hid _:=m.oQ.add13 (v:=B 8) h5 h8 d (by rw[za,zm]at P ⊢;simpa[aJ]using P) l;have W:B 12=ms:=by rw[W,za,yl,zm];rfl
     clear P za yl zm;simp only[aD,Act.put];rw[W,e9];gi_wp2;exact⟨B 8,by simp[aH,W,e9],H.oQ⟩
    |some ad=>
     rw[e8]at P;simp only[aD,Act.put,sit,lcs,lcz];rw[W,e8];refine wpListIn_append_own w' rfl (.tmp 32) (.tmp 36) 30 rfl R.heap.size 74 j0 _ 3 64 underlying30 zu zx zy zz rfl dz u8 (k+1) (aJ Hx.cells (b.hl.take k)++y.cells) rfl P ad (ln b.hl-k) (b.hc-k) (aJ Hx.cells (b.hl.drop k)) rfl (by rw[cP Hx.cells_length,lld]) (λj u N=>yq.oQ ad rfl w' l j u N) (iP lQ _) (by unfold maxLen;omega) om l.size (λv' w2 G zh _=>?_);have Z:aG R w2:=l.grown zh l.size (λq hq=>eH P hq);have zj:w2.ownsRow R.heap.size 74 3 v' (ln b.hl+1) (aJ Hx.cells (b.hl.take k)++y.cells++aJ Hx.cells (b.hl.drop k)):=by rw[show(ln b.hl)+1=k+1+(ln b.hl-k)by omega];exact G
     have H:Hid _:=m.oQ.add13 h5 h8 d zj Z;clear G zj zh P;gi_wp2;exact⟨_,by simp[aH,W,e8],H.oQ⟩
   |14,_=>
    cases Q
    have d:¬L 15:=λh=>r (s 15 _ h rfl (eD 14) sm rfl);have l:=m.oQ.bw d;gi_wp2;exact⟨(E w.heap.size 2),uhx,m.oQ.addc 14 rfl⟩
   |15,_=>
    cases Q
    have yg:=m.oQ.c 14 _ rfl (Zq t 14);have l:=m.oQ.bw r;have ze:L 13:=Zq t 13;have h8:L 8:=s 13 _ ze rfl (eD 8) sm rfl;have h5:L 5:=s 8 _ h8 rfl (eD 5) sm rfl;have zq:=m.oQ.v13 ze r
    obtain⟨a8,c8,zd⟩:∃a c,B 13=.slice a (ln b.hl+1) c:=by
     obtain⟨_,⟨_,e⟩|⟨g8,M,_,e,_⟩⟩:=zq
     ·omega
     ·exact⟨_,_,e⟩
    have k2:=ctq l a2;have kf:∀i,w'.frozen? (Y w.heap.size i)=false:=λi=>by simp[World.frozen?,bJ zr.oQ l]
    have H:Hid _:=m.oQ.add15 (v:=undef) h5 h8 ze r;rw[zd]at H;simp only[aD,Act.put];rw[yg,zd];clear zq;gi_wp2_with fail
    exact⟨undef,by simp[aH,yg,zd],by have h:=H.oQ;simpa using h⟩
   |q+16,h=>omega
  case fin=>
   intro L B w' yh hK;obtain⟨w9,zl,yn,zw⟩:=hK.w15 (yh 15 dz)
   have zk:bW 74 3 Hx.cells w9 R.heap.size (B 13) (b.hl.take k++y::b.hl.drop k):=iV Hx.cells_length (by
    rw[show(ln (b.hl.take k++y::b.hl.drop k))=ln b.hl+1 by simp;omega];have e:aJ Hx.cells (b.hl.take k++y::b.hl.drop k)=aJ Hx.cells (b.hl.take k)++y.cells++aJ Hx.cells (b.hl.drop k):=by simp[aJ]
    rw[e];exact yn)
   obtain⟨a',c',zd⟩:=zk.slice;rw[zd]at zk zw;rw[zw];clear zw yn yh hK;simp only[aD,Act.put];generalize B 0=u0,B 1=u1,B 2=u2,B 3=u3,B 4=u4,B 5=u5,B 6=u6,B 7=u7,B 8=u8,B 9=u9,B 10=u10,B 11=u11,B 12=u12,B 13=u13,B 14=u14;have A9:=aP (bJ zr.oQ zl) 2 (.slice a' (ln (b.hl.take k++y::b.hl.drop k)) c');have bA:aU (λq=>q=w.heap.size) w9 (w9.setCell (Y w.heap.size 2) (.slice a' (ln (b.hl.take k++y::b.hl.drop k)) c')):=(aU.refl (λq=>q=w.heap.size) w9).set (g:=w.heap.size) rfl _ _;have R9:=bF (bJ yd.oQ zl) bA (by show¬(w.heap.size+2=w.heap.size);omega);have N9:=bA.under (aE Nd zl) (nlq _) (λq hq=>by omega);have X9:=zk.butRow bA (λq n f hq _ e=>by omega);obtain⟨Wf,yk⟩:=cI (w9.setCell (Y w.heap.size 2) (.slice a' (ln (b.hl.take k++y::b.hl.drop k)) c'));rw[yk]at A9 R9 N9 X9 ⊢;obtain⟨K,S,e2⟩:=aM A9;obtain⟨r0,r1,r2⟩:=aM R9;have rf:=jS R9;have HX:=aI X9;obtain⟨lq,zv⟩:=cI (ln (b.hl.take k++y::b.hl.drop k));have ys:=aI zv;rw[zv]at e2;clear A9 R9 bA zk X9 zl yk zv;go_wp2_with fail
   have hS:aU (λq=>q=w.heap.size+2) Wf (((Wf.setCell (Y (w.heap.size+2) 0) (I b.now)).setCell (Y (w.heap.size+2) 1) (.slice b.fa (ln b.fl) b.fc)).setCell (Y (w.heap.size+2) 2) (.slice a' lq c')):=(((aU.refl (λq=>q=w.heap.size+2) Wf).set (g:=w.heap.size+2) rfl _ _).set (g:=w.heap.size+2) rfl _ _).set (g:=w.heap.size+2) rfl _ _;exact bpr (v:=Bk.val ⟨b.now,b.fa,b.fl,b.fc,a',b.hl.take k++y::b.hl.drop k,c'⟩) (by simp only[Bk.val,ys.oQ];simp[results,results64,go_sem,r0,r1,r2]) rfl ⟨⟨a',c',by rw[yc.oQ],by rw[yc.oQ];exact(HX.oQ.butRow hS (λq n f hq _ e=>by omega)).weak om⟩,hS.under N9 (nlq _) (λq hq=>by omega)⟩
