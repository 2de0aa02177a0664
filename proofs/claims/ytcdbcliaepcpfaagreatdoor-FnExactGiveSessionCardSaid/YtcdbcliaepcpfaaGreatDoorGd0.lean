import Derived.Test.YtcdbcliaepcpfaaGreatDoorFa
import Derived.Test.YtcdbcliaepcpfaaGreatDoorGa
import Derived.Deep.DeepCutAuto
import Derived.Deep.CutBlock
namespace Go.Proofs.YtcdbcliaepcpfaaGreatDoor
open Go.RowKit Go.Shelf
attribute [local go_sem] Oper.semAt_some
def XU (A k:Nat)(y:Hx)(h0 h4 h12:Value):Nat->Option Value
 |1|9|14=>some (.pointer (some ⟨A,2,none⟩))
 |2|10=>some h0
 |3|11=>some (.int .i64 (k:Int))
 |4=>some h4
 |6=>some y.val
 |12=>some h12
 |_=>none
structure K6 (Wd:World)(A k:Nat)(l:List Hx)(y:Hx)(h0 h4 h12:Value)(L:Nat->Prop)(vs:Nat->Value)(w':World):Prop where
 c:∀j v,XU A k y h0 h4 h12 j=some v->L j->vs j=v
 v0:L 0->∃p,vs 0=.slice (some ⟨p,0,none⟩) 0 0/\Wd.heap.size<=p/\(¬L 5->w'.heap[p]?=some (.cells #[] 90))
 v5:L 5->¬L 8->w'.ownsRow Wd.heap.size 90 3 (vs 5) k (aI Hx.cells (l.take k))
 v7:L 7->∃V,vs 7=.slice (some ⟨V,0,none⟩) 1 1/\(¬L 8->w'.heap[V]?=some (.cells #[.string y.n,.slice y.ta y.tl.length y.tc,.slice y.na y.nl.length y.nc] 90))
 v8:L 8->¬L 13->w'.ownsRow Wd.heap.size 90 3 (vs 8) (k+1) (aI Hx.cells (l.take k)++y.cells)
 v13:L 13->¬L 15->w'.ownsRow Wd.heap.size 90 3 (vs 13) (l.length+1) (aI Hx.cells (l.take k)++y.cells++aI Hx.cells (l.drop k))
 w15:L 15->∃w0,aF Wd w0/\w0.ownsRow Wd.heap.size 90 3 (vs 13) (l.length+1) (aI Hx.cells (l.take k)++y.cells++aI Hx.cells (l.drop k))/\w'=w0.setCell ⟨A,2,none⟩ (vs 13)
 bw:¬L 15->aF Wd w'
theorem K6.ext {c:World}{A k:Nat}{l:List Hx}{y:Hx}{d e a:Value}(L b:Nat->Prop)(f:Nat->Value)(w':World)(h:∀j,L j↔b j)(q:K6 c A k l y d e a L f w'):K6 c A k l y d e a b f w':=by
 obtain rfl:L=b:=funext λj=>propext (h j);exact q
theorem K6.zL {m:World}{A k:Nat}{l:List Hx}{y:Hx}{n o b:Value}{L:Nat->Prop}{r:Nat->Value}{w' d:World}(q:K6 m A k l y n o b L r w')(f:¬L 15)(a:aF w' d):K6 m A k l y n o b L r d:=
 ⟨q.c,λh=>by obtain⟨p,e,s,i⟩:=q.v0 h;exact⟨p,e,s,λj=>bJ (i j) a⟩,λh g=>lM (q.v5 h g) a,λh=>by obtain⟨V,e,i⟩:=q.v7 h;exact⟨V,e,λj=>bJ (i j) a⟩,λh g=>lM (q.v8 h g) a,λh g=>lM (q.v13 h g) a,λh=>absurd h f,λh=>aC (q.bw h) a⟩
theorem K6.cc {m:World}{A k:Nat}{l:List Hx}{y:Hx}{d f a:Value}{L:Nat->Prop}{b:Nat->Value}{w':World}(q:K6 m A k l y d f a L b w')(i:Nat)(v:Value)(n:∀u,XU A k y d f a i=some u->u=v):∀j u,XU A k y d f a j=some u->(L j∨j=i)->aH b i v j=u:=λj u e h=>by
 by_cases g:j=i;·subst g;rw[n u e];simp[aH]
 ·rw[show aH b i v j=b j from by simp[aH,g]];exact q.c j u e (h.resolve_right g)
theorem K6.addc {t:World}{A k:Nat}{l:List Hx}{y:Hx}{b c a:Value}{L:Nat->Prop}{f:Nat->Value}{w':World}(q:K6 t A k l y b c a L f w')(i:Nat){v:Value}(w:XU A k y b c a i=some v):K6 t A k l y b c a (λj=>L j∨j=i) (aH f i v) w':=by
 have n:∀m,XU A k y b c a m=none->m≠i:=λm d e=>by rw[e,w]at d;cases d
 have u:∀m,XU A k y b c a m=none->aH f i v m=f m:=λm d=>by simp[aH,n m d]
 refine⟨q.cc i v (λu e=>by rw[w]at e;cases e;rfl),λh=>?_,λh g=>?_,λh=>?_,λh g=>?_,λh g=>?_,λh=>?_,λh=>q.bw (λs=>h (.inl s))⟩;·rw[u 0 rfl];obtain⟨p,e,x,o⟩:=q.v0 (h.resolve_right (n 0 rfl));exact⟨p,e,x,λr=>o (λs=>r (.inl s))⟩
 ·rw[u 5 rfl];exact q.v5 (h.resolve_right (n 5 rfl)) (λs=>g (.inl s))
 ·rw[u 7 rfl];obtain⟨V,e,o⟩:=q.v7 (h.resolve_right (n 7 rfl));exact⟨V,e,λr=>o (λs=>r (.inl s))⟩
 ·rw[u 8 rfl];exact q.v8 (h.resolve_right (n 8 rfl)) (λs=>g (.inl s))
 ·rw[u 13 rfl];exact q.v13 (h.resolve_right (n 13 rfl)) (λs=>g (.inl s))
 ·rw[u 13 rfl];exact q.w15 (h.resolve_right (n 15 rfl))
theorem K6.add0 {b:World}{A k:Nat}{l:List Hx}{y:Hx}{d f a:Value}{L:Nat->Prop}{i:Nat->Value}{w':World}{v:Value}(q:K6 b A k l y d f a L i w')(o:∃p,v=.slice (some ⟨p,0,none⟩) 0 0/\b.heap.size<=p/\w'.heap[p]?=some (.cells #[] 90)):K6 b A k l y d f a (λj=>L j∨j=0) (aH i 0 v) w':=
 ⟨q.cc 0 v (λ_ e=>by cases e),λ_=>by obtain⟨p,e,m,c⟩:=o;exact⟨p,e,m,λ_=>c⟩,λh g=>q.v5 (iF h) (λs=>g (.inl s)),λh=>by obtain⟨V,e,c⟩:=q.v7 (iF h);exact⟨V,e,λn=>c (λs=>n (.inl s))⟩,λh g=>q.v8 (iF h) (λs=>g (.inl s)),λh g=>q.v13 (iF h) (λs=>g (.inl s)),λh=>q.w15 (iF h),λh=>q.bw (λs=>h (.inl s))⟩
theorem K6.add5 {b:World}{A k:Nat}{l:List Hx}{y:Hx}{d i a:Value}{L:Nat->Prop}{m:Nat->Value}{w':World}{v:Value}(q:K6 b A k l y d i a L m w')(o:w'.ownsRow b.heap.size 90 3 v k (aI Hx.cells (l.take k))):K6 b A k l y d i a (λj=>L j∨j=5) (aH m 5 v) w':=
 ⟨q.cc 5 v (λ_ e=>by cases e),λh=>by obtain⟨p,e,n,f⟩:=q.v0 (iF h);exact⟨p,e,n,λc=>absurd (.inr rfl) c⟩,λ_ _=>o,λh=>by obtain⟨V,e,f⟩:=q.v7 (iF h);exact⟨V,e,λc=>f (λs=>c (.inl s))⟩,λh g=>q.v8 (iF h) (λs=>g (.inl s)),λh g=>q.v13 (iF h) (λs=>g (.inl s)),λh=>q.w15 (iF h),λh=>q.bw (λs=>h (.inl s))⟩
theorem K6.add7 {c:World}{A k:Nat}{l:List Hx}{y:Hx}{d f a:Value}{L:Nat->Prop}{i:Nat->Value}{w':World}{v:Value}(q:K6 c A k l y d f a L i w')(r:∃V,v=.slice (some ⟨V,0,none⟩) 1 1/\w'.heap[V]?=some (.cells #[.string y.n,.slice y.ta y.tl.length y.tc,.slice y.na y.nl.length y.nc] 90)):K6 c A k l y d f a (λj=>L j∨j=7) (aH i 7 v) w':=
 ⟨q.cc 7 v (λ_ e=>by cases e),λh=>by obtain⟨p,e,m,b⟩:=q.v0 (iF h);exact⟨p,e,m,λo=>b (λs=>o (.inl s))⟩,λh g=>q.v5 (iF h) (λs=>g (.inl s)),λ_=>by obtain⟨V,e,b⟩:=r;exact⟨V,e,λ_=>b⟩,λh g=>q.v8 (iF h) (λs=>g (.inl s)),λh g=>q.v13 (iF h) (λs=>g (.inl s)),λh=>q.w15 (iF h),λh=>q.bw (λs=>h (.inl s))⟩
theorem K6.add8 {c:World} {A k:Nat} {l:List Hx} {y:Hx} {i m b:Value} {L:Nat->Prop} {n:Nat->Value} {w' a:World} {v:Value} (q:K6 c A k l y i m b L n w') (r:L 5) (d:¬L 13) (f:¬L 15) (t:a.ownsRow c.heap.size 90 3 v (k+1) (aI Hx.cells (l.take k)++y.cells)) (s:aF c a):K6 c A k l y i m b (λj=>L j∨j=8) (aH n 8 v) a:=
 ⟨q.cc 8 v (λ_ e=>by cases e),λh=>by obtain⟨p,e,o,_⟩:=q.v0 (iF h);exact⟨p,e,o,λg=>absurd (.inl r) g⟩,λ_ g=>absurd (.inr rfl) g,λh=>by obtain⟨V,e,_⟩:=q.v7 (iF h);exact⟨V,e,λg=>absurd (.inr rfl) g⟩,λ_ _=>t,λh=>absurd (iF h) d,λh=>absurd (iF h) f,λ_=>s⟩
theorem K6.add13 {c:World} {A k:Nat} {l:List Hx} {y:Hx} {f i b:Value} {L:Nat->Prop} {n:Nat->Value} {w' a:World} {v:Value} (q:K6 c A k l y f i b L n w') (r:L 5) (m:L 8) (d:¬L 15) (t:a.ownsRow c.heap.size 90 3 v (l.length+1) (aI Hx.cells (l.take k)++y.cells++aI Hx.cells (l.drop k))) (s:aF c a):K6 c A k l y f i b (λj=>L j∨j=13) (aH n 13 v) a:=
 ⟨q.cc 13 v (λ_ e=>by cases e),λh=>by obtain⟨p,e,o,_⟩:=q.v0 (iF h);exact⟨p,e,o,λg=>absurd (.inl r) g⟩,λ_ g=>absurd (.inl m) g,λh=>by obtain⟨V,e,_⟩:=q.v7 (iF h);exact⟨V,e,λg=>absurd (.inl m) g⟩,λ_ g=>absurd (.inr rfl) g,λ_ _=>t,λh=>absurd (iF h) d,λ_=>s⟩
theorem K6.add15 {f:World}{A k:Nat}{l:List Hx}{y:Hx}{i m a:Value}{L:Nat->Prop}{d:Nat->Value}{w':World}{v:Value}(q:K6 f A k l y i m a L d w')(r:L 5)(n:L 8)(b:L 13)(c:¬L 15):K6 f A k l y i m a (λj=>L j∨j=15) (aH d 15 v) (w'.setCell ⟨A,2,none⟩ (d 13)):=
 ⟨q.cc 15 v (λ_ e=>by cases e),λh=>by obtain⟨p,e,o,_⟩:=q.v0 (iF h);exact⟨p,e,o,λg=>absurd (.inl r) g⟩,λ_ g=>absurd (.inl n) g,λh=>by obtain⟨V,e,_⟩:=q.v7 (iF h);exact⟨V,e,λg=>absurd (.inl n) g⟩,λ_ g=>absurd (.inl b) g,λ_ g=>absurd (.inr rfl) g,λ_=>⟨w',q.bw c,q.v13 b c,rfl⟩,λh=>absurd (.inr rfl) h⟩
set_option maxRecDepth 100000
set_option maxHeartbeats 16000000
open Go.BigFrame
def l4 (l:List Hx)(nm:ByteArray):Nat:=(l.takeWhile (λh=>fY h.n nm)).length
def nE (l:List Hx)(y:Hx):List Hx:=l.take (l4 l y.n)++y::l.drop (l4 l y.n)
theorem FA {l:List Hx}{nm:ByteArray}{k:Nat}(d:k<=l.length)(c:∀j (h:j<l.length),j<k->fY l[j].n nm=true)(b:∀h:k<l.length,fY l[k].n nm=false):l4 l nm=k:=by
 induction l generalizing k with
 |nil=>simp at d;subst d;rfl
 |cons a r ih=>
  cases k with
  |zero=>
   have:=b (by simp);simp only[List.getElem_cons_zero]at this;simp[l4,this]
  |succ m=>
   have e:=c 0 (by simp) (by omega);simp only[List.getElem_cons_zero]at e;have:=ih (k:=m) (by simpa using d) (λj h hj=>by have:=c (j+1) (by simpa using h) (by omega);simpa using this) (λh=>by have:=b (by simpa using h);simpa using this);simp only[l4]at this ⊢;simp[e,this]
theorem T6 {w W:World}{g a k:Nat}{l:List Hx}(h:fP 90 3 Hx.cells w g a l l.length)(c:l.length<=a)(b:aF w W):∀j u,(aI Hx.cells (l.take k))[j]?=some u->W.cell? ((⟨g,0,none⟩:Addr).add j)=some u:=
 mG Hx.cells_length (by decide) (λi d=>by
  rw[List.getElem_take];exact(h.xs' Hx.cells_length (nlq _) c i (by simp at d;omega)).zL b)
theorem SU {w W:World}{g a k:Nat}{l:List Hx}(h:fP 90 3 Hx.cells w g a l l.length)(c:l.length<=a)(b:aF w W):∀j u,(aI Hx.cells (l.drop k))[j]?=some u->W.cell? ((⟨g,k*3,none⟩:Addr).add j)=some u:=
 mG Hx.cells_length (by decide) (λi d=>by
  rw[List.getElem_drop];have:=(h.xs' Hx.cells_length (nlq _) c (k+i) (by simp at d;omega)).zL b;rwa[Nat.zero_add,Nat.add_mul]at this)
theorem OT (b:Bk)(y:Hx)(z:Nat)(w:World)(hO:bQ 90 3 Hx.cells w z (.slice b.ha b.hl.length b.hc) b.hl)(hn:b.hl.length<=64):
 aY 79 #[b.val,y.val] w λe w'=>(∃a' c',e=.returned (Bk.val ⟨b.now,b.fa,b.fl,b.fc,a',nE b.hl y,c'⟩)/\bQ 90 3 Hx.cells w' w.heap.size (.slice a' (nE b.hl y).length c') (nE b.hl y))/\aF w w':=by
 obtain⟨j0,zr,zu,zv,zw⟩:=info_parts Tryz.info90;have N1:aF w (w.alloc b.obj):=aB (br _ _) _;have A1:=wnq w b.obj;obtain⟨U1,zp⟩:∃U,w.alloc b.obj=U:=⟨_,rfl⟩;have z1:U1.heap.size=w.heap.size+1:=by rw[←zp];simp
 rw[zp]at N1 A1;have M2:aF U1 (U1.alloc (.cells #[.string y.n,.slice y.ta y.tl.length y.tc,.slice y.na y.nl.length y.nc] 90)):=aB (br _ _) _;have X2:=wnq U1 (.cells #[.string y.n,.slice y.ta y.tl.length y.tc,.slice y.na y.nl.length y.nc] 90);obtain⟨U2,zq⟩:∃U,U1.alloc (.cells #[.string y.n,.slice y.ta y.tl.length y.tc,.slice y.na y.nl.length y.nc] 90)=U:=⟨_,rfl⟩;have z2:U2.heap.size=w.heap.size+2:=by rw[←zq];simp[z1]
 rw[zq]at M2 X2;have M3:aF U2 (U2.alloc (.cells #[.int .i64 0,.slice none 0 0,.slice none 0 0] 30)):=aB (br _ _) _;have R3:=wnq U2 (.cells #[.int .i64 0,.slice none 0 0,.slice none 0 0] 30);obtain⟨U3,ye⟩:∃U,U2.alloc (.cells #[.int .i64 0,.slice none 0 0,.slice none 0 0] 30)=U:=⟨_,rfl⟩;rw[ye]at M3 R3;have N3:aF w U3:=aC (aC N1 M2) M3;have zx:Hid _:=bJ (bJ A1 M2) M3;have yb:Hid (U3.heap[w.heap.size+1]?=some (.cells #[.string y.n,.slice y.ta y.tl.length y.tc,.slice y.na y.nl.length y.nc] 90)):=by rw[Hid,←z1];exact bJ X2 M3
 have yr:Hid (U3.heap[w.heap.size+2]?=some (.cells #[.int .i64 0,.slice none 0 0,.slice none 0 0] 30)):=by rw[Hid,←z2];exact R3
 clear N1 M2 M3 A1 X2 R3
 go_enter Tryz.func79,Tryz.ntmps79
 go_upto_block 0 with fail
 clear zp zq ye;have HO:Hid _:=hO
 go_cut [5] (λiv wx=>∃k:Nat,k<=b.hl.length/\iv=.int .i64 (k:Int)/\aF U3 wx/\l4 b.hl y.n=k)
 case first=>
  go_wp2_with fail
  go_loopw [5] (λiv wr=>∃k:Nat,k<=b.hl.length/\iv=.int .i64 (k:Int)/\aF U3 wr/\Hid (∀j (h:j<b.hl.length),j<k->fY b.hl[j].n y.n=true)) (λiv _=>b.hl.length-(intOf iv).toNat)
  case atStart=>exact⟨0,nz _,rfl,br _ _,λj h M=>by omega⟩
  case round=>
   obtain⟨k,hk,rfl,hB,Z⟩:=hrel;have HB:=aG hB;have a2:wr.cell? ⟨w.heap.size,2,none⟩=some (.slice b.ha b.hl.length b.hc):=aJ (bJ zx.oQ hB) rfl
   by_cases zl:k<b.hl.length
   ·obtain⟨g,ha,E,B⟩:∃g,b.ha=some ⟨g,0,none⟩/\b.hl.length<=b.hc/\fP 90 3 Hx.cells w g b.hc b.hl b.hl.length:=by
     rcases hO with⟨_,e⟩|⟨g,yt,e,_,h2,h3⟩
     ·rw[e]at zl;simp at zl
     ·simp only[Value.slice.injEq]at e
      obtain⟨Q,_,rfl⟩:=e;exact⟨g,Q,h2,h3⟩
    obtain⟨c0,_,_⟩:=iI (B.xs' Hx.cells_length (nlq _) E k zl);rw[Nat.zero_add]at c0;have c0:=((aC N3 hB).cell (aA c0)).trans c0;have y0:wr.cell? ⟨w.heap.size+1,0,none⟩=some (.string y.n):=aJ (bJ yb.oQ hB) rfl;rw[ha]at a2;obtain⟨x,hx⟩:=bP (b.hl[k]);rw[←hx]at c0;have ya:=aG hx;clear hx ha B hO hB
    cases R:fY x.n y.n with
    |true=>
     have yo:Hid (∀j (h:j<b.hl.length),j<k+1->fY b.hl[j].n y.n=true):=λj h M=>by
      by_cases e:j=k
      ·subst e;rw[←ya.oQ];exact R
      ·exact Z.out j h (by omega)
     clear Z;unfold fY at R;go_wp2_with fail
     go_quiet (fail)
     go_wp2
     go_roundw
     case rel=>exact⟨k+1,by omega,by go_num,(below_drewN HB.oQ _),yo⟩
     case measure=>simp[intOf];omega
    |false=>
     have za:Hid (l4 b.hl y.n=k):=FA hk Z.out (λh=>by have e:=ya.oQ;rw[←e];exact R);clear Z;unfold fY at R;go_wp2_with fail
     go_quiet (fail)
     go_wp2
     all_goals go_meet
     all_goals exact⟨k,hk,rfl,(below_drewN HB.oQ _),za.oQ⟩
   ·have za:Hid (l4 b.hl y.n=k):=FA hk Z.out (λh=>absurd h zl)
    clear Z hO hB;go_wp2_with fail
    go_quiet (fail)
    go_wp2
    all_goals go_meet
    all_goals exact⟨k,hk,rfl,(below_drewN HB.oQ _),za.oQ⟩
 case rest=>
  obtain⟨k,hk,rfl,hB,ym⟩:=hcut
  have zy:Hid (nE b.hl y=b.hl.take k++y::b.hl.drop k):=by
   show nE b.hl y=_
   unfold nE;rw[ym]
  obtain⟨D,W⟩:∃D:Option Addr,(b.ha=none/\b.hl=[]/\b.hc=0/\D=none/\k=0)∨∃g,b.ha=some ⟨g,0,none⟩/\b.hl.length<=b.hc/\fP 90 3 Hx.cells w g b.hc b.hl b.hl.length/\((k<b.hc/\D=some ⟨g,k*3,none⟩)∨(¬k<b.hc/\D=some ⟨g,0,none⟩)):=by
   rcases hO with⟨e,Y⟩|⟨g,yt,e,_,E,B⟩
   ·simp only[Value.slice.injEq]at e
    exact⟨none,.inl ⟨e.1,Y,e.2.2,rfl,by rw[Y]at hk;simpa using hk⟩⟩
   ·simp only[Value.slice.injEq]at e
    obtain⟨Q,_,rfl⟩:=e
    by_cases zh:k<b.hc
    ·exact⟨_,.inr ⟨g,Q,E,B,.inl ⟨zh,rfl⟩⟩⟩
    ·exact⟨_,.inr ⟨g,Q,E,B,.inr ⟨zh,rfl⟩⟩⟩
  have HA:Hid _:=W
  have HN:Hid (b.ha=none->k=0):=λe=>by
   rcases W with h|⟨g,J,_⟩
   ·exact h.2.2.2.2
   ·rw[e]at J;cases J
  have yq:Hid (D=none->b.hl=[]/\b.hc=0/\k=0):=λe=>by
   rcases W with h|⟨g,_,_,_,⟨_,N⟩|⟨_,N⟩⟩
   ·exact⟨h.2.1,h.2.2.1,h.2.2.2.2⟩
   ·rw[e]at N;cases N
   ·rw[e]at N;cases N
  have Nd:aF w wc.drew:=(aC N3 hB).drew;have Ar:=bJ zx.oQ hB;have Yr:=bJ yb.oQ hB;have Rr:=bJ yr.oQ hB;obtain⟨P,zd⟩:=cK wc.drew;have zo:Hid (P.heap[w.heap.size]?=some b.obj):=by rw[Hid,←zd];exact Ar
  have Y2:P.heap[w.heap.size+1]?=some (.cells #[.string y.n,.slice y.ta y.tl.length y.tc,.slice y.na y.nl.length y.nc] 90):=by rw[←zd];exact Yr
  have zz:Hid (P.heap[w.heap.size+2]?=some (.cells #[.int .i64 0,.slice none 0 0,.slice none 0 0] 30)):=by rw[Hid,←zd];exact Rr
  have a2:P.cell? ⟨w.heap.size,2,none⟩=some (.slice b.ha b.hl.length b.hc):=aJ zo.oQ rfl;obtain⟨y0,y1,y2⟩:=aM Y2;rw[zd]at Nd;have hsd:=Nd.size;have hAw:w.heap.size+2<P.heap.size:=(bU zz.oQ)
  have ys:Hid (∀ad,b.ha=some ad->∀w',aF P w'->∀j u,(aI Hx.cells (b.hl.take k))[j]?=some u->w'.cell? (ad.add j)=some u):=λad e w' h=>by
   rcases W with⟨J,_⟩|⟨g,J,E,B,_⟩
   ·rw[J]at e;cases e
   ·rw[J]at e;cases e
    exact T6 B E (aC Nd h)
  have yn:Hid (∀ad,D=some ad->∀w',aF P w'->∀j u,(aI Hx.cells (b.hl.drop k))[j]?=some u->w'.cell? (ad.add j)=some u):=λad e w' h j u M=>by
   rcases W with⟨_,_,_,N,_⟩|⟨g,_,E,B,⟨_,N⟩|⟨zh,N⟩⟩
   ·rw[N]at e;cases e
   ·rw[N]at e;cases e
    exact SU B E (aC Nd h) j u M
   ·rw[List.drop_of_length_le (by omega)]at M;simp[aI]at M
  clear Ar Yr Rr Y2 hB W hO ym;go_wp2_with fail
  refine wpIn_wide.1 (gP (F:=Fence.wide) (n:=0) (by kernel_rfl) [some 24,some 25,some 26,some 27,some 28,some 29,some 30,some 31,some 32,some 33,some 34,some 35,some 36,some 37,some 38] (K6 P w.heap.size k b.hl y (.slice b.ha b.hl.length b.hc) (.slice b.ha k b.hc) (.slice D (b.hl.length-k) (b.hc-k))) (by kernel_rfl) ?h0 K6.ext ?step ?fin)
  case h0=>
   exact⟨λ_ _ _ h=>h.elim,λh=>h.elim,λh=>h.elim,λh=>h.elim,λh=>h.elim,λh=>h.elim,λh=>h.elim,λ_=>by rw[zd];exact br _ _⟩
  case step=>
   intro L ii o C w' t r A s hK;have hi:ii<16:=(lgs.1 t).1;have m:=aG hK;clear hK
   match ii,hi with
   |0,_=>
    simp at t;subst t;have d:¬L 15:=λh=>r (s 15 _ h rfl (eP 0) (by simp) rfl);have l:=m.oQ.bw d;have ze:aF w' (w'.alloc (.cells #[] 90)):=aB (br _ _) _;have H:Hid _:=(m.oQ.zL d ze).add0 ⟨w'.heap.size,rfl,l.size,wnq w' _⟩;clear ze;simp only[aE,Act.put];gi_wp2;exact⟨_,by simp[aH],H.oQ⟩
   |1,_=>
    simp at t;subst t;have d:¬L 15:=λh=>r (s 15 _ h rfl (eP 1) (by simp) rfl);have l:=m.oQ.bw d;simp only[aE,Act.put];gi_wp2;exact⟨.pointer (some ⟨w.heap.size,2,none⟩),by simp[aH],m.oQ.addc 1 rfl⟩
   |2,_=>
    simp at t;subst t;have d:¬L 15:=λh=>r (s 15 _ h rfl (eP 2) (by simp) rfl);have l:=m.oQ.bw d;have d1:=m.oQ.c 1 _ rfl (Zq A 1);have k2:=(l.cell (aA a2)).trans a2;simp only[aE,Act.put];rw[d1];gi_wp2;exact⟨.slice b.ha b.hl.length b.hc,by simp[aH,d1],m.oQ.addc 2 rfl⟩
   |3,_=>
    simp at t;subst t;have d:¬L 15:=λh=>r (s 15 _ h rfl (eP 3) (by simp) rfl);have l:=m.oQ.bw d;simp only[aE,Act.put];gi_wp2;exact⟨.int .i64 ((k:Nat):Int),by simp[aH],m.oQ.addc 3 rfl⟩
   |4,_=>
    simp at t;subst t;have d:¬L 15:=λh=>r (s 15 _ h rfl (eP 4) (by simp) rfl);have l:=m.oQ.bw d;have d2:=m.oQ.c 2 _ rfl (Zq A 2);have d3:=m.oQ.c 3 _ rfl (Zq A 3);have H:Hid _:=m.oQ.addc 4 (v:=.slice b.ha k b.hc) rfl
    rcases HA.oQ with⟨J,Q,e2,-,rfl⟩|⟨g,J,Q,-,-⟩
    ·have d2:C 2=.slice none 0 0:=by rw[d2,J,Q,e2];rfl
     have E0:Hid (b.ha=none/\b.hc=0):=⟨J,e2⟩;clear J Q e2;simp only[aE,Act.put];rw[d2,d3];gi_wp2;exact⟨.slice b.ha 0 b.hc,by simp[aH,d2,d3,E0.out],H.oQ⟩
    ·have d2:C 2=.slice (some ⟨g,0,none⟩) b.hl.length b.hc:=by rw[d2,J]
     have E0:Hid _:=J;clear J;simp only[aE,Act.put];rw[d2,d3];gi_wp2;exact⟨.slice b.ha k b.hc,by simp[aH,d2,d3,E0.out],H.oQ⟩
   |5,_=>
    simp at t;subst t;have d:¬L 15:=λh=>r (s 15 _ h rfl (eP 5) (by simp) rfl);have l:=m.oQ.bw d;have d4:=m.oQ.c 4 _ rfl (Zq A 4);obtain⟨p,d0,yv,yl⟩:=m.oQ.v0 (Zq A 0);have hp:=yl r;simp only[aE,Act.put,List.setIfInBounds_toArray,List.set_cons_succ,List.set_cons_zero];rw[d0,d4];refine lD w' rfl (.tmp 24) (.tmp 28) 28 rfl 90 j0 _ 3 64 Tryz.underlying28 zr zu zv zw rfl (by decide) p rfl hp b.ha k b.hc (aI Hx.cells (b.hl.take k)) rfl HN.oQ (by rw[cG Hx.cells_length,List.length_take];congr 1;omega) (λad e j u M=>ys.oQ ad e w' l j u M) (iB lH _) (by unfold maxLen;omega) (by omega) P.heap.size yv (λv' w2 G X=>?_);have H:Hid _:=(m.oQ.zL d X).add5 G;clear G X hp yl;gi_wp2;exact⟨_,by simp[aH,d0,d4],H.oQ⟩
   |6,_=>
    simp at t;subst t;have d:¬L 15:=λh=>r (s 15 _ h rfl (eP 6) (by simp) rfl);have l:=m.oQ.bw d;have k0:=(l.cell (aA y0)).trans y0;have k1:=(l.cell (aA y1)).trans y1;have k2:=(l.cell (aA y2)).trans y2;simp only[aE,Act.put];gi_wp2;exact⟨y.val,by simp[aH],m.oQ.addc 6 rfl⟩
   |7,_=>
    simp at t;subst t;have d:¬L 15:=λh=>r (s 15 _ h rfl (eP 7) (by simp) rfl);have l:=m.oQ.bw d;have d6:=m.oQ.c 6 _ rfl (Zq A 6);have ze:aF w' (w'.alloc (.cells #[.string y.n,.slice y.ta y.tl.length y.tc,.slice y.na y.nl.length y.nc] 90)):=aB (br _ _) _;have H:Hid _:=(m.oQ.zL d ze).add7 ⟨w'.heap.size,rfl,wnq w' _⟩;clear ze;simp only[aE,Act.put];rw[d6];gi_wp2;exact⟨_,by simp[aH,d6],H.oQ⟩
   |8,_=>
    simp at t;subst t;have d:¬L 15:=λh=>r (s 15 _ h rfl (eP 8) (by simp) rfl);have l:=m.oQ.bw d;have h5:L 5:=Zq A 5;have zc:¬L 13:=λh=>r (s 13 _ h rfl (eD 8) (by simp) rfl);have zm:=m.oQ.v5 h5 r;obtain⟨V,d7,yf⟩:=m.oQ.v7 (Zq A 7);have hV:=yf r;obtain⟨u5,e5⟩:∃u,C 5=u:=⟨_,rfl⟩;rw[e5]at zm;simp only[aE,Act.put,List.setIfInBounds_toArray,List.set_cons_succ,List.set_cons_zero];rw[d7,e5]
    refine wpListIn_append_own w' rfl (.tmp 29) (.tmp 31) 28 rfl P.heap.size 90 j0 _ 3 64 Tryz.underlying28 zr zu zv zw rfl (by decide) u5 k (aI Hx.cells (b.hl.take k)) rfl zm ⟨V,0,none⟩ 1 1 y.cells rfl (by simp[Hx.cells]) (λj u M=>by
     rw[Addr.add_lit,Nat.zero_add]
     match j,M with
     |0,M=>simp[Hx.cells]at M;subst M;exact aJ hV rfl
     |1,M=>simp[Hx.cells]at M;subst M;exact aJ hV rfl
     |2,M=>simp[Hx.cells]at M;subst M;exact aJ hV rfl) (lH y) (by unfold maxLen;omega) (by omega) l.size (λv' w2 G zg _=>?_)
    have X:aF P w2:=l.grown zg l.size (λq R=>fB zm R);have H:Hid _:=m.oQ.add8 h5 zc d G X;clear G zg zm hV yf;gi_wp2;exact⟨_,by simp[aH,d7,e5],H.oQ⟩
   |9,_=>
    simp at t;subst t;have d:¬L 15:=λh=>r (s 15 _ h rfl (eP 9) (by simp) rfl);have l:=m.oQ.bw d;simp only[aE,Act.put];gi_wp2;exact⟨.pointer (some ⟨w.heap.size,2,none⟩),by simp[aH],m.oQ.addc 9 rfl⟩
   |10,_=>
    simp at t;subst t;have d:¬L 15:=λh=>r (s 15 _ h rfl (eP 10) (by simp) rfl);have l:=m.oQ.bw d;have d9:=m.oQ.c 9 _ rfl (Zq A 9);have k2:=(l.cell (aA a2)).trans a2;simp only[aE,Act.put];rw[d9];gi_wp2;exact⟨.slice b.ha b.hl.length b.hc,by simp[aH,d9],m.oQ.addc 10 rfl⟩
   |11,_=>
    simp at t;subst t;have d:¬L 15:=λh=>r (s 15 _ h rfl (eP 11) (by simp) rfl);have l:=m.oQ.bw d;simp only[aE,Act.put];gi_wp2;exact⟨.int .i64 ((k:Nat):Int),by simp[aH],m.oQ.addc 11 rfl⟩
   |12,_=>
    simp at t;subst t;have d:¬L 15:=λh=>r (s 15 _ h rfl (eP 12) (by simp) rfl);have l:=m.oQ.bw d;have I:=m.oQ.c 10 _ rfl (Zq A 10);have S:=m.oQ.c 11 _ rfl (Zq A 11);have H:Hid _:=m.oQ.addc 12 (v:=.slice D (b.hl.length-k) (b.hc-k)) rfl
    rcases HA.oQ with⟨J,Q,e2,N,rfl⟩|⟨g,J,Q,-,h3⟩
    ·have I:C 10=.slice none 0 0:=by rw[I,J,Q,e2];rfl
     have E0:Hid (b.hl=[]/\b.hc=0/\D=none):=⟨Q,e2,N⟩;clear J Q e2 N;simp only[aE,Act.put];rw[I,S];gi_wp2;exact⟨.slice D (b.hl.length-0) (b.hc-0),by simp[aH,I,S,E0.out],H.oQ⟩
    ·have I:C 10=.slice (some ⟨g,0,none⟩) b.hl.length b.hc:=by rw[I,J]
     clear J
     rcases h3 with⟨zh,N⟩|⟨zh,N⟩
     ·have E3:Hid _:=N
      clear N;simp only[aE,Act.put];rw[I,S];gi_wp2;exact⟨.slice D (b.hl.length-k) (b.hc-k),by simp[aH,I,S,E3.out],H.oQ⟩
     ·have yi:b.hc-k=0:=by omega
      have E3:Hid _:=N;clear N;simp only[aE,Act.put];rw[I,S];gi_wp2;exact⟨.slice D (b.hl.length-k) (b.hc-k),by simp[aH,I,S,E3.out,yi];omega,by have h:=H.oQ;have e:b.hc=k:=(by omega);simp only[e,Nat.sub_self]at h ⊢;exact h⟩
   |13,_=>
    simp at t;subst t;have d:¬L 15:=λh=>r (s 15 _ h rfl (eP 13) (by simp) rfl);have l:=m.oQ.bw d;have T:=m.oQ.c 12 _ rfl (Zq A 12);have h8:L 8:=Zq A 8;have h5:L 5:=s 8 _ h8 rfl (eD 5) (by simp) rfl;have O:=m.oQ.v8 h8 r;obtain⟨u8,e8⟩:∃u,C 8=u:=⟨_,rfl⟩
    cases D with
    |none=>
     obtain⟨Y,yh,zk⟩:=yq.oQ rfl
     obtain⟨g8,K,e9,hc8⟩:∃g8 K,C 8=.slice (some ⟨g8,0,none⟩) 1 K/\1<=K:=by
      rw[zk]at O;obtain⟨_,⟨_,e⟩|⟨g8,K,_,e,_,_,yu,_⟩⟩:=O
      ·omega
      ·exact⟨g8,K,e,yu⟩
     have H:Hid _:=m.oQ.add13 (v:=C 8) h5 h8 d (by rw[Y,zk]at O ⊢;simpa[aI]using O) l;have T:C 12=.slice none 0 0:=by rw[T,Y,yh,zk];rfl
     clear O Y yh zk;simp only[aE,Act.put];rw[T,e9];gi_wp2;exact⟨C 8,by simp[aH,T,e9],H.oQ⟩
    |some ad=>
     rw[e8]at O;simp only[aE,Act.put,List.setIfInBounds_toArray,List.set_cons_succ,List.set_cons_zero];rw[T,e8];refine wpListIn_append_own w' rfl (.tmp 32) (.tmp 36) 28 rfl P.heap.size 90 j0 _ 3 64 Tryz.underlying28 zr zu zv zw rfl (by decide) u8 (k+1) (aI Hx.cells (b.hl.take k)++y.cells) rfl O ad (b.hl.length-k) (b.hc-k) (aI Hx.cells (b.hl.drop k)) rfl (by rw[cG Hx.cells_length,List.length_drop]) (λj u M=>yn.oQ ad rfl w' l j u M) (iB lH _) (by unfold maxLen;omega) (by omega) l.size (λv' w2 G zg _=>?_);have X:aF P w2:=l.grown zg l.size (λq R=>fB O R);have zi:w2.ownsRow P.heap.size 90 3 v' (b.hl.length+1) (aI Hx.cells (b.hl.take k)++y.cells++aI Hx.cells (b.hl.drop k)):=by rw[show b.hl.length+1=k+1+(b.hl.length-k)by omega];exact G
     have H:Hid _:=m.oQ.add13 h5 h8 d zi X;clear G zi zg O;gi_wp2;exact⟨_,by simp[aH,T,e8],H.oQ⟩
   |14,_=>
    simp at t;subst t;have d:¬L 15:=λh=>r (s 15 _ h rfl (eD 14) (by simp) rfl);have l:=m.oQ.bw d;simp only[aE,Act.put];gi_wp2;exact⟨.pointer (some ⟨w.heap.size,2,none⟩),by simp[aH],m.oQ.addc 14 rfl⟩
   |15,_=>
    simp at t;subst t;have yc:=m.oQ.c 14 _ rfl (Zq A 14);have l:=m.oQ.bw r;have zc:L 13:=Zq A 13;have h8:L 8:=s 13 _ zc rfl (eD 8) (by simp) rfl;have h5:L 5:=s 8 _ h8 rfl (eD 5) (by simp) rfl;have zn:=m.oQ.v13 zc r
    obtain⟨a8,c8,zb⟩:∃a c,C 13=.slice a (b.hl.length+1) c:=by
     obtain⟨_,⟨_,e⟩|⟨g8,K,_,e,_⟩⟩:=zn
     ·omega
     ·exact⟨_,_,e⟩
    have k2:=(l.cell (aA a2)).trans a2;have kf:∀i,w'.frozen? ⟨w.heap.size,i,none⟩=false:=λi=>by simp[World.frozen?,bJ zo.oQ l]
    have H:Hid _:=m.oQ.add15 (v:=undef) h5 h8 zc r;rw[zb]at H;simp only[aE,Act.put];rw[yc,zb];clear zn;gi_wp2_with fail
    exact⟨undef,by simp[aH,yc,zb],by have h:=H.oQ;simpa using h⟩
   |q+16,h=>exact absurd h (by omega)
  case fin=>
   intro L C w' yd hK;obtain⟨w9,zf,yk,zt⟩:=hK.w15 (yd 15 (by decide))
   have zj:bQ 90 3 Hx.cells w9 P.heap.size (C 13) (b.hl.take k++y::b.hl.drop k):=iY Hx.cells_length (by
    rw[show(b.hl.take k++y::b.hl.drop k).length=b.hl.length+1 by simp;omega];have e:aI Hx.cells (b.hl.take k++y::b.hl.drop k)=aI Hx.cells (b.hl.take k)++y.cells++aI Hx.cells (b.hl.drop k):=by simp[aI]
    rw[e];exact yk)
   obtain⟨a',c',zb⟩:=zj.slice;rw[zb]at zj zt;rw[zt];clear zt yk yd hK;simp only[aE,Act.put];generalize C 0=u0;generalize C 1=u1;generalize C 2=u2;generalize C 3=u3;generalize C 4=u4;generalize C 5=u5;generalize C 6=u6;generalize C 7=u7;generalize C 8=u8;generalize C 9=u9;generalize C 10=u10;generalize C 11=u11;generalize C 12=u12;generalize C 13=u13;generalize C 14=u14;have yj:(b.hl.take k++y::b.hl.drop k).length=(b.hl.take k++y::b.hl.drop k).length:=rfl;have A9:=aO (bJ zo.oQ zf) 2 (.slice a' (b.hl.take k++y::b.hl.drop k).length c');have bA:aT (λq=>q=w.heap.size) w9 (w9.setCell ⟨w.heap.size,2,none⟩ (.slice a' (b.hl.take k++y::b.hl.drop k).length c')):=(aT.refl (λq=>q=w.heap.size) w9).set (g:=w.heap.size) rfl _ _;have R9:=bE (bJ zz.oQ zf) bA (by show¬(w.heap.size+2=w.heap.size);omega);have N9:=bA.under (aC Nd zf) (nlq _) (λq R=>by have yw:q=w.heap.size:=R;omega);have X9:=zj.butRow bA (λq n f R _ e=>by have e':q=w.heap.size:=e;omega);obtain⟨Wf,yg⟩:=cK (w9.setCell ⟨w.heap.size,2,none⟩ (.slice a' (b.hl.take k++y::b.hl.drop k).length c'));rw[yg]at A9 R9 N9 X9 ⊢;obtain⟨J,Q,e2⟩:=aM A9;obtain⟨r0,r1,r2⟩:=aM R9;have rf:=iQ R9;have hsf:=zf.size;have HX:=aG X9;obtain⟨lq,zs⟩:=cK ((b.hl.take k++y::b.hl.drop k).length);have yp:=aG zs;rw[zs]at e2;clear A9 R9 bA zj X9 zf yg yj zs;go_wp2_with fail
   have hS:aT (λq=>q=w.heap.size+2) Wf (((Wf.setCell ⟨w.heap.size+2,0,none⟩ (.int .i64 b.now)).setCell ⟨w.heap.size+2,1,none⟩ (.slice b.fa b.fl.length b.fc)).setCell ⟨w.heap.size+2,2,none⟩ (.slice a' lq c')):=(((aT.refl (λq=>q=w.heap.size+2) Wf).set (g:=w.heap.size+2) rfl _ _).set (g:=w.heap.size+2) rfl _ _).set (g:=w.heap.size+2) rfl _ _;exact bpr (v:=Bk.val ⟨b.now,b.fa,b.fl,b.fc,a',b.hl.take k++y::b.hl.drop k,c'⟩) (by simp only[Bk.val,yp.oQ];simp[results,Tryz.results79,go_sem,r0,r1,r2]) rfl ⟨⟨a',c',by rw[zy.oQ],by rw[zy.oQ];exact(HX.oQ.butRow hS (λq n f R _ e=>by have e':q=w.heap.size+2:=e;omega)).weak (by omega)⟩,hS.under N9 (nlq _) (λq R=>by have yw:q=w.heap.size+2:=R;omega)⟩
end Go.Proofs.YtcdbcliaepcpfaaGreatDoor
