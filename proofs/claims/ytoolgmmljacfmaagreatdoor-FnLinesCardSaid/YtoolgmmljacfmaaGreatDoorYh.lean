import Derived.Test.YtoolgmmljacfmaaGreatDoorYf
import Derived.Laws.Cover1
set_option maxRecDepth 100000
set_option maxHeartbeats 16000000
open List renaming length → ln
open Go.Proofs.Tryz Go.RowKit
namespace Go.Proofs.YtoolgmmljacfmaaGreatDoor
open Go.Shelf Go.BigFrame
attribute [local go_sem] Oper.semAt_some
variable {e z w' C F:Wd}{A k p:Nat}{l:List Fx}{y:Fx}{f g a o i m b c r s w t u d n B D:Va}{L:Nat → Prop}{v x W:Nat → Va}{nm:Ba}{j:List Ba}
def KFc (A k:Nat)(y:Fx)(h0 h4 h12 vw p7 vn p10 p13:Value):Nat->Option Value
 |1|18|23=>some (E A 1)
 |2|19=>some h0
 |3|20=>some (I (k:Int))
 |4=>some h4
 |6=>some vw
 |7=>some p7
 |8=>some (.string y.n)
 |9|12=>some vn
 |10=>some p10
 |11=>some (I y.x)
 |13=>some p13
 |14=>some (I y.y)
 |15=>some y.val
 |21=>some h12
 |_=>none
structure KF (Wd:World)(A k:Nat)(l:List Fx)(y:Fx)(h0 h4 h12 vw p7 vn p10 p13:Value)(L:Nat->Prop)(vs:Nat->Value)(w':World):Prop where
 c:∀j v,KFc A k y h0 h4 h12 vw p7 vn p10 p13 j=some v->L j->vs j=v
 v0:L 0->∃p,vs 0=.slice (some ⟨p,0,none⟩) 0 0/\Wd.heap.size<=p/\(¬L 5->w'.heap[p]?=some (.cells #[] 34))
 v5:L 5->¬L 17->w'.ownsRow Wd.heap.size 34 3 (vs 5) k (aJ Fx.cells (l.take k))
 v7:L 16->∃V,vs 16=.slice (some ⟨V,0,none⟩) 1 1/\(¬L 17->w'.heap[V]?=some (.cells #[.string y.n,.int .i64 y.x,.int .i64 y.y] 34))
 v8:L 17->¬L 22->w'.ownsRow Wd.heap.size 34 3 (vs 17) (k+1) (aJ Fx.cells (l.take k)++y.cells)
 v13:L 22->¬L 24->w'.ownsRow Wd.heap.size 34 3 (vs 22) (l.length+1) (aJ Fx.cells (l.take k)++y.cells++aJ Fx.cells (l.drop k))
 w15:L 24->∃w0,aG Wd w0/\w0.ownsRow Wd.heap.size 34 3 (vs 22) (l.length+1) (aJ Fx.cells (l.take k)++y.cells++aJ Fx.cells (l.drop k))/\w'=w0.setCell ⟨A,1,none⟩ (vs 22)
 bw:¬L 24->aG Wd w'
theorem KF.ext (L d:Nat->Prop)(n:Nat->Va)(w':Wd)(h:∀j,L j↔d j)(q:KF e A k l y f g a o i m b c L n w'):KF e A k l y f g a o i m b c d n w':=by
 obtain rfl:L=d:=funext λj=>propext (h j);exact q
theorem KF.zL {w' i:Wd}(q:KF z A k l y r s b w t u d f L v w')(j:¬L 24)(a:aG w' i):KF z A k l y r s b w t u d f L v i:=
 ⟨q.c,λh=>by obtain⟨p,e,x,m⟩:=q.v0 h;exact⟨p,e,x,λn=>bJ (m n) a⟩,λh g=>dC (q.v5 h g) a,λh=>by obtain⟨V,e,m⟩:=q.v7 h;exact⟨V,e,λn=>bJ (m n) a⟩,λh g=>dC (q.v8 h g) a,λh g=>dC (q.v13 h g) a,λh=>absurd h j,λh=>aE (q.bw h) a⟩
theorem KF.cc (q:KF z A k l y g m a r o w b d L x w')(i:Nat)(v:Va)(t:∀u,KFc A k y g m a r o w b d i=some u->u=v):∀j u,KFc A k y g m a r o w b d j=some u->(L j∨j=i)->aH x i v j=u:=λj u e h=>by
 by_cases n:j=i;·subst n;rw[t u e];simp[aH]
 ·rw[show aH x i v j=x j from by simp[aH,n]];exact q.c j u e (h.resolve_right n)
theorem KF.addc (q:KF C A k l y d f a t o r b c L x w')(i:Nat){v:Va}(D:KFc A k y d f a t o r b c i=some v):KF C A k l y d f a t o r b c (λj=>L j∨j=i) (aH x i v) w':=by
 have n:∀m,KFc A k y d f a t o r b c m=none->m≠i:=λm w e=>by rw[e,D]at w;cases w
 have u:∀m,KFc A k y d f a t o r b c m=none->aH x i v m=x m:=λm w=>by simp[aH,n m w]
 refine⟨q.cc i v (λu e=>by rw[D]at e;cases e;rfl),λh=>?_,λh g=>?_,λh=>?_,λh g=>?_,λh g=>?_,λh=>?_,λh=>q.bw (λs=>h (.inl s))⟩;·rw[u 0 rfl];obtain⟨p,e,F,z⟩:=q.v0 (h.resolve_right (n 0 rfl));exact⟨p,e,F,λB=>z (λs=>B (.inl s))⟩
 ·rw[u 5 rfl];exact q.v5 (h.resolve_right (n 5 rfl)) (λs=>g (.inl s))
 ·rw[u 16 rfl];obtain⟨V,e,z⟩:=q.v7 (h.resolve_right (n 16 rfl));exact⟨V,e,λB=>z (λs=>B (.inl s))⟩
 ·rw[u 17 rfl];exact q.v8 (h.resolve_right (n 17 rfl)) (λs=>g (.inl s))
 ·rw[u 22 rfl];exact q.v13 (h.resolve_right (n 22 rfl)) (λs=>g (.inl s))
 ·rw[u 22 rfl];exact q.w15 (h.resolve_right (n 24 rfl))
theorem KF.add0 (q:KF z A k l y i m a t n o b c L W w')(x:∃p,B=.slice (some (Y p 0)) 0 0/\z.heap.size<=p/\w'.heap[p]?=some (.cells #[] 34)):KF z A k l y i m a t n o b c (λj=>L j∨j=0) (aH W 0 B) w':=
 ⟨q.cc 0 B (λ_ e=>by cases e),λ_=>by obtain⟨p,e,u,f⟩:=x;exact⟨p,e,u,λ_=>f⟩,λh g=>q.v5 (iT h) (λs=>g (.inl s)),λh=>by obtain⟨V,e,f⟩:=q.v7 (iT h);exact⟨V,e,λw=>f (λs=>w (.inl s))⟩,λh g=>q.v8 (iT h) (λs=>g (.inl s)),λh g=>q.v13 (iT h) (λs=>g (.inl s)),λh=>q.w15 (iT h),λh=>q.bw (λs=>h (.inl s))⟩
theorem KF.add5 (q:KF z A k l y i n a u o r b c L W w')(x:w'.ownsRow z.heap.size 34 3 B k (aJ Fx.cells (l.take k))):KF z A k l y i n a u o r b c (λj=>L j∨j=5) (aH W 5 B) w':=
 ⟨q.cc 5 B (λ_ e=>by cases e),λh=>by obtain⟨p,e,w,m⟩:=q.v0 (iT h);exact⟨p,e,w,λf=>absurd (.inr rfl) f⟩,λ_ _=>x,λh=>by obtain⟨V,e,m⟩:=q.v7 (iT h);exact⟨V,e,λf=>m (λs=>f (.inl s))⟩,λh g=>q.v8 (iT h) (λs=>g (.inl s)),λh g=>q.v13 (iT h) (λs=>g (.inl s)),λh=>q.w15 (iT h),λh=>q.bw (λs=>h (.inl s))⟩
theorem KF.add7 (q:KF C A k l y i m a u o r b c L W w')(B:∃V,D=.slice (some (Y V 0)) 1 1/\w'.heap[V]?=some (.cells #[.string y.n,I y.x,I y.y] 34)):KF C A k l y i m a u o r b c (λj=>L j∨j=16) (aH W 16 D) w':=
 ⟨q.cc 16 D (λ_ e=>by cases e),λh=>by obtain⟨p,e,w,d⟩:=q.v0 (iT h);exact⟨p,e,w,λz=>d (λs=>z (.inl s))⟩,λh g=>q.v5 (iT h) (λs=>g (.inl s)),λ_=>by obtain⟨V,e,d⟩:=B;exact⟨V,e,λ_=>d⟩,λh g=>q.v8 (iT h) (λs=>g (.inl s)),λh g=>q.v13 (iT h) (λs=>g (.inl s)),λh=>q.w15 (iT h),λh=>q.bw (λs=>h (.inl s))⟩
theorem KF.add8 (q:KF C A k l y n o b u r s c d L W w') (x:L 5) (i:¬L 22) (m:¬L 24) (B:F.ownsRow C.heap.size 34 3 D (k+1) (aJ Fx.cells (l.take k)++y.cells)) (z:aG C F):KF C A k l y n o b u r s c d (λj=>L j∨j=17) (aH W 17 D) F:=
 ⟨q.cc 17 D (λ_ e=>by cases e),λh=>by obtain⟨p,e,w,_⟩:=q.v0 (iT h);exact⟨p,e,w,λg=>absurd (.inl x) g⟩,λ_ g=>absurd (.inr rfl) g,λh=>by obtain⟨V,e,_⟩:=q.v7 (iT h);exact⟨V,e,λg=>absurd (.inr rfl) g⟩,λ_ _=>B,λh=>absurd (iT h) i,λh=>absurd (iT h) m,λ_=>z⟩
theorem KF.add13 {v:Va} (q:KF C A k l y m n b u r s c d L W w') (x:L 5) (o:L 17) (i:¬L 24) (B:F.ownsRow C.heap.size 34 3 v (ln l+1) (aJ Fx.cells (l.take k)++y.cells++aJ Fx.cells (l.drop k))) (z:aG C F):KF C A k l y m n b u r s c d (λj=>L j∨j=22) (aH W 22 v) F:=
 ⟨q.cc 22 v (λ_ e=>by cases e),λh=>by obtain⟨p,e,w,_⟩:=q.v0 (iT h);exact⟨p,e,w,λg=>absurd (.inl x) g⟩,λ_ g=>absurd (.inl o) g,λh=>by obtain⟨V,e,_⟩:=q.v7 (iT h);exact⟨V,e,λg=>absurd (.inl o) g⟩,λ_ g=>absurd (.inr rfl) g,λ_ _=>B,λh=>absurd (iT h) i,λ_=>z⟩
theorem KF.add15 {v:Va}(q:KF z A k l y n o a u s t d f L W w')(x:L 5)(r:L 17)(b:L 22)(c:¬L 24):KF z A k l y n o a u s t d f (λj=>L j∨j=24) (aH W 24 v) (w'.setCell (Y A 1) (W 22)):=
 ⟨q.cc 24 v (λ_ e=>by cases e),λh=>by obtain⟨p,e,w,_⟩:=q.v0 (iT h);exact⟨p,e,w,λg=>absurd (.inl x) g⟩,λ_ g=>absurd (.inl r) g,λh=>by obtain⟨V,e,_⟩:=q.v7 (iT h);exact⟨V,e,λg=>absurd (.inl r) g⟩,λ_ g=>absurd (.inl b) g,λ_ g=>absurd (.inr rfl) g,λ_=>⟨w',q.bw c,q.v13 b c,rfl⟩,λh=>absurd (.inr rfl) h⟩
theorem SM (h:gD 34 3 Fx.cells e A p l (ln l))(c:ln l<=p)(b:aG e z):∀j u,(aJ Fx.cells (l.take k))[j]?=some u->z.cell? (((Y A 0):Addr).add j)=some u:=
 nA Fx.cells_length dz (λi d=>by
  rw[List.getElem_take];exact(h.xs' Fx.cells_length (nlq _) c i (by simp at d;omega)).zL b)
theorem VM (h:gD 34 3 Fx.cells e A p l (ln l))(c:ln l<=p)(b:aG e z):∀j u,(aJ Fx.cells (l.drop k))[j]?=some u->z.cell? (((Y A (k*3)):Addr).add j)=some u:=
 nA Fx.cells_length dz (λi d=>by
  rw[List.getElem_drop];have:=(h.xs' Fx.cells_length (nlq _) c (k+i) (by simp at d;omega)).zL b;rwa[nza,Nat.add_mul]at this)
theorem AB (d:k<=ln l)(c:∀j (h:j<ln l),j<k->gE l[j].n nm=true)(b:∀h:k<ln l,gE l[k].n nm=false):qC l nm=k:=by
 induction l generalizing k with
 |nil=>simp at d;subst d;rfl
 |cons a r ih=>
  cases k with
  |zero=>
   have:=b sm;simp only[List.getElem_cons_zero]at this;simp[qC,this]
  |succ m=>
   have e:=c 0 sm om;simp only[List.getElem_cons_zero]at e;have:=ih (k:=m) (by simpa using d) (λj h hj=>by have:=c (j+1) (by simpa using h) om;simpa using this) (λh=>by have:=b (by simpa using h);simpa using this);simp only[qC]at this ⊢;simp[e,this]
theorem fx_at (b:bC e A k y.cells):e.cell? (Y A k)=some (.string y.n):=b 0 _ rfl
theorem ws4 (h:ln j=4):∃n nm x y,j=[n,nm,x,y]:=by
 match j,h with
 |[n,nm,x,y],_=>exact⟨n,nm,x,y,rfl⟩
theorem OX (D:Nat)(w:Wd)(s:St)(b:Bk)(ta:Oa)(tc kk:Nat)(hS:o9 D w s b ta tc)(qc:jF kk s)(ws:List Ba)(bl zc ze:Nat)(hX:Xs 1 eE w (some (Y bl zc)) ws)(h4:ln ws=4)(N:ln ws<=ze)(qg:∀x∈ws,x.size<=1048575):
 aW 47 #[E D 0,.slice (some (Y bl zc)) (ln ws) ze] w λe w'=>RO D w (gH s ws.tail) e w':=by
 obtain⟨jf,xb,xe,xf,xg⟩:=info_parts Tryz.info34;obtain⟨n,nm,xw,yw,yd⟩:=ws4 h4;have xy:Xs 1 eE w (some (Y bl (zc+2))) [xw,yw]:=jN hX 2 [n,nm] _ [] (by rw[yd];rfl) rfl;have M:=iC hX 1 nm (by rw[yd];rfl);have qu:nm.size<=1048575:=qg nm (by rw[yd];simp);have zg:Hid (gH s ws.tail=if j7 [xw,yw]then(if aO (gR s.b ⟨nm,aV xw,aV yw⟩)then(⟨gR s.b ⟨nm,aV xw,aV yw⟩,s.t⟩,VW)else(s,sNo))else(s,dR)):=by rw[yd];rfl
 rw[h4]at N ⊢;clear yd hX qg h4 n
 go_enter func47,ntmps47
 go_wp2_with fail
 refine(cC [xw,yw] (some (Y bl (zc+2))) (ze-2) w xy sm).mono ?_;rintro e w1 ⟨⟨v1,rfl,qh⟩,S⟩;have ys:=aI qh;have xl:=aI S
 replace M:=ctq S M
 replace hS:=hS.zL S
 clear qh S xy
 cases zf:j7 [xw,yw]with
 |false=>
  have HR:Hid (gH s ws.tail=(s,dR)):=by rw[Hid,zg.oQ,zf];rfl
  clear zf ys zg;go_wp2
  go_ret;exact⟨⟨_,_,_,by rw[HR.oQ];exact hS⟩,by rw[HR.oQ];rfl,aU.below xl.oQ⟩
 |true=>
  obtain⟨a2',c2,rfl,qv⟩:=ys.oQ zf
  rcases qv with h|⟨g,oo,rfl,yy⟩
  ·simp[aS]at h
  have i0:w1.cell? (Y g oo)=some (I (aV xw)):=by have:=yy 0 (by simp[aS]) 0 _ rfl;simpa[aS]using this
  have i1:w1.cell? (Y g (oo+1))=some (I (aV yw)):=by have:=yy 1 (by simp[aS]) 0 _ rfl;simpa[aS]using this
  have e5:ln (aS [xw,yw])=2:=rfl;rw[e5];obtain⟨y,hy⟩:=bQ (⟨nm,aV xw,aV yw⟩:Fx);have xj:Hid (gH s ws.tail=if aO (gR s.b y)then(⟨gR s.b y,s.t⟩,VW)else(s,sNo)):=by rw[Hid,zg.oQ,zf,hy];rfl
  have qq:Hid (y.n.size<=9223372036854775807):=by rw[Hid,hy];show nm.size<=_;omega
  replace M:w1.cell? (Y bl (zc+1))=some (.string y.n):=by rw[hy];exact M
  replace i0:w1.cell? (Y g oo)=some (I y.x):=by rw[hy];exact i0
  replace i1:w1.cell? (Y g (oo+1))=some (I y.y):=by rw[hy];exact i1
  have C:=hS.b.asks qc.b;obtain⟨c0,c1,qr,c3⟩:=hS.c;have zy:ln b.fl<=4:=(IF (hS.b.book.trans qc.b)).1;clear hy e5 yy ys zg zf qu;go_wp2_with fail
  refine(jR b w1 C.hf C.hnf C.hh C.hnh C.hgood).mono ?_;rintro e w2 ⟨⟨c,rfl,qa,yh,zi,zm⟩,G⟩;have yq:Hid (K8 s.b.now s.b.fl s.b.hl c):=⟨qa.trans hS.b.c.now,yh.trans hS.b.c.fl,hS.b.c.lk.trans zi⟩;have xk:Hid (∀f∈c.fl,f.n.size<=9223372036854775807):=by rw[Hid,yh];exact C.hs
  have ql:Hid (ln c.hl<=1048576):=by rw[Hid,zi.len];exact C.hnh
  have qk:Hid (∀x∈c.hl,x.Fit):=zi.fit (λx hx=>(C.hgood x hx).2);have hcl4:ln c.fl<=4:=by rw[yh];exact zy
  have xn:=aI (aE xl.oQ G)
  replace M:=ctq G M
  replace i0:=ctq G i0
  replace i1:=ctq G i1
  have qs:D<w1.heap.size:=iB hS.o
  replace hS:=hS.zL G
  have zd:Hid (aG w2 (w2.alloc c.obj)):=aC (br _ _) _;have ye:=wnq w2 c.obj
  replace M:=ctq zd.oQ M
  replace i0:=ctq zd.oQ i0
  replace i1:=ctq zd.oQ i1
  have xi:=aI (zm.zL zd.oQ);have hs12:=G.size;have qf:=zd.oQ.size;have hO:=(zm.zL zd.oQ).f;obtain⟨A,yu⟩:=bQ w2.heap.size;have hA2:w2.heap.size<=A:=om
  rw[←yu]at ye;obtain⟨W2,xu⟩:=cI (w2.alloc c.obj);rw[xu]at ye M i0 i1 zd xi hO qf;have xh:=aI ye;clear qa yh zi C G c0 c1 qr c3 zy zm ye
  go_upto_block 0 with fail
  rw[←yu];clear xu yu
  go_cut [8] (λiv wx=>∃k:Nat,k<=ln c.fl/\iv=I (k:Int)/\aG W2 wx/\qC c.fl y.n=k)
  case first=>
   go_wp2_with fail
   go_loopw [8] (λiv wr=>∃k:Nat,k<=ln c.fl/\iv=I (k:Int)/\aG W2 wr/\Hid (∀j (h:j<ln c.fl),j<k->gE c.fl[j].n y.n=true)) (λiv _=>ln c.fl-(intOf iv).toNat)
   case atStart=>exact⟨0,nz _,rfl,br _ _,λj h U=>by omega⟩
   case round=>
    obtain⟨k,hk,rfl,hB,zp⟩:=hrel;have HB:=aI hB;have a2:wr.cell? (Y A 1)=some (.slice c.fa (ln c.fl) c.fc):=aB (bJ xh.oQ hB) rfl;have q1:=ctq hB M
    by_cases yj:k<ln c.fl
    ·obtain⟨g',ha,yz,H⟩:∃g,c.fa=some (Y g 0)/\(ln c.fl)<=c.fc/\gD 34 3 Fx.cells W2 g c.fc c.fl (ln c.fl):=by
      rcases hO with⟨_,e⟩|⟨g,ze,e,_,h2,h3⟩
      ·rw[e]at yj;simp at yj
      ·simp only[vsi]at e
       obtain⟨M,_,rfl⟩:=e;exact⟨g,M,h2,h3⟩
     have c0:=fx_at (H.xs' Fx.cells_length (nlq _) yz k yj);rw[nza]at c0;have c0:=ctq hB c0;rw[ha]at a2;obtain⟨x,hx⟩:=bQ (c.fl[k]);rw[←hx]at c0;have xp:=aI hx;clear hx ha H hO hB
     cases hq:gE x.n y.n with
     |true=>
      have qm:Hid (∀j (h:j<ln c.fl),j<k+1->gE c.fl[j].n y.n=true):=λj h U=>by
       by_cases e:j=k
       ·subst e;rw[←xp.oQ];exact hq
       ·exact zp.out j h om
      clear zp;unfold gE at hq;go_wp2_with fail
      go_quiet (fail)
      go_wp2
      go_roundw
      case rel=>exact⟨k+1,om,gn,(below_drewN HB.oQ _),qm⟩
      case measure=>simp[intOf];omega
     |false=>
      have zq:Hid (qC c.fl y.n=k):=AB hk zp.out (λh=>by have e:=xp.oQ;rw[←e];exact hq);clear zp;unfold gE at hq;go_wp2_with fail
      go_quiet (fail)
      go_wp2
      all_goals go_meet
      all_goals exact⟨k,hk,rfl,(below_drewN HB.oQ _),zq.oQ⟩
    ·have zq:Hid (qC c.fl y.n=k):=AB hk zp.out (λh=>absurd h yj)
     clear zp hO hB;go_wp2_with fail
     go_quiet (fail)
     go_wp2
     all_goals go_meet
     all_goals exact⟨k,hk,rfl,(below_drewN HB.oQ _),zq.oQ⟩
  case rest=>
   obtain⟨k,hk,rfl,hB,qe⟩:=hcut
   have yr:Hid (gY c.fl y=c.fl.take k++y::c.fl.drop k):=by
    show gY c.fl y=_
    unfold gY;rw[qe]
   obtain⟨J,zk⟩:∃J:Oa,(c.fa=none/\c.fl=[]/\c.fc=0/\J=none/\k=0)∨∃g,c.fa=some (Y g 0)/\(ln c.fl)<=c.fc/\gD 34 3 Fx.cells W2 g c.fc c.fl (ln c.fl)/\((k<c.fc/\J=some (Y g (k*3)))∨(¬k<c.fc/\J=some (Y g 0))):=by
    rcases hO with⟨e,zn⟩|⟨g,ze,e,_,N,H⟩
    ·simp only[vsi]at e
     exact⟨none,.inl ⟨e.1,zn,e.2.2,rfl,by rw[zn]at hk;simpa using hk⟩⟩
    ·simp only[vsi]at e
     obtain⟨M,_,rfl⟩:=e
     by_cases yb:k<c.fc
     ·exact⟨_,.inr ⟨g,M,N,H,.inl ⟨yb,rfl⟩⟩⟩
     ·exact⟨_,.inr ⟨g,M,N,H,.inr ⟨yb,rfl⟩⟩⟩
   have HA:Hid _:=zk
   have HN:Hid (c.fa=none->k=0):=λe=>by
    rcases zk with h|⟨g,Q,_⟩
    ·exact h.2.2.2.2
    ·rw[e]at Q;cases Q
   have qn:Hid (J=none->c.fl=[]/\c.fc=0/\k=0):=λe=>by
    rcases zk with h|⟨g,_,_,_,⟨_,Z⟩|⟨_,Z⟩⟩
    ·exact⟨h.2.1,h.2.2.1,h.2.2.2.2⟩
    ·rw[e]at Z;cases Z
    ·rw[e]at Z;cases Z
   have Nd:aG W2 wc.drew:=hB.drew;obtain⟨Wd,xv⟩:=cI wc.drew;rw[xv]at Nd;have zj:=aI (bJ xh.oQ Nd);have a2:Wd.cell? (Y A 1)=some (.slice c.fa (ln c.fl) c.fc):=aB zj.oQ rfl
   replace M:=ctq Nd M
   replace i0:=ctq Nd i0
   replace i1:=ctq Nd i1
   have hAw:A<Wd.heap.size:=iB zj.oQ
   have qp:Hid (∀ad,c.fa=some ad->∀w',aG Wd w'->∀j u,(aJ Fx.cells (c.fl.take k))[j]?=some u->w'.cell? (ad.add j)=some u):=λad e w' h=>by
    rcases zk with⟨Q,_⟩|⟨g,Q,N,H,_⟩
    ·rw[Q]at e;cases e
    ·rw[Q]at e;cases e
     exact SM H N (aE Nd h)
   have qj:Hid (∀ad,J=some ad->∀w',aG Wd w'->∀j u,(aJ Fx.cells (c.fl.drop k))[j]?=some u->w'.cell? (ad.add j)=some u):=λad e w' h j u U=>by
    rcases zk with⟨_,_,_,Z,_⟩|⟨g,_,N,H,⟨_,Z⟩|⟨yb,Z⟩⟩
    ·rw[Z]at e;cases e
    ·rw[Z]at e;cases e
     exact VM H N (aE Nd h) j u U
    ·rw[List.drop_of_length_le om]at U;simp[aJ]at U
   clear hB zk hO qe;go_wp2_with fail
   refine wpIn_wide.1 (fA (F:=Fence.wide) (n:=0) kr [some 41,some 42,some 43,some 44,some 45,some 46,some 47,some 48,some 49,some 50,some 51,some 52,some 53,some 54,some 55,some 56,some 57,some 58,some 59,some 60,some 61,some 62,some 63,some 64] (KF Wd A k c.fl y (.slice c.fa (ln c.fl) c.fc) (.slice c.fa k c.fc) (.slice J (ln c.fl-k) (c.fc-k)) (.slice (some (Y bl zc)) 4 ze) (E bl (zc+1)) (.slice (some (Y g oo)) 2 c2) (E g oo) (E g (oo+1))) kr ?h0 KF.ext ?step ?fin)
   case h0=>
    exact⟨λ_ _ _ h=>h.elim,λh=>h.elim,λh=>h.elim,λh=>h.elim,λh=>h.elim,λh=>h.elim,λh=>h.elim,λ_=>by rw[xv];exact br _ _⟩
   case step=>
    intro L ii o vs w' O r B z hK;have hi:ii<25:=(lgs.1 O).1;have m:=aI hK;clear hK
    match ii,hi with
    |0,_=>
     cases O
     have d:¬L 24:=λh=>r (z 24 _ h rfl (eP 0) sm rfl);have l:=m.oQ.bw d;have S:aG w' (w'.alloc (.cells #[] 34)):=aC (br _ _) _;have R:Hid _:=(m.oQ.zL d S).add0 ⟨w'.heap.size,rfl,l.size,wnq w' _⟩;clear S;gi_wp2;exact⟨_,uhx,R.oQ⟩
    |1,_=>
     cases O
     have d:¬L 24:=λh=>r (z 24 _ h rfl (eP 1) sm rfl);have l:=m.oQ.bw d;gi_wp2;exact⟨(E A 1),uhx,m.oQ.addc 1 rfl⟩
    |2,_=>
     cases O
     have d:¬L 24:=λh=>r (z 24 _ h rfl (eP 2) sm rfl);have l:=m.oQ.bw d;have d1:=m.oQ.c 1 _ rfl (Zq B 1);have k2:=ctq l a2;simp only[aD,Act.put];rw[d1];gi_wp2;exact⟨.slice c.fa (ln c.fl) c.fc,by simp[aH,d1],m.oQ.addc 2 rfl⟩
    |3,_=>
     cases O
     have d:¬L 24:=λh=>r (z 24 _ h rfl (eP 3) sm rfl);have l:=m.oQ.bw d;gi_wp2;exact⟨I ((k:Nat):Int),uhx,m.oQ.addc 3 rfl⟩
    |4,_=>
     cases O
     have d:¬L 24:=λh=>r (z 24 _ h rfl (eP 4) sm rfl);have l:=m.oQ.bw d;have d2:=m.oQ.c 2 _ rfl (Zq B 2);have d3:=m.oQ.c 3 _ rfl (Zq B 3);have R:Hid _:=m.oQ.addc 4 (v:=.slice c.fa k c.fc) rfl
     rcases HA.oQ with⟨Q,M,e2,-,rfl⟩|⟨g,Q,M,-,-⟩
     ·have d2:vs 2=ms:=by rw[d2,Q,M,e2];rfl
      have E0:Hid (c.fa=none/\c.fc=0):=⟨Q,e2⟩;clear Q M e2;simp only[aD,Act.put];rw[d2,d3];gi_wp2;exact⟨.slice c.fa 0 c.fc,by simp[aH,d2,d3,E0.out],R.oQ⟩
     ·have d2:vs 2=.slice (some (Y g 0)) (ln c.fl) c.fc:=by rw[d2,Q]
      have E0:Hid _:=Q;clear Q;simp only[aD,Act.put];rw[d2,d3];gi_wp2;exact⟨.slice c.fa k c.fc,by simp[aH,d2,d3,E0.out],R.oQ⟩
    |5,_=>
     cases O
     have d:¬L 24:=λh=>r (z 24 _ h rfl (eP 5) sm rfl);have l:=m.oQ.bw d;have d4:=m.oQ.c 4 _ rfl (Zq B 4);obtain⟨p,d0,zf,qd⟩:=m.oQ.v0 (Zq B 0);have hp:=qd r;simp only[aD,Act.put,sit,lcs,lcz];rw[d0,d4];refine lN w' rfl (.tmp 41) (.tmp 45) 28 rfl 34 jf _ 3 32 underlying28 xb xe xf xg rfl dz p rfl hp c.fa k c.fc (aJ Fx.cells (c.fl.take k)) rfl HN.oQ (by rw[cP Fx.cells_length,llt];congr 1;omega) (λad e j u U=>qp.oQ ad e w' l j u U) (iP oK _) (by unfold maxLen;omega) om Wd.heap.size zf (λv' w2 P G=>?_);have R:Hid _:=(m.oQ.zL d G).add5 P;clear P G hp qd;gi_wp2;exact⟨_,by simp[aH,d0,d4],R.oQ⟩
    |6,_=>
     cases O
     have d:¬L 24:=λh=>r (z 24 _ h rfl (eP 6) sm rfl);have l:=m.oQ.bw d;gi_wp2;exact⟨.slice (some (Y bl zc)) 4 ze,uhx,m.oQ.addc 6 rfl⟩
    |7,_=>
     cases O
     have d:¬L 24:=λh=>r (z 24 _ h rfl (eP 7) sm rfl);have l:=m.oQ.bw d;have d6:=m.oQ.c 6 _ rfl (Zq B 6);simp only[aD,Act.put];rw[d6];gi_wp2;exact⟨(E bl (zc+1)),by simp[aH,d6],m.oQ.addc 7 rfl⟩
    |8,_=>
     cases O
     have d:¬L 24:=λh=>r (z 24 _ h rfl (eP 8) sm rfl);have l:=m.oQ.bw d;have d7:=m.oQ.c 7 _ rfl (Zq B 7);have ke1:=ctq l M;simp only[aD,Act.put];rw[d7];gi_wp2;exact⟨.string y.n,by simp[aH,d7],m.oQ.addc 8 rfl⟩
    |9,_=>
     cases O
     have d:¬L 24:=λh=>r (z 24 _ h rfl (eP 9) sm rfl);have l:=m.oQ.bw d;gi_wp2;exact⟨.slice (some (Y g oo)) 2 c2,uhx,m.oQ.addc 9 rfl⟩
    |10,_=>
     cases O
     have d:¬L 24:=λh=>r (z 24 _ h rfl (eP 10) sm rfl);have l:=m.oQ.bw d;have d9:=m.oQ.c 9 _ rfl (Zq B 9);simp only[aD,Act.put];rw[d9];gi_wp2;exact⟨(E g oo),by simp[aH,d9],m.oQ.addc 10 rfl⟩
    |11,_=>
     cases O
     have d:¬L 24:=λh=>r (z 24 _ h rfl (eP 11) sm rfl);have l:=m.oQ.bw d;have K:=m.oQ.c 10 _ rfl (Zq B 10);have ki0:=ctq l i0;simp only[aD,Act.put];rw[K];gi_wp2;exact⟨I y.x,by simp[aH,K],m.oQ.addc 11 rfl⟩
    |12,_=>
     cases O
     have d:¬L 24:=λh=>r (z 24 _ h rfl (eP 12) sm rfl);have l:=m.oQ.bw d;gi_wp2;exact⟨.slice (some (Y g oo)) 2 c2,uhx,m.oQ.addc 12 rfl⟩
    |13,_=>
     cases O
     have d:¬L 24:=λh=>r (z 24 _ h rfl (eP 13) sm rfl);have l:=m.oQ.bw d;have X:=m.oQ.c 12 _ rfl (Zq B 12);simp only[aD,Act.put];rw[X];gi_wp2;exact⟨(E g (oo+1)),by simp[aH,X],m.oQ.addc 13 rfl⟩
    |14,_=>
     cases O
     have d:¬L 24:=λh=>r (z 24 _ h rfl (eP 14) sm rfl);have l:=m.oQ.bw d;have xq:=m.oQ.c 13 _ rfl (Zq B 13);have ki1:=ctq l i1;simp only[aD,Act.put];rw[xq];gi_wp2;exact⟨I y.y,by simp[aH,xq],m.oQ.addc 14 rfl⟩
    |15,_=>
     cases O
     have d:¬L 24:=λh=>r (z 24 _ h rfl (eP 15) sm rfl);have l:=m.oQ.bw d;have d8:=m.oQ.c 8 _ rfl (Zq B 8);have W:=m.oQ.c 11 _ rfl (Zq B 11);have zr:=m.oQ.c 14 _ rfl (Zq B 14);simp only[aD,Act.put];rw[d8,W,zr];gi_wp2;exact⟨y.val,by simp[aH,d8,W,zr],m.oQ.addc 15 rfl⟩
    |16,_=>
     cases O
     have d:¬L 24:=λh=>r (z 24 _ h rfl (eP 16) sm rfl);have l:=m.oQ.bw d;have d6:=m.oQ.c 15 _ rfl (Zq B 15);have S:aG w' (w'.alloc (.cells #[.string y.n,I y.x,I y.y] 34)):=aC (br _ _) _;have R:Hid _:=(m.oQ.zL d S).add7 ⟨w'.heap.size,rfl,wnq w' _⟩;clear S;gi_wp2;exact⟨_,by simp[aH,d6],R.oQ⟩
    |17,_=>
     cases O
     have d:¬L 24:=λh=>r (z 24 _ h rfl (eP 17) sm rfl);have l:=m.oQ.bw d;have h5:L 5:=Zq B 5;have zt:¬L 22:=λh=>r (z 22 _ h rfl (eD 17) sm rfl);have yk:=m.oQ.v5 h5 r;obtain⟨V,d7,xt⟩:=m.oQ.v7 (Zq B 16);have hV:=xt r;obtain⟨u5,e5⟩:∃u,vs 5=u:=⟨_,rfl⟩;rw[e5]at yk;simp only[aD,Act.put,sit,lcs,lcz];rw[d7,e5]
     refine wpListIn_append_own w' rfl (.tmp 46) (.tmp 57) 28 rfl Wd.heap.size 34 jf _ 3 32 underlying28 xb xe xf xg rfl dz u5 k (aJ Fx.cells (c.fl.take k)) rfl yk (Y V 0) 1 1 y.cells rfl (by simp[Fx.cells]) (λj u U=>by
      rw[aal,nza]
      match j,U with
      |0,U=>simp[Fx.cells]at U;subst U;exact aB hV rfl
      |1,U=>simp[Fx.cells]at U;subst U;exact aB hV rfl
      |2,U=>simp[Fx.cells]at U;subst U;exact aB hV rfl) (oK y) (by unfold maxLen;omega) om l.size (λv' w2 P zz _=>?_)
     have G:aG Wd w2:=l.grown zz l.size (λq hq=>eH yk hq);have R:Hid _:=m.oQ.add8 h5 zt d P G;clear P zz yk hV xt;gi_wp2;exact⟨_,by simp[aH,d7,e5],R.oQ⟩
    |18,_=>
     cases O
     have d:¬L 24:=λh=>r (z 24 _ h rfl (eP 18) sm rfl);have l:=m.oQ.bw d;gi_wp2;exact⟨(E A 1),uhx,m.oQ.addc 18 rfl⟩
    |19,_=>
     cases O
     have d:¬L 24:=λh=>r (z 24 _ h rfl (eP 19) sm rfl);have l:=m.oQ.bw d;have d9:=m.oQ.c 18 _ rfl (Zq B 18);have k2:=ctq l a2;simp only[aD,Act.put];rw[d9];gi_wp2;exact⟨.slice c.fa (ln c.fl) c.fc,by simp[aH,d9],m.oQ.addc 19 rfl⟩
    |20,_=>
     cases O
     have d:¬L 24:=λh=>r (z 24 _ h rfl (eP 20) sm rfl);have l:=m.oQ.bw d;gi_wp2;exact⟨I ((k:Nat):Int),uhx,m.oQ.addc 20 rfl⟩
    |21,_=>
     cases O
     have d:¬L 24:=λh=>r (z 24 _ h rfl (eP 21) sm rfl);have l:=m.oQ.bw d;have K:=m.oQ.c 19 _ rfl (Zq B 19);have W:=m.oQ.c 20 _ rfl (Zq B 20);have R:Hid _:=m.oQ.addc 21 (v:=.slice J (ln c.fl-k) (c.fc-k)) rfl
     rcases HA.oQ with⟨Q,M,e2,Z,rfl⟩|⟨g,Q,M,-,h3⟩
     ·have K:vs 19=ms:=by rw[K,Q,M,e2];rfl
      have E0:Hid (c.fl=[]/\c.fc=0/\J=none):=⟨M,e2,Z⟩;clear Q M e2 Z;simp only[aD,Act.put];rw[K,W];gi_wp2;exact⟨.slice J (ln c.fl-0) (c.fc-0),by simp[aH,K,W,E0.out],R.oQ⟩
     ·have K:vs 19=.slice (some (Y g 0)) (ln c.fl) c.fc:=by rw[K,Q]
      clear Q
      rcases h3 with⟨yb,Z⟩|⟨yb,Z⟩
      ·have E3:Hid _:=Z
       clear Z;simp only[aD,Act.put];rw[K,W];gi_wp2;exact⟨.slice J (ln c.fl-k) (c.fc-k),by simp[aH,K,W,E3.out],R.oQ⟩
      ·have qb:c.fc-k=0:=om
       have E3:Hid _:=Z;clear Z;simp only[aD,Act.put];rw[K,W];gi_wp2;exact⟨.slice J (ln c.fl-k) (c.fc-k),by simp[aH,K,W,E3.out,qb];omega,by have h:=R.oQ;have e:c.fc=k:=om;simp only[e,nss]at h ⊢;exact h⟩
    |22,_=>
     cases O
     have d:¬L 24:=λh=>r (z 24 _ h rfl (eP 22) sm rfl);have l:=m.oQ.bw d;have X:=m.oQ.c 21 _ rfl (Zq B 21);have h8:L 17:=Zq B 17;have h5:L 5:=z 17 _ h8 rfl (eD 5) sm rfl;have zb:=m.oQ.v8 h8 r;obtain⟨u8,e8⟩:∃u,vs 17=u:=⟨_,rfl⟩
     cases J with
     |none=>
      obtain⟨zn,xz,yi⟩:=qn.oQ rfl
      obtain⟨g8,T,e9,hc8⟩:∃g8 T,vs 17=.slice (some (Y g8 0)) 1 T/\1<=T:=by
       rw[yi]at zb;obtain⟨_,⟨_,e⟩|⟨g8,T,_,e,_,_,qt,_⟩⟩:=zb
       ·omega
       ·exact⟨g8,T,e,qt⟩
      have R:Hid _:=m.oQ.add13 (v:=vs 17) h5 h8 d (by rw[zn,yi]at zb ⊢;simpa[aJ]using zb) l;have X:vs 21=ms:=by rw[X,zn,xz,yi];rfl
      clear zb zn xz yi;simp only[aD,Act.put];rw[X,e9];gi_wp2;exact⟨vs 17,by simp[aH,X,e9],R.oQ⟩
     |some ad=>
      rw[e8]at zb;simp only[aD,Act.put,sit,lcs,lcz];rw[X,e8];refine wpListIn_append_own w' rfl (.tmp 58) (.tmp 62) 28 rfl Wd.heap.size 34 jf _ 3 32 underlying28 xb xe xf xg rfl dz u8 (k+1) (aJ Fx.cells (c.fl.take k)++y.cells) rfl zb ad (ln c.fl-k) (c.fc-k) (aJ Fx.cells (c.fl.drop k)) rfl (by rw[cP Fx.cells_length,lld]) (λj u U=>qj.oQ ad rfl w' l j u U) (iP oK _) (by unfold maxLen;omega) om l.size (λv' w2 P zz _=>?_);have G:aG Wd w2:=l.grown zz l.size (λq hq=>eH zb hq);have yc:w2.ownsRow Wd.heap.size 34 3 v' (ln c.fl+1) (aJ Fx.cells (c.fl.take k)++y.cells++aJ Fx.cells (c.fl.drop k)):=by rw[show(ln c.fl)+1=k+1+(ln c.fl-k)by omega];exact P
      have R:Hid _:=m.oQ.add13 h5 h8 d yc G;clear P yc zz zb;gi_wp2;exact⟨_,by simp[aH,X,e8],R.oQ⟩
    |23,_=>
     cases O
     have d:¬L 24:=λh=>r (z 24 _ h rfl (eD 23) sm rfl);have l:=m.oQ.bw d;gi_wp2;exact⟨(E A 1),uhx,m.oQ.addc 23 rfl⟩
    |24,_=>
     cases O
     have zr:=m.oQ.c 23 _ rfl (Zq B 23);have l:=m.oQ.bw r;have zt:L 22:=Zq B 22;have h8:L 17:=z 22 _ zt rfl (eD 17) sm rfl;have h5:L 5:=z 17 _ h8 rfl (eD 5) sm rfl;have yo:=m.oQ.v13 zt r
     obtain⟨a8,c8,zs⟩:∃a cq,vs 22=.slice a (ln c.fl+1) cq:=by
      obtain⟨_,⟨_,e⟩|⟨g8,T,_,e,_⟩⟩:=yo
      ·omega
      ·exact⟨_,_,e⟩
     have k2:=ctq l a2;have kf:∀i,w'.frozen? (Y A i)=false:=λi=>by simp[World.frozen?,bJ zj.oQ l]
     have R:Hid _:=m.oQ.add15 (v:=undef) h5 h8 zt r;rw[zs]at R;simp only[aD,Act.put];rw[zr,zs];clear yo;gi_wp2_with fail
     exact⟨undef,by simp[aH,zr,zs],by have h:=R.oQ;simpa using h⟩
    |q+25,h=>omega
   case fin=>
    intro L vs w' xr hK;obtain⟨w9,zx,xc,xd⟩:=hK.w15 (xr 24 dz);have xa:=jY xc
    have zv:bW 34 3 Fx.cells w9 Wd.heap.size (vs 22) (c.fl.take k++y::c.fl.drop k):=iV Fx.cells_length (by
     rw[show(ln (c.fl.take k++y::c.fl.drop k))=ln c.fl+1 by simp;omega];have e:aJ Fx.cells (c.fl.take k++y::c.fl.drop k)=aJ Fx.cells (c.fl.take k)++y.cells++aJ Fx.cells (c.fl.drop k):=by simp[aJ]
     rw[e];exact xc)
    rw[←yr.oQ]at zv;obtain⟨a',c',zs⟩:=zv.slice;rw[zs]at zv xd xa;rw[xd];clear xd xc xr hK;simp only[aD,Act.put];generalize vs=vs;have A9:=aP (bJ zj.oQ zx) 1 (.slice a' (ln (gY c.fl y)) c');have bA:aU (λq=>q=A) w9 (w9.setCell (Y A 1) (.slice a' (ln (gY c.fl y)) c')):=(aU.refl (λq=>q=A) w9).set (g:=A) rfl _ _;have yv:=aE Nd zx
    have zh:dS w1.heap.size (w9.setCell (Y A 1) (.slice a' (ln (gY c.fl y)) c')) ⟨c.now,a',gY c.fl y,c',c.ha,c.hl,c.hc⟩:=by
     have h1:=(xi.oQ.zL yv).butT bA (bJ zj.oQ zx) dz dz dz
     have h2:=(zv.weak (base':=w1.heap.size) (by have:=Nd.size;omega)).butRow bA (λq n f _ hr e=>by
      have e':q=A:=e;subst e';obtain⟨cs,zm,_⟩:=hr;rw[bJ zj.oQ zx]at zm
      simp[Bk.obj]at zm)
     exact⟨h2,h1.h,h1.t,xa⟩
    have yg:aG w2 (w9.setCell (Y A 1) (.slice a' (ln (gY c.fl y)) c')):=((Below.trans zd.oQ (yv.mono om)).setCell (p:=(Y A 1)) (by show w2.heap.size<=A;omega) _);obtain⟨Wf,xx⟩:=cI (w9.setCell (Y A 1) (.slice a' (ln (gY c.fl y)) c'));rw[xx]at A9 zh yg ⊢;have xs:=hS.zL yg;have ym:K8 (gR s.b y).now (gR s.b y).fl (gR s.b y).hl ⟨c.now,a',gY c.fl y,c',c.ha,c.hl,c.hc⟩:=⟨yq.oQ.now,by show gY c.fl y=gY s.b.fl y;rw[yq.oQ.fl],yq.oQ.lk⟩;have za:eI (λk=>k=D) Wf (gR s.b y) ⟨c.now,a',gY c.fl y,c',c.ha,c.hl,c.hc⟩:=zh.at (λk e=>by rw[e];exact qs) ym;have yx:aO (⟨c.now,a',gY c.fl y,c',c.ha,c.hl,c.hc⟩:Bk)=aO (gR s.b y):=za.book;have yn:ln (gY c.fl y)<=1048576:=by rw[yr.oQ];simp;omega
    have C:iX Wf ⟨c.now,a',gY c.fl y,c',c.ha,c.hl,c.hc⟩:=⟨za.inn.f,yn,za.f1,za.f2,λf hf=>by
     rw[show(⟨c.now,a',gY c.fl y,c',c.ha,c.hl,c.hc⟩:Bk).fl=gY c.fl y from rfl,yr.oQ]at hf
     rcases lma.1 hf with h|h
     ·exact xk.oQ f (lmt h)
     ·rcases lmc.1 h with rfl|h
      ·exact qq.oQ
      ·exact xk.oQ f (lmd h),za.inn.h,ql.oQ,λx hx=>⟨za.inn.i x hx,qk.oQ x hx⟩⟩
    have Q:Wf.cell? (Y A 0)=some (I c.now):=aB A9 rfl;have yt:Wf.cell? (Y A 1)=some (.slice a' (ln (gY c.fl y)) c'):=aB A9 rfl;have e2:Wf.cell? (Y A 2)=some (.slice c.ha (ln c.hl) c.hc):=aB A9 rfl;obtain⟨cc,zl⟩:=bQ (⟨c.now,a',gY c.fl y,c',c.ha,c.hl,c.hc⟩:Bk);rw[←zl]at zh za yx C
    replace Q:Wf.cell? (Y A 0)=some (I cc.now):=by rw[zl];exact Q
    replace yt:Wf.cell? (Y A 1)=some (.slice cc.fa (ln cc.fl) cc.fc):=by rw[zl];exact yt
    replace e2:Wf.cell? (Y A 2)=some (.slice cc.ha (ln cc.hl) cc.hc):=by rw[zl];exact e2
    have yp:Hid (Wf.heap[A]?=some cc.obj):=by rw[Hid,zl];exact A9
    clear zl ym A9 bA zv zh zx xx yv xa yn;go_wp2_with fail
    refine(pX C _ yx).mono ?_;rintro e w3 ⟨rfl,zw⟩;have zu:=xs.zL zw;have yl:=za.zL zw;have xm:=aI (aE (xn.oQ.trans (yg.mono xn.oQ.size)) zw);have A3:=bJ yp.oQ zw;clear xs za C zw yg Q yt e2 yx
    cases hq:aO (gR s.b y)with
    |false=>
     have HR:Hid (gH s ws.tail=(s,sNo)):=by rw[Hid,xj.oQ,hq];rfl
     clear hq A3 yp;go_wp2
     go_ret;exact⟨⟨_,_,_,by rw[HR.oQ];exact zu⟩,by rw[HR.oQ];rfl,aU.below xm.oQ⟩
    |true=>
     have HR:Hid (gH s ws.tail=(⟨gR s.b y,s.t⟩,VW)):=by rw[Hid,xj.oQ,hq];rfl
     have qo:=aI (zu.put yl);have qi:=aI ((aU.below xm.oQ).trans (dJ w3 D cc));obtain⟨y0,y1,y2,y3⟩:=zu.c;have yf:=zu.fz;obtain⟨u0,u1,u2⟩:=aM A3;clear hq A3 yp zu yl;go_wp2
     go_ret;exact⟨⟨_,_,_,by rw[HR.oQ];exact qo.oQ⟩,by rw[HR.oQ];rfl,qi.oQ⟩
end Go.Proofs.YtoolgmmljacfmaaGreatDoor
namespace Go.Proofs.YtoolgmmljacfmaaGreatDoor
open Go.BigFrame
variable {a:List Ba}
theorem uR {s:St}(h:¬(ln a)=3):gH s a=(s,dR):=by
 unfold gH;split;·simp at h
 ·rfl
theorem SD (D:Nat) (w:Wd) (s:St) (b:Bk) (ta:Oa) (K G:Nat) (l:o9 D w s b ta K) (C:jF G s) (_hkk:G<=1000) (n:Ba) (a:List Ba) (i c d:Nat) (o:Xs 1 eE w (some (Y i c)) (n::a)) (r:ln a+1<=d) (hlen:ln a+1<=1048570) (F:∀x∈n::a,x.size<=1048575) (J:n.toList=pV):
 aW 23 #[E D 0,.slice (some (Y i c)) (ln a+1) d] w λe w'=>RO D w (aX s (n::a)) e w':=by
 have z:=iC o 0 n rfl;rw[naz]at z;have p:Xs 1 eE w (some (Y i (c+1))) a:=jN o 1 [n] _ [] sm rfl;go_enter Tryz.func23,Tryz.ntmps23;go_upto_region 1 with fail;go_cut [5,6] (λP Q L=>Q=.bool (j7 a)/\Hid (j7 a=true->∃H N,P=.slice H (ln (aS a)) N/\Xs 1 dV L H (aS a))/\aG w L)
 case first=>
  by_cases A:d=1
  ·have ha:a=[]:=enl om;subst ha;subst A;go_wp2_with fail;refine(cC [] (some (Y i c)) 0 w (.inl rfl) sm).mono ?_;rintro e w1 ⟨⟨O,rfl,f⟩,h⟩;have g:=aI f;clear f;go_wp2;go_meet;exact⟨rfl,g,h⟩
  ·go_wp2_with fail;refine(cC a (some (Y i (c+1))) (d-1) w p om).mono ?_;rintro e w1 ⟨⟨O,rfl,f⟩,h⟩;have g:=aI f;clear f;go_wp2;go_meet;exact⟨rfl,g,h⟩
 case rest=>
  obtain⟨rfl,HV,k⟩:=hcut;replace o:=o.zL k;replace z:=ctq k z;replace l:=l.zL k;have u:=aI k;clear p k;by_cases t:ln a=3
  ·have j:Hid (aX s (n::a)=gH s a):=by rw[Hid,aX,J];rfl
   have B:((ln a:Int)+1==4)=true:=by rw[beq_iff_eq];omega
   have M:=aI t;clear t;go_wp2_with fail;refine(OX D wc s b ta K G l C (n::a) i c d o (by simp[M.oQ]) (by simpa using r) F).mono ?_;rintro e w2 ⟨⟨b2,ta2,tc2,m⟩,rfl,q⟩;have v:=aI ((aU.below u.oQ).trans q);have y:=aI m;clear q l u m;go_wp2;go_ret;exact⟨⟨_,_,_,by rw[j.oQ];exact y.oQ⟩,by rw[j.oQ];rfl,v.oQ⟩
  ·have j:Hid (aX s (n::a)=(s,dR)):=by rw[Hid,←uR (s:=s) t,aX,J];rfl
   have B:((ln a:Int)+1==4)=false:=by rw[bfn];omega
   clear t;go_wp2;go_ret;exact⟨⟨_,_,_,by rw[j.oQ];exact l⟩,by rw[j.oQ];rfl,aU.below u.oQ⟩
theorem MK (f:Fx)(p:Nat)(nm:Ba)(w:Wd)(b:w.cell? (Y p 0)=some (.string nm)):
 aW 72 #[f.val,E p 0] w λe w'=>e=rt (.bool (!(gE f.n nm)))/\aG w w':=by
 have a:aG w (w.alloc (fo f)):=aC (br _ _) _;have k0:(w.alloc (fo f)).cell? (ya w 0)=some (.string f.n):=aB (wnq w _) rfl;have k1:=ctq a b;have c:Hid _:=a;clear a b;go_enter Tryz.func72,Tryz.ntmps72;go_wp2;go_ret;exact⟨rfl,c.oQ⟩
theorem VH (l:List Fx)(z:Oa)(s p:Nat)(nm:Ba)(w:Wd)(F:Xs 3 Fx.cells w z l)(hn:ln l<=64)(G:w.cell? (Y p 0)=some (.string nm)):
 aW 71 #[.slice z (ln l) s,.func (.func 72) #[] #[E p 0]] w λe w'=>((qC l nm<ln l/\e=rt (I (qC l nm)))∨(qC l nm=ln l/\e=rt (I (-1))))/\aG w w':=by
 go_enter Tryz.func71,Tryz.ntmps71
 go_wp2
 go_loopw [8] (λu wr=>∃k:Nat,k<=ln l/\u=I k/\Hid (∀j (h:j<ln l),j<k->gE l[j].n nm=true)/\aG w wr) (λu _=>ln l-(intOf u).toNat)
 case atStart=>exact⟨0,nz _,rfl,λj h A=>absurd A om,br _ _⟩
 case round=>
  obtain⟨k,hk,rfl,q,o⟩:=hrel
  by_cases a:k<ln l
  ·have i:(k:Int)<(ln l:Int):=om
   rcases F.zL o with h|⟨g,c,t,b⟩
   ·rw[h]at a;simp at a
   subst t;have B:wr.cell? (Y g (c+k*3))=some (.string l[k].n):=b k a 0 _ rfl;have C:wr.cell? (Y g (c+k*3+1))=some (I l[k].x):=b k a 1 _ rfl;have D:wr.cell? (Y g (c+k*3+2))=some (I l[k].y):=b k a 2 _ rfl;have m:=ctq o G;obtain⟨x,hx⟩:=bQ (l[k]);rw[←hx]at B C D;have v:=aI hx;clear hx b;go_wp2_with fail
   refine(MK x p nm wr m).mono ?_;rintro e w2 ⟨rfl,f⟩;have d:=aI (aE o f);clear f B C D m
   cases hq:gE x.n nm with
   |true=>
    have r:Hid (∀j (h:j<ln l),j<k+1->gE l[j].n nm=true):=λj h A=>by
     by_cases e:j=k
     ·subst e;rw[←v.oQ];exact hq
     ·exact q.oQ j h om
    clear hq;go_wp2
    go_roundw
    case rel=>exact⟨k+1,om,gn,r,d.oQ⟩
    case measure=>simp[intOf];omega
   |false=>
    have HP:Hid (qC l nm=k):=AB om q.oQ (λh=>by rw[←v.oQ];exact hq);clear hq;go_wp2
    go_ret;exact⟨.inl ⟨by rw[HP.oQ];exact a,by rw[HP.oQ];rfl⟩,d.oQ⟩
  ·have i:¬(k:Int)<(ln l:Int):=om
   have HP:Hid (qC l nm=ln l):=AB (nlq _) (λj h _=>q.oQ j h om) (λh=>absurd h om);go_wp2
   go_ret;exact⟨.inr ⟨HP.oQ,rfl⟩,o⟩
