import Derived.Test.YtcdbcliaepcpfaaGreatDoorYb
import Derived.Deep.DeepCutAuto
import Derived.Deep.CutBlock
namespace Go.Proofs.YtcdbcliaepcpfaaGreatDoor
set_option maxRecDepth 100000
set_option maxHeartbeats 16000000
open Go.RowKit Go.Shelf Go.BigFrame
attribute [local go_sem] Oper.semAt_some
def X6 (A k:Nat)(y:Fx)(h0 h4 h12 vw p7 vn p10 p13:Value):Nat->Option Value
 |1|18|23=>some (.pointer (some ⟨A,1,none⟩))
 |2|19=>some h0
 |3|20=>some (.int .i64 (k:Int))
 |4=>some h4
 |6=>some vw
 |7=>some p7
 |8=>some (.string y.n)
 |9|12=>some vn
 |10=>some p10
 |11=>some (.int .i64 y.x)
 |13=>some p13
 |14=>some (.int .i64 y.y)
 |15=>some y.val
 |21=>some h12
 |_=>none
structure KF (Wd:World)(A k:Nat)(l:List Fx)(y:Fx)(h0 h4 h12 vw p7 vn p10 p13:Value)(L:Nat->Prop)(vs:Nat->Value)(w':World):Prop where
 c:∀j v,X6 A k y h0 h4 h12 vw p7 vn p10 p13 j=some v->L j->vs j=v
 v0:L 0->∃p,vs 0=.slice (some ⟨p,0,none⟩) 0 0/\Wd.heap.size<=p/\(¬L 5->w'.heap[p]?=some (.cells #[] 74))
 v5:L 5->¬L 17->w'.ownsRow Wd.heap.size 74 3 (vs 5) k (aI Fx.cells (l.take k))
 v7:L 16->∃V,vs 16=.slice (some ⟨V,0,none⟩) 1 1/\(¬L 17->w'.heap[V]?=some (.cells #[.string y.n,.int .i64 y.x,.int .i64 y.y] 74))
 v8:L 17->¬L 22->w'.ownsRow Wd.heap.size 74 3 (vs 17) (k+1) (aI Fx.cells (l.take k)++y.cells)
 v13:L 22->¬L 24->w'.ownsRow Wd.heap.size 74 3 (vs 22) (l.length+1) (aI Fx.cells (l.take k)++y.cells++aI Fx.cells (l.drop k))
 w15:L 24->∃w0,aF Wd w0/\w0.ownsRow Wd.heap.size 74 3 (vs 22) (l.length+1) (aI Fx.cells (l.take k)++y.cells++aI Fx.cells (l.drop k))/\w'=w0.setCell ⟨A,1,none⟩ (vs 22)
 bw:¬L 24->aF Wd w'
theorem KF.ext {e:World}{A k:Nat}{l:List Fx}{y:Fx}{f g a o i m b c:Value}(L d:Nat->Prop)(n:Nat->Value)(w':World)(h:∀j,L j↔d j)(q:KF e A k l y f g a o i m b c L n w'):KF e A k l y f g a o i m b c d n w':=by
 obtain rfl:L=d:=funext λj=>propext (h j);exact q
theorem KF.zL {o:World}{A k:Nat}{l:List Fx}{y:Fx}{r s b w t u d f:Value}{L:Nat->Prop}{v:Nat->Value}{w' i:World}(q:KF o A k l y r s b w t u d f L v w')(j:¬L 24)(a:aF w' i):KF o A k l y r s b w t u d f L v i:=
 ⟨q.c,λh=>by obtain⟨p,e,x,m⟩:=q.v0 h;exact⟨p,e,x,λn=>bJ (m n) a⟩,λh g=>lM (q.v5 h g) a,λh=>by obtain⟨V,e,m⟩:=q.v7 h;exact⟨V,e,λn=>bJ (m n) a⟩,λh g=>lM (q.v8 h g) a,λh g=>lM (q.v13 h g) a,λh=>absurd h j,λh=>aC (q.bw h) a⟩
theorem KF.cc {s:World}{A k:Nat}{l:List Fx}{y:Fx}{g m a r o p b d:Value}{L:Nat->Prop}{f:Nat->Value}{w':World}(q:KF s A k l y g m a r o p b d L f w')(i:Nat)(v:Value)(t:∀u,X6 A k y g m a r o p b d i=some u->u=v):∀j u,X6 A k y g m a r o p b d j=some u->(L j∨j=i)->aH f i v j=u:=λj u e h=>by
 by_cases n:j=i;·subst n;rw[t u e];simp[aH]
 ·rw[show aH f i v j=f j from by simp[aH,n]];exact q.c j u e (h.resolve_right n)
theorem KF.addc {C:World}{A k:Nat}{l:List Fx}{y:Fx}{d f a t o r b c:Value}{L:Nat->Prop}{x:Nat->Value}{w':World}(q:KF C A k l y d f a t o r b c L x w')(i:Nat){v:Value}(D:X6 A k y d f a t o r b c i=some v):KF C A k l y d f a t o r b c (λj=>L j∨j=i) (aH x i v) w':=by
 have n:∀m,X6 A k y d f a t o r b c m=none->m≠i:=λm w e=>by rw[e,D]at w;cases w
 have u:∀m,X6 A k y d f a t o r b c m=none->aH x i v m=x m:=λm w=>by simp[aH,n m w]
 refine⟨q.cc i v (λu e=>by rw[D]at e;cases e;rfl),λh=>?_,λh g=>?_,λh=>?_,λh g=>?_,λh g=>?_,λh=>?_,λh=>q.bw (λs=>h (.inl s))⟩;·rw[u 0 rfl];obtain⟨p,e,E,z⟩:=q.v0 (h.resolve_right (n 0 rfl));exact⟨p,e,E,λB=>z (λs=>B (.inl s))⟩
 ·rw[u 5 rfl];exact q.v5 (h.resolve_right (n 5 rfl)) (λs=>g (.inl s))
 ·rw[u 16 rfl];obtain⟨V,e,z⟩:=q.v7 (h.resolve_right (n 16 rfl));exact⟨V,e,λB=>z (λs=>B (.inl s))⟩
 ·rw[u 17 rfl];exact q.v8 (h.resolve_right (n 17 rfl)) (λs=>g (.inl s))
 ·rw[u 22 rfl];exact q.v13 (h.resolve_right (n 22 rfl)) (λs=>g (.inl s))
 ·rw[u 22 rfl];exact q.w15 (h.resolve_right (n 24 rfl))
theorem KF.add0 {d:World}{A k:Nat}{l:List Fx}{y:Fx}{i m a t n o b c:Value}{L:Nat->Prop}{r:Nat->Value}{w':World}{v:Value}(q:KF d A k l y i m a t n o b c L r w')(x:∃p,v=.slice (some ⟨p,0,none⟩) 0 0/\d.heap.size<=p/\w'.heap[p]?=some (.cells #[] 74)):KF d A k l y i m a t n o b c (λj=>L j∨j=0) (aH r 0 v) w':=
 ⟨q.cc 0 v (λ_ e=>by cases e),λ_=>by obtain⟨p,e,u,f⟩:=x;exact⟨p,e,u,λ_=>f⟩,λh g=>q.v5 (iF h) (λs=>g (.inl s)),λh=>by obtain⟨V,e,f⟩:=q.v7 (iF h);exact⟨V,e,λw=>f (λs=>w (.inl s))⟩,λh g=>q.v8 (iF h) (λs=>g (.inl s)),λh g=>q.v13 (iF h) (λs=>g (.inl s)),λh=>q.w15 (iF h),λh=>q.bw (λs=>h (.inl s))⟩
theorem KF.add5 {d:World}{A k:Nat}{l:List Fx}{y:Fx}{i n a u o r b c:Value}{L:Nat->Prop}{t:Nat->Value}{w':World}{v:Value}(q:KF d A k l y i n a u o r b c L t w')(x:w'.ownsRow d.heap.size 74 3 v k (aI Fx.cells (l.take k))):KF d A k l y i n a u o r b c (λj=>L j∨j=5) (aH t 5 v) w':=
 ⟨q.cc 5 v (λ_ e=>by cases e),λh=>by obtain⟨p,e,w,m⟩:=q.v0 (iF h);exact⟨p,e,w,λf=>absurd (.inr rfl) f⟩,λ_ _=>x,λh=>by obtain⟨V,e,m⟩:=q.v7 (iF h);exact⟨V,e,λf=>m (λs=>f (.inl s))⟩,λh g=>q.v8 (iF h) (λs=>g (.inl s)),λh g=>q.v13 (iF h) (λs=>g (.inl s)),λh=>q.w15 (iF h),λh=>q.bw (λs=>h (.inl s))⟩
theorem KF.add7 {f:World}{A k:Nat}{l:List Fx}{y:Fx}{i m a u o r b c:Value}{L:Nat->Prop}{t:Nat->Value}{w':World}{v:Value}(q:KF f A k l y i m a u o r b c L t w')(B:∃V,v=.slice (some ⟨V,0,none⟩) 1 1/\w'.heap[V]?=some (.cells #[.string y.n,.int .i64 y.x,.int .i64 y.y] 74)):KF f A k l y i m a u o r b c (λj=>L j∨j=16) (aH t 16 v) w':=
 ⟨q.cc 16 v (λ_ e=>by cases e),λh=>by obtain⟨p,e,w,d⟩:=q.v0 (iF h);exact⟨p,e,w,λz=>d (λs=>z (.inl s))⟩,λh g=>q.v5 (iF h) (λs=>g (.inl s)),λ_=>by obtain⟨V,e,d⟩:=B;exact⟨V,e,λ_=>d⟩,λh g=>q.v8 (iF h) (λs=>g (.inl s)),λh g=>q.v13 (iF h) (λs=>g (.inl s)),λh=>q.w15 (iF h),λh=>q.bw (λs=>h (.inl s))⟩
theorem KF.add8 {f:World} {A k:Nat} {l:List Fx} {y:Fx} {n o b u r s c d:Value} {L:Nat->Prop} {t:Nat->Value} {w' a:World} {v:Value} (q:KF f A k l y n o b u r s c d L t w') (x:L 5) (i:¬L 22) (m:¬L 24) (B:a.ownsRow f.heap.size 74 3 v (k+1) (aI Fx.cells (l.take k)++y.cells)) (z:aF f a):KF f A k l y n o b u r s c d (λj=>L j∨j=17) (aH t 17 v) a:=
 ⟨q.cc 17 v (λ_ e=>by cases e),λh=>by obtain⟨p,e,w,_⟩:=q.v0 (iF h);exact⟨p,e,w,λg=>absurd (.inl x) g⟩,λ_ g=>absurd (.inr rfl) g,λh=>by obtain⟨V,e,_⟩:=q.v7 (iF h);exact⟨V,e,λg=>absurd (.inr rfl) g⟩,λ_ _=>B,λh=>absurd (iF h) i,λh=>absurd (iF h) m,λ_=>z⟩
theorem KF.add13 {f:World} {A k:Nat} {l:List Fx} {y:Fx} {m n b u r s c d:Value} {L:Nat->Prop} {t:Nat->Value} {w' a:World} {v:Value} (q:KF f A k l y m n b u r s c d L t w') (x:L 5) (o:L 17) (i:¬L 24) (B:a.ownsRow f.heap.size 74 3 v (l.length+1) (aI Fx.cells (l.take k)++y.cells++aI Fx.cells (l.drop k))) (z:aF f a):KF f A k l y m n b u r s c d (λj=>L j∨j=22) (aH t 22 v) a:=
 ⟨q.cc 22 v (λ_ e=>by cases e),λh=>by obtain⟨p,e,w,_⟩:=q.v0 (iF h);exact⟨p,e,w,λg=>absurd (.inl x) g⟩,λ_ g=>absurd (.inl o) g,λh=>by obtain⟨V,e,_⟩:=q.v7 (iF h);exact⟨V,e,λg=>absurd (.inl o) g⟩,λ_ g=>absurd (.inr rfl) g,λ_ _=>B,λh=>absurd (iF h) i,λ_=>z⟩
theorem KF.add15 {m:World}{A k:Nat}{l:List Fx}{y:Fx}{n o a u s t d f:Value}{L:Nat->Prop}{i:Nat->Value}{w':World}{v:Value}(q:KF m A k l y n o a u s t d f L i w')(x:L 5)(r:L 17)(b:L 22)(c:¬L 24):KF m A k l y n o a u s t d f (λj=>L j∨j=24) (aH i 24 v) (w'.setCell ⟨A,1,none⟩ (i 22)):=
 ⟨q.cc 24 v (λ_ e=>by cases e),λh=>by obtain⟨p,e,w,_⟩:=q.v0 (iF h);exact⟨p,e,w,λg=>absurd (.inl x) g⟩,λ_ g=>absurd (.inl r) g,λh=>by obtain⟨V,e,_⟩:=q.v7 (iF h);exact⟨V,e,λg=>absurd (.inl r) g⟩,λ_ g=>absurd (.inl b) g,λ_ g=>absurd (.inr rfl) g,λ_=>⟨w',q.bw c,q.v13 b c,rfl⟩,λh=>absurd (.inr rfl) h⟩
theorem RH {w W:World}{g a k:Nat}{l:List Fx}(h:fP 74 3 Fx.cells w g a l l.length)(c:l.length<=a)(b:aF w W):∀j u,(aI Fx.cells (l.take k))[j]?=some u->W.cell? ((⟨g,0,none⟩:Addr).add j)=some u:=
 mG Fx.cells_length (by decide) (λi d=>by
  rw[List.getElem_take];exact(h.xs' Fx.cells_length (nlq _) c i (by simp at d;omega)).zL b)
theorem QH {w W:World}{g a k:Nat}{l:List Fx}(h:fP 74 3 Fx.cells w g a l l.length)(c:l.length<=a)(b:aF w W):∀j u,(aI Fx.cells (l.drop k))[j]?=some u->W.cell? ((⟨g,k*3,none⟩:Addr).add j)=some u:=
 mG Fx.cells_length (by decide) (λi d=>by
  rw[List.getElem_drop];have:=(h.xs' Fx.cells_length (nlq _) c (k+i) (by simp at d;omega)).zL b;rwa[Nat.zero_add,Nat.add_mul]at this)
theorem yN {l:List Fx}{nm:ByteArray}{k:Nat}(d:k<=l.length)(c:∀j (h:j<l.length),j<k->fY l[j].n nm=true)(b:∀h:k<l.length,fY l[k].n nm=false):oJ l nm=k:=by
 induction l generalizing k with
 |nil=>simp at d;subst d;rfl
 |cons a r ih=>
  cases k with
  |zero=>
   have:=b (by simp);simp only[List.getElem_cons_zero]at this;simp[oJ,this]
  |succ m=>
   have e:=c 0 (by simp) (by omega);simp only[List.getElem_cons_zero]at e;have:=ih (k:=m) (by simpa using d) (λj h hj=>by have:=c (j+1) (by simpa using h) (by omega);simpa using this) (λh=>by have:=b (by simpa using h);simpa using this);simp only[oJ]at this ⊢;simp[e,this]
theorem YC {w:World}{a o:Nat}{h:Fx}(b:aZ w a o h.cells):w.cell? ⟨a,o,none⟩=some (.string h.n):=b 0 _ rfl
theorem ws4 {a:List ByteArray}(h:a.length=4):∃n nm x y,a=[n,nm,x,y]:=by
 match a,h with
 |[n,nm,x,y],_=>exact⟨n,nm,x,y,rfl⟩
theorem MX (D:Nat)(w:World)(s:St)(b:Bk)(ta:Option Addr)(tc kk:Nat)(hS:nU D w s b ta tc)(xv:iP kk s)(ws:List ByteArray)(bl Z zb:Nat)(hX:Xs 1 dS w (some ⟨bl,Z,none⟩) ws)(h4:ws.length=4)(M:ws.length<=zb)(qa:∀x∈ws,x.size<=1048575):
 aY 14 #[.pointer (some ⟨D,0,none⟩),.slice (some ⟨bl,Z,none⟩) ws.length zb] w λe w'=>OP D w (fT s ws.tail) e w':=by
 obtain⟨jf,yv,yz,xa,xb⟩:=info_parts Tryz.info74;obtain⟨n,nm,xw,yw,zy⟩:=ws4 h4;have xr:Xs 1 dS w (some ⟨bl,Z+2,none⟩) [xw,yw]:=i7 hX 2 [n,nm] _ [] (by rw[zy];rfl) rfl;have G:=gO hX 1 nm (by rw[zy];rfl);have qo:nm.size<=1048575:=qa nm (by rw[zy];simp);have zd:Hid (fT s ws.tail=if jG [xw,yw]then(if aN (gH s.b ⟨nm,aV xw,aV yw⟩)then(⟨gH s.b ⟨nm,aV xw,aV yw⟩,s.t⟩,SE)else(s,WT))else(s,cX)):=by rw[zy];rfl
 rw[h4]at M ⊢;clear zy hX qa h4 n
 go_enter Tryz.func14,Tryz.ntmps14
 go_wp2_with fail
 refine(bW [xw,yw] (some ⟨bl,Z+2,none⟩) (zb-2) w xr (by simp)).mono ?_;rintro e w1 ⟨⟨v1,rfl,qb⟩,Q⟩;have yn:=aG qb;have xg:=aG Q
 replace G:=(Q.cell (aA G)).trans G
 replace hS:=hS.zL Q
 clear qb Q xr
 cases zc:jG [xw,yw]with
 |false=>
  have HR:Hid (fT s ws.tail=(s,cX)):=by rw[Hid,zd.oQ,zc];rfl
  clear zc yn zd;go_wp2
  go_ret;exact⟨⟨_,_,_,by rw[HR.oQ];exact hS⟩,by rw[HR.oQ];rfl,aT.below xg.oQ⟩
 |true=>
  obtain⟨a2',c2,rfl,qp⟩:=yn.oQ zc
  rcases qp with h|⟨g,oo,rfl,ys⟩
  ·simp[aS]at h
  have i0:w1.cell? ⟨g,oo,none⟩=some (.int .i64 (aV xw)):=by have:=ys 0 (by simp[aS]) 0 _ rfl;simpa[aS]using this
  have i1:w1.cell? ⟨g,oo+1,none⟩=some (.int .i64 (aV yw)):=by have:=ys 1 (by simp[aS]) 0 _ rfl;simpa[aS]using this
  have e5:(aS [xw,yw]).length=2:=rfl;rw[e5];obtain⟨y,hy⟩:=bP (⟨nm,aV xw,aV yw⟩:Fx);have xe:Hid (fT s ws.tail=if aN (gH s.b y)then(⟨gH s.b y,s.t⟩,SE)else(s,WT)):=by rw[Hid,zd.oQ,zc,hy];rfl
  have qk:Hid (y.n.size<=9223372036854775807):=by rw[Hid,hy];show nm.size<=_;omega
  replace G:w1.cell? ⟨bl,Z+1,none⟩=some (.string y.n):=by rw[hy];exact G
  replace i0:w1.cell? ⟨g,oo,none⟩=some (.int .i64 y.x):=by rw[hy];exact i0
  replace i1:w1.cell? ⟨g,oo+1,none⟩=some (.int .i64 y.y):=by rw[hy];exact i1
  have E:=hS.b.asks xv.b;obtain⟨c0,c1,ql,c3⟩:=hS.c;have zu:b.fl.length<=4:=(EN (hS.b.book.trans xv.b)).1;clear hy e5 ys yn zd zc qo;go_wp2_with fail
  refine(jV b w1 E.hf E.hnf E.hh E.hnh E.hgood).mono ?_;rintro e w2 ⟨⟨c,rfl,xt,yb,zf,zj⟩,H⟩;have yl:Hid (KE s.b.now s.b.fl s.b.hl c):=⟨xt.trans hS.b.c.now,yb.trans hS.b.c.fl,hS.b.c.lk.trans zf⟩;have xf:Hid (∀f∈c.fl,f.n.size<=9223372036854775807):=by rw[Hid,yb];exact E.hs
  have qf:Hid (c.hl.length<=1048576):=by rw[Hid,zf.len];exact E.hnh
  have qe:Hid (∀x∈c.hl,x.Fit):=zf.fit (λx hx=>(E.hgood x hx).2);have hcl4:c.fl.length<=4:=by rw[yb];exact zu
  have xi:=aG (aC xg.oQ H)
  replace G:=(H.cell (aA G)).trans G
  replace i0:=(H.cell (aA i0)).trans i0
  replace i1:=(H.cell (aA i1)).trans i1
  have qm:D<w1.heap.size:=gT hS.o
  replace hS:=hS.zL H
  have za:Hid (aF w2 (w2.alloc c.obj)):=aB (br _ _) _;have zz:=wnq w2 c.obj
  replace G:=(za.oQ.cell (aA G)).trans G
  replace i0:=(za.oQ.cell (aA i0)).trans i0
  replace i1:=(za.oQ.cell (aA i1)).trans i1
  have xd:=aG (zj.zL za.oQ);have hs12:=H.size;have xz:=za.oQ.size;have hO:=(zj.zL za.oQ).f;obtain⟨A,yp⟩:=bP w2.heap.size;have hA2:w2.heap.size<=A:=by omega
  rw[←yp]at zz;obtain⟨W2,xo⟩:=cK (w2.alloc c.obj);rw[xo]at zz G i0 i1 za xd hO xz;have xc:=aG zz;clear xt yb zf E H c0 c1 ql c3 zu zj zz
  go_upto_block 0 with fail
  rw[←yp];clear xo yp
  go_cut [8] (λiv wx=>∃k:Nat,k<=c.fl.length/\iv=.int .i64 (k:Int)/\aF W2 wx/\oJ c.fl y.n=k)
  case first=>
   go_wp2_with fail
   go_loopw [8] (λiv wr=>∃k:Nat,k<=c.fl.length/\iv=.int .i64 (k:Int)/\aF W2 wr/\Hid (∀j (h:j<c.fl.length),j<k->fY c.fl[j].n y.n=true)) (λiv _=>c.fl.length-(intOf iv).toNat)
   case atStart=>exact⟨0,nz _,rfl,br _ _,λj h S=>by omega⟩
   case round=>
    obtain⟨k,hk,rfl,hB,zl⟩:=hrel;have HB:=aG hB;have a2:wr.cell? ⟨A,1,none⟩=some (.slice c.fa c.fl.length c.fc):=aJ (bJ xc.oQ hB) rfl;have q1:=(hB.cell (aA G)).trans G
    by_cases yd:k<c.fl.length
    ·obtain⟨g',ha,yt,I⟩:∃g,c.fa=some ⟨g,0,none⟩/\c.fl.length<=c.fc/\fP 74 3 Fx.cells W2 g c.fc c.fl c.fl.length:=by
      rcases hO with⟨_,e⟩|⟨g,zb,e,_,h2,h3⟩
      ·rw[e]at yd;simp at yd
      ·simp only[Value.slice.injEq]at e
       obtain⟨G,_,rfl⟩:=e;exact⟨g,G,h2,h3⟩
     have c0:=YC (I.xs' Fx.cells_length (nlq _) yt k yd);rw[Nat.zero_add]at c0;have c0:=(hB.cell (aA c0)).trans c0;rw[ha]at a2;obtain⟨x,hx⟩:=bP (c.fl[k]);rw[←hx]at c0;have xj:=aG hx;clear hx ha I hO hB
     cases hq:fY x.n y.n with
     |true=>
      have qg:Hid (∀j (h:j<c.fl.length),j<k+1->fY c.fl[j].n y.n=true):=λj h S=>by
       by_cases e:j=k
       ·subst e;rw[←xj.oQ];exact hq
       ·exact zl.out j h (by omega)
      clear zl;unfold fY at hq;go_wp2_with fail
      go_quiet (fail)
      go_wp2
      go_roundw
      case rel=>exact⟨k+1,by omega,by go_num,(below_drewN HB.oQ _),qg⟩
      case measure=>simp[intOf];omega
     |false=>
      have zm:Hid (oJ c.fl y.n=k):=yN hk zl.out (λh=>by have e:=xj.oQ;rw[←e];exact hq);clear zl;unfold fY at hq;go_wp2_with fail
      go_quiet (fail)
      go_wp2
      all_goals go_meet
      all_goals exact⟨k,hk,rfl,(below_drewN HB.oQ _),zm.oQ⟩
    ·have zm:Hid (oJ c.fl y.n=k):=yN hk zl.out (λh=>absurd h yd)
     clear zl hO hB;go_wp2_with fail
     go_quiet (fail)
     go_wp2
     all_goals go_meet
     all_goals exact⟨k,hk,rfl,(below_drewN HB.oQ _),zm.oQ⟩
  case rest=>
   obtain⟨k,hk,rfl,hB,xy⟩:=hcut
   have ym:Hid (gU c.fl y=c.fl.take k++y::c.fl.drop k):=by
    show gU c.fl y=_
    unfold gU;rw[xy]
   obtain⟨J,zh⟩:∃J:Option Addr,(c.fa=none/\c.fl=[]/\c.fc=0/\J=none/\k=0)∨∃g,c.fa=some ⟨g,0,none⟩/\c.fl.length<=c.fc/\fP 74 3 Fx.cells W2 g c.fc c.fl c.fl.length/\((k<c.fc/\J=some ⟨g,k*3,none⟩)∨(¬k<c.fc/\J=some ⟨g,0,none⟩)):=by
    rcases hO with⟨e,zk⟩|⟨g,zb,e,_,M,I⟩
    ·simp only[Value.slice.injEq]at e
     exact⟨none,.inl ⟨e.1,zk,e.2.2,rfl,by rw[zk]at hk;simpa using hk⟩⟩
    ·simp only[Value.slice.injEq]at e
     obtain⟨G,_,rfl⟩:=e
     by_cases zw:k<c.fc
     ·exact⟨_,.inr ⟨g,G,M,I,.inl ⟨zw,rfl⟩⟩⟩
     ·exact⟨_,.inr ⟨g,G,M,I,.inr ⟨zw,rfl⟩⟩⟩
   have HA:Hid _:=zh
   have HN:Hid (c.fa=none->k=0):=λe=>by
    rcases zh with h|⟨g,O,_⟩
    ·exact h.2.2.2.2
    ·rw[e]at O;cases O
   have qh:Hid (J=none->c.fl=[]/\c.fc=0/\k=0):=λe=>by
    rcases zh with h|⟨g,_,_,_,⟨_,W⟩|⟨_,W⟩⟩
    ·exact⟨h.2.1,h.2.2.1,h.2.2.2.2⟩
    ·rw[e]at W;cases W
    ·rw[e]at W;cases W
   have Nd:aF W2 wc.drew:=hB.drew;obtain⟨Wd,xp⟩:=cK wc.drew;rw[xp]at Nd;have zg:=aG (bJ xc.oQ Nd);have a2:Wd.cell? ⟨A,1,none⟩=some (.slice c.fa c.fl.length c.fc):=aJ zg.oQ rfl
   replace G:=(Nd.cell (aA G)).trans G
   replace i0:=(Nd.cell (aA i0)).trans i0
   replace i1:=(Nd.cell (aA i1)).trans i1
   have hAw:A<Wd.heap.size:=gT zg.oQ
   have qj:Hid (∀ad,c.fa=some ad->∀w',aF Wd w'->∀j u,(aI Fx.cells (c.fl.take k))[j]?=some u->w'.cell? (ad.add j)=some u):=λad e w' h=>by
    rcases zh with⟨O,_⟩|⟨g,O,M,I,_⟩
    ·rw[O]at e;cases e
    ·rw[O]at e;cases e
     exact RH I M (aC Nd h)
   have qd:Hid (∀ad,J=some ad->∀w',aF Wd w'->∀j u,(aI Fx.cells (c.fl.drop k))[j]?=some u->w'.cell? (ad.add j)=some u):=λad e w' h j u S=>by
    rcases zh with⟨_,_,_,W,_⟩|⟨g,_,M,I,⟨_,W⟩|⟨zw,W⟩⟩
    ·rw[W]at e;cases e
    ·rw[W]at e;cases e
     exact QH I M (aC Nd h) j u S
    ·rw[List.drop_of_length_le (by omega)]at S;simp[aI]at S
   clear hB zh hO xy;go_wp2_with fail
   refine wpIn_wide.1 (gP (F:=Fence.wide) (n:=0) (by kernel_rfl) [some 41,some 42,some 43,some 44,some 45,some 46,some 47,some 48,some 49,some 50,some 51,some 52,some 53,some 54,some 55,some 56,some 57,some 58,some 59,some 60,some 61,some 62,some 63,some 64] (KF Wd A k c.fl y (.slice c.fa c.fl.length c.fc) (.slice c.fa k c.fc) (.slice J (c.fl.length-k) (c.fc-k)) (.slice (some ⟨bl,Z,none⟩) 4 zb) (.pointer (some ⟨bl,Z+1,none⟩)) (.slice (some ⟨g,oo,none⟩) 2 c2) (.pointer (some ⟨g,oo,none⟩)) (.pointer (some ⟨g,oo+1,none⟩))) (by kernel_rfl) ?h0 KF.ext ?step ?fin)
   case h0=>
    exact⟨λ_ _ _ h=>h.elim,λh=>h.elim,λh=>h.elim,λh=>h.elim,λh=>h.elim,λh=>h.elim,λh=>h.elim,λ_=>by rw[xp];exact br _ _⟩
   case step=>
    intro L ii o vs w' B r C z hK;have hi:ii<25:=(lgs.1 B).1;have m:=aG hK;clear hK
    match ii,hi with
    |0,_=>
     simp at B;subst B;have d:¬L 24:=λh=>r (z 24 _ h rfl (eP 0) (by simp) rfl);have l:=m.oQ.bw d;have Q:aF w' (w'.alloc (.cells #[] 74)):=aB (br _ _) _;have P:Hid _:=(m.oQ.zL d Q).add0 ⟨w'.heap.size,rfl,l.size,wnq w' _⟩;clear Q;simp only[aE,Act.put];gi_wp2;exact⟨_,by simp[aH],P.oQ⟩
    |1,_=>
     simp at B;subst B;have d:¬L 24:=λh=>r (z 24 _ h rfl (eP 1) (by simp) rfl);have l:=m.oQ.bw d;simp only[aE,Act.put];gi_wp2;exact⟨.pointer (some ⟨A,1,none⟩),by simp[aH],m.oQ.addc 1 rfl⟩
    |2,_=>
     simp at B;subst B;have d:¬L 24:=λh=>r (z 24 _ h rfl (eP 2) (by simp) rfl);have l:=m.oQ.bw d;have d1:=m.oQ.c 1 _ rfl (Zq C 1);have k2:=(l.cell (aA a2)).trans a2;simp only[aE,Act.put];rw[d1];gi_wp2;exact⟨.slice c.fa c.fl.length c.fc,by simp[aH,d1],m.oQ.addc 2 rfl⟩
    |3,_=>
     simp at B;subst B;have d:¬L 24:=λh=>r (z 24 _ h rfl (eP 3) (by simp) rfl);have l:=m.oQ.bw d;simp only[aE,Act.put];gi_wp2;exact⟨.int .i64 ((k:Nat):Int),by simp[aH],m.oQ.addc 3 rfl⟩
    |4,_=>
     simp at B;subst B;have d:¬L 24:=λh=>r (z 24 _ h rfl (eP 4) (by simp) rfl);have l:=m.oQ.bw d;have d2:=m.oQ.c 2 _ rfl (Zq C 2);have d3:=m.oQ.c 3 _ rfl (Zq C 3);have P:Hid _:=m.oQ.addc 4 (v:=.slice c.fa k c.fc) rfl
     rcases HA.oQ with⟨O,G,e2,-,rfl⟩|⟨g,O,G,-,-⟩
     ·have d2:vs 2=.slice none 0 0:=by rw[d2,O,G,e2];rfl
      have E0:Hid (c.fa=none/\c.fc=0):=⟨O,e2⟩;clear O G e2;simp only[aE,Act.put];rw[d2,d3];gi_wp2;exact⟨.slice c.fa 0 c.fc,by simp[aH,d2,d3,E0.out],P.oQ⟩
     ·have d2:vs 2=.slice (some ⟨g,0,none⟩) c.fl.length c.fc:=by rw[d2,O]
      have E0:Hid _:=O;clear O;simp only[aE,Act.put];rw[d2,d3];gi_wp2;exact⟨.slice c.fa k c.fc,by simp[aH,d2,d3,E0.out],P.oQ⟩
    |5,_=>
     simp at B;subst B;have d:¬L 24:=λh=>r (z 24 _ h rfl (eP 5) (by simp) rfl);have l:=m.oQ.bw d;have d4:=m.oQ.c 4 _ rfl (Zq C 4);obtain⟨p,d0,zc,xx⟩:=m.oQ.v0 (Zq C 0);have hp:=xx r;simp only[aE,Act.put,List.setIfInBounds_toArray,List.set_cons_succ,List.set_cons_zero];rw[d0,d4];refine lD w' rfl (.tmp 41) (.tmp 45) 27 rfl 74 jf _ 3 32 Tryz.underlying27 yv yz xa xb rfl (by decide) p rfl hp c.fa k c.fc (aI Fx.cells (c.fl.take k)) rfl HN.oQ (by rw[cG Fx.cells_length,List.length_take];congr 1;omega) (λad e j u S=>qj.oQ ad e w' l j u S) (iB nQ _) (by unfold maxLen;omega) (by omega) Wd.heap.size zc (λv' w2 N H=>?_);have P:Hid _:=(m.oQ.zL d H).add5 N;clear N H hp xx;gi_wp2;exact⟨_,by simp[aH,d0,d4],P.oQ⟩
    |6,_=>
     simp at B;subst B;have d:¬L 24:=λh=>r (z 24 _ h rfl (eP 6) (by simp) rfl);have l:=m.oQ.bw d;simp only[aE,Act.put];gi_wp2;exact⟨.slice (some ⟨bl,Z,none⟩) 4 zb,by simp[aH],m.oQ.addc 6 rfl⟩
    |7,_=>
     simp at B;subst B;have d:¬L 24:=λh=>r (z 24 _ h rfl (eP 7) (by simp) rfl);have l:=m.oQ.bw d;have d6:=m.oQ.c 6 _ rfl (Zq C 6);simp only[aE,Act.put];rw[d6];gi_wp2;exact⟨.pointer (some ⟨bl,Z+1,none⟩),by simp[aH,d6],m.oQ.addc 7 rfl⟩
    |8,_=>
     simp at B;subst B;have d:¬L 24:=λh=>r (z 24 _ h rfl (eP 8) (by simp) rfl);have l:=m.oQ.bw d;have d7:=m.oQ.c 7 _ rfl (Zq C 7);have ke1:=(l.cell (aA G)).trans G;simp only[aE,Act.put];rw[d7];gi_wp2;exact⟨.string y.n,by simp[aH,d7],m.oQ.addc 8 rfl⟩
    |9,_=>
     simp at B;subst B;have d:¬L 24:=λh=>r (z 24 _ h rfl (eP 9) (by simp) rfl);have l:=m.oQ.bw d;simp only[aE,Act.put];gi_wp2;exact⟨.slice (some ⟨g,oo,none⟩) 2 c2,by simp[aH],m.oQ.addc 9 rfl⟩
    |10,_=>
     simp at B;subst B;have d:¬L 24:=λh=>r (z 24 _ h rfl (eP 10) (by simp) rfl);have l:=m.oQ.bw d;have d9:=m.oQ.c 9 _ rfl (Zq C 9);simp only[aE,Act.put];rw[d9];gi_wp2;exact⟨.pointer (some ⟨g,oo,none⟩),by simp[aH,d9],m.oQ.addc 10 rfl⟩
    |11,_=>
     simp at B;subst B;have d:¬L 24:=λh=>r (z 24 _ h rfl (eP 11) (by simp) rfl);have l:=m.oQ.bw d;have K:=m.oQ.c 10 _ rfl (Zq C 10);have ki0:=(l.cell (aA i0)).trans i0;simp only[aE,Act.put];rw[K];gi_wp2;exact⟨.int .i64 y.x,by simp[aH,K],m.oQ.addc 11 rfl⟩
    |12,_=>
     simp at B;subst B;have d:¬L 24:=λh=>r (z 24 _ h rfl (eP 12) (by simp) rfl);have l:=m.oQ.bw d;simp only[aE,Act.put];gi_wp2;exact⟨.slice (some ⟨g,oo,none⟩) 2 c2,by simp[aH],m.oQ.addc 12 rfl⟩
    |13,_=>
     simp at B;subst B;have d:¬L 24:=λh=>r (z 24 _ h rfl (eP 13) (by simp) rfl);have l:=m.oQ.bw d;have U:=m.oQ.c 12 _ rfl (Zq C 12);simp only[aE,Act.put];rw[U];gi_wp2;exact⟨.pointer (some ⟨g,oo+1,none⟩),by simp[aH,U],m.oQ.addc 13 rfl⟩
    |14,_=>
     simp at B;subst B;have d:¬L 24:=λh=>r (z 24 _ h rfl (eP 14) (by simp) rfl);have l:=m.oQ.bw d;have xk:=m.oQ.c 13 _ rfl (Zq C 13);have ki1:=(l.cell (aA i1)).trans i1;simp only[aE,Act.put];rw[xk];gi_wp2;exact⟨.int .i64 y.y,by simp[aH,xk],m.oQ.addc 14 rfl⟩
    |15,_=>
     simp at B;subst B;have d:¬L 24:=λh=>r (z 24 _ h rfl (eP 15) (by simp) rfl);have l:=m.oQ.bw d;have d8:=m.oQ.c 8 _ rfl (Zq C 8);have T:=m.oQ.c 11 _ rfl (Zq C 11);have zn:=m.oQ.c 14 _ rfl (Zq C 14);simp only[aE,Act.put];rw[d8,T,zn];gi_wp2;exact⟨y.val,by simp[aH,d8,T,zn],m.oQ.addc 15 rfl⟩
    |16,_=>
     simp at B;subst B;have d:¬L 24:=λh=>r (z 24 _ h rfl (eP 16) (by simp) rfl);have l:=m.oQ.bw d;have d6:=m.oQ.c 15 _ rfl (Zq C 15);have Q:aF w' (w'.alloc (.cells #[.string y.n,.int .i64 y.x,.int .i64 y.y] 74)):=aB (br _ _) _;have P:Hid _:=(m.oQ.zL d Q).add7 ⟨w'.heap.size,rfl,wnq w' _⟩;clear Q;simp only[aE,Act.put];rw[d6];gi_wp2;exact⟨_,by simp[aH,d6],P.oQ⟩
    |17,_=>
     simp at B;subst B;have d:¬L 24:=λh=>r (z 24 _ h rfl (eP 17) (by simp) rfl);have l:=m.oQ.bw d;have h5:L 5:=Zq C 5;have zp:¬L 22:=λh=>r (z 22 _ h rfl (eD 17) (by simp) rfl);have ye:=m.oQ.v5 h5 r;obtain⟨V,d7,xn⟩:=m.oQ.v7 (Zq C 16);have hV:=xn r;obtain⟨u5,e5⟩:∃u,vs 5=u:=⟨_,rfl⟩;rw[e5]at ye;simp only[aE,Act.put,List.setIfInBounds_toArray,List.set_cons_succ,List.set_cons_zero];rw[d7,e5]
     refine wpListIn_append_own w' rfl (.tmp 46) (.tmp 57) 27 rfl Wd.heap.size 74 jf _ 3 32 Tryz.underlying27 yv yz xa xb rfl (by decide) u5 k (aI Fx.cells (c.fl.take k)) rfl ye ⟨V,0,none⟩ 1 1 y.cells rfl (by simp[Fx.cells]) (λj u S=>by
      rw[Addr.add_lit,Nat.zero_add]
      match j,S with
      |0,S=>simp[Fx.cells]at S;subst S;exact aJ hV rfl
      |1,S=>simp[Fx.cells]at S;subst S;exact aJ hV rfl
      |2,S=>simp[Fx.cells]at S;subst S;exact aJ hV rfl) (nQ y) (by unfold maxLen;omega) (by omega) l.size (λv' w2 N zv _=>?_)
     have H:aF Wd w2:=l.grown zv l.size (λq hq=>fB ye hq);have P:Hid _:=m.oQ.add8 h5 zp d N H;clear N zv ye hV xn;gi_wp2;exact⟨_,by simp[aH,d7,e5],P.oQ⟩
    |18,_=>
     simp at B;subst B;have d:¬L 24:=λh=>r (z 24 _ h rfl (eP 18) (by simp) rfl);have l:=m.oQ.bw d;simp only[aE,Act.put];gi_wp2;exact⟨.pointer (some ⟨A,1,none⟩),by simp[aH],m.oQ.addc 18 rfl⟩
    |19,_=>
     simp at B;subst B;have d:¬L 24:=λh=>r (z 24 _ h rfl (eP 19) (by simp) rfl);have l:=m.oQ.bw d;have d9:=m.oQ.c 18 _ rfl (Zq C 18);have k2:=(l.cell (aA a2)).trans a2;simp only[aE,Act.put];rw[d9];gi_wp2;exact⟨.slice c.fa c.fl.length c.fc,by simp[aH,d9],m.oQ.addc 19 rfl⟩
    |20,_=>
     simp at B;subst B;have d:¬L 24:=λh=>r (z 24 _ h rfl (eP 20) (by simp) rfl);have l:=m.oQ.bw d;simp only[aE,Act.put];gi_wp2;exact⟨.int .i64 ((k:Nat):Int),by simp[aH],m.oQ.addc 20 rfl⟩
    |21,_=>
     simp at B;subst B;have d:¬L 24:=λh=>r (z 24 _ h rfl (eP 21) (by simp) rfl);have l:=m.oQ.bw d;have K:=m.oQ.c 19 _ rfl (Zq C 19);have T:=m.oQ.c 20 _ rfl (Zq C 20);have P:Hid _:=m.oQ.addc 21 (v:=.slice J (c.fl.length-k) (c.fc-k)) rfl
     rcases HA.oQ with⟨O,G,e2,W,rfl⟩|⟨g,O,G,-,h3⟩
     ·have K:vs 19=.slice none 0 0:=by rw[K,O,G,e2];rfl
      have E0:Hid (c.fl=[]/\c.fc=0/\J=none):=⟨G,e2,W⟩;clear O G e2 W;simp only[aE,Act.put];rw[K,T];gi_wp2;exact⟨.slice J (c.fl.length-0) (c.fc-0),by simp[aH,K,T,E0.out],P.oQ⟩
     ·have K:vs 19=.slice (some ⟨g,0,none⟩) c.fl.length c.fc:=by rw[K,O]
      clear O
      rcases h3 with⟨zw,W⟩|⟨zw,W⟩
      ·have E3:Hid _:=W
       clear W;simp only[aE,Act.put];rw[K,T];gi_wp2;exact⟨.slice J (c.fl.length-k) (c.fc-k),by simp[aH,K,T,E3.out],P.oQ⟩
      ·have xu:c.fc-k=0:=by omega
       have E3:Hid _:=W;clear W;simp only[aE,Act.put];rw[K,T];gi_wp2;exact⟨.slice J (c.fl.length-k) (c.fc-k),by simp[aH,K,T,E3.out,xu];omega,by have h:=P.oQ;have e:c.fc=k:=(by omega);simp only[e,Nat.sub_self]at h ⊢;exact h⟩
    |22,_=>
     simp at B;subst B;have d:¬L 24:=λh=>r (z 24 _ h rfl (eP 22) (by simp) rfl);have l:=m.oQ.bw d;have U:=m.oQ.c 21 _ rfl (Zq C 21);have h8:L 17:=Zq C 17;have h5:L 5:=z 17 _ h8 rfl (eD 5) (by simp) rfl;have Y:=m.oQ.v8 h8 r;obtain⟨u8,e8⟩:∃u,vs 17=u:=⟨_,rfl⟩
     cases J with
     |none=>
      obtain⟨zk,xs,yc⟩:=qh.oQ rfl
      obtain⟨g8,R,e9,hc8⟩:∃g8 R,vs 17=.slice (some ⟨g8,0,none⟩) 1 R/\1<=R:=by
       rw[yc]at Y;obtain⟨_,⟨_,e⟩|⟨g8,R,_,e,_,_,qn,_⟩⟩:=Y
       ·omega
       ·exact⟨g8,R,e,qn⟩
      have P:Hid _:=m.oQ.add13 (v:=vs 17) h5 h8 d (by rw[zk,yc]at Y ⊢;simpa[aI]using Y) l;have U:vs 21=.slice none 0 0:=by rw[U,zk,xs,yc];rfl
      clear Y zk xs yc;simp only[aE,Act.put];rw[U,e9];gi_wp2;exact⟨vs 17,by simp[aH,U,e9],P.oQ⟩
     |some ad=>
      rw[e8]at Y;simp only[aE,Act.put,List.setIfInBounds_toArray,List.set_cons_succ,List.set_cons_zero];rw[U,e8];refine wpListIn_append_own w' rfl (.tmp 58) (.tmp 62) 27 rfl Wd.heap.size 74 jf _ 3 32 Tryz.underlying27 yv yz xa xb rfl (by decide) u8 (k+1) (aI Fx.cells (c.fl.take k)++y.cells) rfl Y ad (c.fl.length-k) (c.fc-k) (aI Fx.cells (c.fl.drop k)) rfl (by rw[cG Fx.cells_length,List.length_drop]) (λj u S=>qd.oQ ad rfl w' l j u S) (iB nQ _) (by unfold maxLen;omega) (by omega) l.size (λv' w2 N zv _=>?_);have H:aF Wd w2:=l.grown zv l.size (λq hq=>fB Y hq);have zx:w2.ownsRow Wd.heap.size 74 3 v' (c.fl.length+1) (aI Fx.cells (c.fl.take k)++y.cells++aI Fx.cells (c.fl.drop k)):=by rw[show c.fl.length+1=k+1+(c.fl.length-k)by omega];exact N
      have P:Hid _:=m.oQ.add13 h5 h8 d zx H;clear N zx zv Y;gi_wp2;exact⟨_,by simp[aH,U,e8],P.oQ⟩
    |23,_=>
     simp at B;subst B;have d:¬L 24:=λh=>r (z 24 _ h rfl (eD 23) (by simp) rfl);have l:=m.oQ.bw d;simp only[aE,Act.put];gi_wp2;exact⟨.pointer (some ⟨A,1,none⟩),by simp[aH],m.oQ.addc 23 rfl⟩
    |24,_=>
     simp at B;subst B;have zn:=m.oQ.c 23 _ rfl (Zq C 23);have l:=m.oQ.bw r;have zp:L 22:=Zq C 22;have h8:L 17:=z 22 _ zp rfl (eD 17) (by simp) rfl;have h5:L 5:=z 17 _ h8 rfl (eD 5) (by simp) rfl;have yj:=m.oQ.v13 zp r
     obtain⟨a8,c8,zo⟩:∃a cq,vs 22=.slice a (c.fl.length+1) cq:=by
      obtain⟨_,⟨_,e⟩|⟨g8,R,_,e,_⟩⟩:=yj
      ·omega
      ·exact⟨_,_,e⟩
     have k2:=(l.cell (aA a2)).trans a2;have kf:∀i,w'.frozen? ⟨A,i,none⟩=false:=λi=>by simp[World.frozen?,bJ zg.oQ l]
     have P:Hid _:=m.oQ.add15 (v:=undef) h5 h8 zp r;rw[zo]at P;simp only[aE,Act.put];rw[zn,zo];clear yj;gi_wp2_with fail
     exact⟨undef,by simp[aH,zn,zo],by have h:=P.oQ;simpa using h⟩
    |q+25,h=>exact absurd h (by omega)
   case fin=>
    intro L vs w' xl hK;obtain⟨w9,zt,yx,yy⟩:=hK.w15 (xl 24 (by decide));have yu:=lI yx
    have zr:bQ 74 3 Fx.cells w9 Wd.heap.size (vs 22) (c.fl.take k++y::c.fl.drop k):=iY Fx.cells_length (by
     rw[show(c.fl.take k++y::c.fl.drop k).length=c.fl.length+1 by simp;omega];have e:aI Fx.cells (c.fl.take k++y::c.fl.drop k)=aI Fx.cells (c.fl.take k)++y.cells++aI Fx.cells (c.fl.drop k):=by simp[aI]
     rw[e];exact yx)
    rw[←ym.oQ]at zr;obtain⟨a',c',zo⟩:=zr.slice;rw[zo]at zr yy yu;rw[yy];clear yy yx xl hK;simp only[aE,Act.put];generalize vs=vs;have A9:=aO (bJ zg.oQ zt) 1 (.slice a' (gU c.fl y).length c');have bA:aT (λq=>q=A) w9 (w9.setCell ⟨A,1,none⟩ (.slice a' (gU c.fl y).length c')):=(aT.refl (λq=>q=A) w9).set (g:=A) rfl _ _;have yq:=aC Nd zt
    have ze:eF w1.heap.size (w9.setCell ⟨A,1,none⟩ (.slice a' (gU c.fl y).length c')) ⟨c.now,a',gU c.fl y,c',c.ha,c.hl,c.hc⟩:=by
     have h1:=(xd.oQ.zL yq).butT bA (bJ zg.oQ zt) (by decide) (by decide) (by decide)
     have h2:=(zr.weak (base':=w1.heap.size) (by have:=Nd.size;omega)).butRow bA (λq n f _ hr e=>by
      have e':q=A:=e;subst e';obtain⟨cs,zj,_⟩:=hr;rw[bJ zg.oQ zt]at zj
      simp[Bk.obj]at zj)
     exact⟨h2,h1.h,h1.t,yu⟩
    have ya:aF w2 (w9.setCell ⟨A,1,none⟩ (.slice a' (gU c.fl y).length c')):=((Below.trans za.oQ (yq.mono (by omega))).setCell (p:=⟨A,1,none⟩) (by show w2.heap.size<=A;omega) _);obtain⟨Wf,xq⟩:=cK (w9.setCell ⟨A,1,none⟩ (.slice a' (gU c.fl y).length c'));rw[xq]at A9 ze ya ⊢;have xm:=hS.zL ya;have yh:KE (gH s.b y).now (gH s.b y).fl (gH s.b y).hl ⟨c.now,a',gU c.fl y,c',c.ha,c.hl,c.hc⟩:=⟨yl.oQ.now,by show gU c.fl y=gU s.b.fl y;rw[yl.oQ.fl],yl.oQ.lk⟩;have X:dZ (λk=>k=D) Wf (gH s.b y) ⟨c.now,a',gU c.fl y,c',c.ha,c.hl,c.hc⟩:=ze.at (λk e=>by rw[e];exact qm) yh;have yr:aN (⟨c.now,a',gU c.fl y,c',c.ha,c.hl,c.hc⟩:Bk)=aN (gH s.b y):=X.book;have yi:(gU c.fl y).length<=1048576:=by rw[ym.oQ];simp;omega
    have E:iW Wf ⟨c.now,a',gU c.fl y,c',c.ha,c.hl,c.hc⟩:=⟨X.inn.f,yi,X.f1,X.f2,λf hf=>by
     rw[show(⟨c.now,a',gU c.fl y,c',c.ha,c.hl,c.hc⟩:Bk).fl=gU c.fl y from rfl,ym.oQ]at hf
     rcases lma.1 hf with h|h
     ·exact xf.oQ f (List.mem_of_mem_take h)
     ·rcases List.mem_cons.1 h with rfl|h
      ·exact qk.oQ
      ·exact xf.oQ f (List.mem_of_mem_drop h),X.inn.h,qf.oQ,λx hx=>⟨X.inn.i x hx,qe.oQ x hx⟩⟩
    have O:Wf.cell? ⟨A,0,none⟩=some (.int .i64 c.now):=aJ A9 rfl;have yo:Wf.cell? ⟨A,1,none⟩=some (.slice a' (gU c.fl y).length c'):=aJ A9 rfl;have e2:Wf.cell? ⟨A,2,none⟩=some (.slice c.ha c.hl.length c.hc):=aJ A9 rfl;obtain⟨cc,zi⟩:=bP (⟨c.now,a',gU c.fl y,c',c.ha,c.hl,c.hc⟩:Bk);rw[←zi]at ze X yr E
    replace O:Wf.cell? ⟨A,0,none⟩=some (.int .i64 cc.now):=by rw[zi];exact O
    replace yo:Wf.cell? ⟨A,1,none⟩=some (.slice cc.fa cc.fl.length cc.fc):=by rw[zi];exact yo
    replace e2:Wf.cell? ⟨A,2,none⟩=some (.slice cc.ha cc.hl.length cc.hc):=by rw[zi];exact e2
    have yk:Hid (Wf.heap[A]?=some cc.obj):=by rw[Hid,zi];exact A9
    clear zi yh A9 bA zr ze zt xq yq yu yi;go_wp2_with fail
    refine(sK E _ yr).mono ?_;rintro e w3 ⟨rfl,zs⟩;have zq:=xm.zL zs;have yg:=X.zL zs;have xh:=aG (aC (xi.oQ.trans (ya.mono xi.oQ.size)) zs);have A3:=bJ yk.oQ zs;clear xm X E zs ya O yo e2 yr
    cases hq:aN (gH s.b y)with
    |false=>
     have HR:Hid (fT s ws.tail=(s,WT)):=by rw[Hid,xe.oQ,hq];rfl
     clear hq A3 yk;go_wp2
     go_ret;exact⟨⟨_,_,_,by rw[HR.oQ];exact zq⟩,by rw[HR.oQ];rfl,aT.below xh.oQ⟩
    |true=>
     have HR:Hid (fT s ws.tail=(⟨gH s.b y,s.t⟩,SE)):=by rw[Hid,xe.oQ,hq];rfl
     have qi:=aG (zq.put yg);have qc:=aG ((aT.below xh.oQ).trans (dC w3 D cc));obtain⟨y0,y1,y2,y3⟩:=zq.c;have yf:=zq.fz;obtain⟨u0,u1,u2⟩:=aM A3;clear hq A3 yk zq yg;go_wp2
     go_ret;exact⟨⟨_,_,_,by rw[HR.oQ];exact qi.oQ⟩,by rw[HR.oQ];rfl,qc.oQ⟩
end Go.Proofs.YtcdbcliaepcpfaaGreatDoor
namespace Go.Proofs.YtcdbcliaepcpfaaGreatDoor
set_option maxRecDepth 100000
set_option maxHeartbeats 8000000
open Go.RowKit Go.BigFrame
theorem SO (D:Nat) (w:World) (s:St) (b:Bk) (ta:Option Addr) (F A:Nat) (j:nU D w s b ta F) (z:iP A s) (_hkk:A<=1000) (n:ByteArray) (a:List ByteArray) (l f c:Nat) (q:Xs 1 dS w (some ⟨l,f,none⟩) (n::a)) (hcap:a.length+1<=c) (hlen:a.length+1<=1048570) (hsz:∀x∈n::a,x.size<=1048575) (E:n.toList=tZ):
 aY 7 #[.pointer (some ⟨D,0,none⟩),.slice (some ⟨l,f,none⟩) (a.length+1) c] w λe w'=>OP D w (aX s (n::a)) e w':=by
 have p:=gO q 0 n rfl;rw[Nat.add_zero]at p;have o:Xs 1 dS w (some ⟨l,f+1,none⟩) a:=i7 q 1 [n] _ [] (by simp) rfl;go_enter Tryz.func7,Tryz.ntmps7;go_upto_region 1 with fail;go_cut [5,6] (λJ K G=>K=.bool (jG a)/\Hid (jG a=true->∃B H,J=.slice B (aS a).length H/\Xs 1 eW G B (aS a))/\aF w G)
 case first=>
  by_cases y:c=1
  ·have ha:a=[]:=List.eq_nil_of_length_eq_zero (by omega);subst ha;subst y;go_wp2_with fail;refine(bW [] (some ⟨l,f,none⟩) 0 w (.inl rfl) (by simp)).mono ?_;rintro e L ⟨⟨I,rfl,d⟩,h⟩;have g:=aG d;clear d;go_wp2;go_meet;exact⟨rfl,g,h⟩
  ·have hc2:1<c:=by omega
   go_wp2_with fail;refine(bW a (some ⟨l,f+1,none⟩) (c-1) w o (by omega)).mono ?_;rintro e L ⟨⟨I,rfl,d⟩,h⟩;have g:=aG d;clear d;go_wp2;go_meet;exact⟨rfl,g,h⟩
 case rest=>
  obtain⟨rfl,HV,m⟩:=hcut;replace q:=q.zL m;replace p:=(m.cell (aA p)).trans p;replace j:=j.zL m;have t:=aG m;clear o m;by_cases C:a.length=0
  ·have k:Hid (aX s (n::a)=(s,qD s.b)):=by
    rw[List.eq_nil_of_length_eq_zero C,Hid,aX,E];rfl
   rw[C];go_wp2_with fail;refine(QO D wc s b ta F A j z).mono ?_;rintro e w2 ⟨rfl,i⟩;have v:=j.zL i;have u:=aG (aC t.oQ i);clear i j t;go_wp2;go_ret;exact⟨⟨_,_,_,by rw[k.oQ];exact v⟩,by rw[k.oQ];rfl,aT.below u.oQ⟩
  ·have k:Hid (aX s (n::a)=(s,cX)):=by
    obtain⟨x,r,rfl⟩:=List.exists_cons_of_length_pos (by omega:0<a.length);rw[Hid,aX,E];rfl
   have hl':((a.length:Int)+1==1)=false:=by rw[beq_eq_false_iff_ne];omega
   go_wp2;go_ret;exact⟨⟨_,_,_,by rw[k.oQ];exact j⟩,by rw[k.oQ];rfl,aT.below t.oQ⟩
theorem s9 {s:St}{a:List ByteArray}(h:¬a.length=3):fT s a=(s,cX):=by
 unfold fT;split;·simp at h
 ·rfl
theorem RK (D:Nat) (w:World) (s:St) (b:Bk) (ta:Option Addr) (I F:Nat) (l:nU D w s b ta I) (C:iP F s) (_hkk:F<=1000) (n:ByteArray) (a:List ByteArray) (i d c:Nat) (o:Xs 1 dS w (some ⟨i,d,none⟩) (n::a)) (r:a.length+1<=c) (hlen:a.length+1<=1048570) (E:∀x∈n::a,x.size<=1048575) (H:n.toList=pA):
 aY 7 #[.pointer (some ⟨D,0,none⟩),.slice (some ⟨i,d,none⟩) (a.length+1) c] w λe w'=>OP D w (aX s (n::a)) e w':=by
 have t:=gO o 0 n rfl;rw[Nat.add_zero]at t;have p:Xs 1 dS w (some ⟨i,d+1,none⟩) a:=i7 o 1 [n] _ [] (by simp) rfl;go_enter Tryz.func7,Tryz.ntmps7;go_upto_region 1 with fail;go_cut [5,6] (λN O J=>O=.bool (jG a)/\Hid (jG a=true->∃G L,N=.slice G (aS a).length L/\Xs 1 eW J G (aS a))/\aF w J)
 case first=>
  by_cases A:c=1
  ·have ha:a=[]:=List.eq_nil_of_length_eq_zero (by omega);subst ha;subst A;go_wp2_with fail;refine(bW [] (some ⟨i,d,none⟩) 0 w (.inl rfl) (by simp)).mono ?_;rintro e P ⟨⟨M,rfl,f⟩,h⟩;have g:=aG f;clear f;go_wp2;go_meet;exact⟨rfl,g,h⟩
  ·have hc2:1<c:=by omega
   go_wp2_with fail;refine(bW a (some ⟨i,d+1,none⟩) (c-1) w p (by omega)).mono ?_;rintro e P ⟨⟨M,rfl,f⟩,h⟩;have g:=aG f;clear f;go_wp2;go_meet;exact⟨rfl,g,h⟩
 case rest=>
  obtain⟨rfl,HV,k⟩:=hcut;replace o:=o.zL k;replace t:=(k.cell (aA t)).trans t;replace l:=l.zL k;have v:=aG k;clear p k;by_cases u:a.length=3
  ·have j:Hid (aX s (n::a)=fT s a):=by rw[Hid,aX,H];rfl
   have B:((a.length:Int)+1==4)=true:=by rw[beq_iff_eq];omega
   have K:=aG u;clear u;go_wp2_with fail;refine(MX D wc s b ta I F l C (n::a) i d c o (by simp[K.oQ]) (by simpa using r) E).mono ?_;rintro e w2 ⟨⟨b2,ta2,tc2,m⟩,rfl,q⟩;have y:=aG ((aT.below v.oQ).trans q);have z:=aG m;clear q l v m;go_wp2;go_ret;exact⟨⟨_,_,_,by rw[j.oQ];exact z.oQ⟩,by rw[j.oQ];rfl,y.oQ⟩
  ·have j:Hid (aX s (n::a)=(s,cX)):=by rw[Hid,←s9 (s:=s) u,aX,H];rfl
   have B:((a.length:Int)+1==4)=false:=by rw[beq_eq_false_iff_ne];omega
   clear u;go_wp2;go_ret;exact⟨⟨_,_,_,by rw[j.oQ];exact l⟩,by rw[j.oQ];rfl,aT.below v.oQ⟩
theorem SY (D:Nat) (w:World) (s:St) (b:Bk) (ta:Option Addr) (J F:Nat) (A:nU D w s b ta J) (_hok:iP F s) (_hkk:F<=1000) (n:ByteArray) (a:List ByteArray) (t p k:Nat) (z:Xs 1 dS w (some ⟨t,p,none⟩) (n::a)) (hcap:a.length+1<=k) (hlen:a.length+1<=1048570) (_hsz:∀x∈n::a,x.size<=1048575) (d:¬n.toList=pA) (j:¬n.toList=vE) (l:¬n.toList=FI) (c:¬n.toList=oI) (i:¬n.toList=uN) (m:¬n.toList=FK) (h:¬n.toList=tW) (g:¬n.toList=tZ) (f:¬n.toList=uR):
 aY 7 #[.pointer (some ⟨D,0,none⟩),.slice (some ⟨t,p,none⟩) (a.length+1) k] w λe w'=>OP D w (aX s (n::a)) e w':=by
 have y:=gO z 0 n rfl;rw[Nat.add_zero]at y;have v:Xs 1 dS w (some ⟨t,p+1,none⟩) a:=i7 z 1 [n] _ [] (by simp) rfl;go_enter Tryz.func7,Tryz.ntmps7;go_upto_region 1 with fail;go_cut [5,6] (λL M G=>M=.bool (jG a)/\Hid (jG a=true->∃E I,L=.slice E (aS a).length I/\Xs 1 eW G E (aS a))/\aF w G)
 case first=>
  by_cases B:k=1
  ·have ha:a=[]:=List.eq_nil_of_length_eq_zero (by omega);subst ha;subst B;go_wp2_with fail;refine(bW [] (some ⟨t,p,none⟩) 0 w (.inl rfl) (by simp)).mono ?_;rintro e N ⟨⟨K,rfl,o⟩,r⟩;have q:=aG o;clear o;go_wp2;go_meet;exact⟨rfl,q,r⟩
  ·have hc2:1<k:=by omega
   go_wp2_with fail;refine(bW a (some ⟨t,p+1,none⟩) (k-1) w v (by omega)).mono ?_;rintro e N ⟨⟨K,rfl,o⟩,r⟩;have q:=aG o;clear o;go_wp2;go_meet;exact⟨rfl,q,r⟩
 case rest=>
  obtain⟨rfl,HV,u⟩:=hcut;replace z:=z.zL u;replace y:=(u.cell (aA y)).trans y;replace A:=A.zL u;have H:=aG u;clear v u
  have C:Hid (aX s (n::a)=(s,cX)):=by
   rw[Hid,aX,if_neg d,if_neg j,if_neg l,if_neg c,if_neg i,if_neg m,if_neg h,if_neg g,if_neg f]
  have nField:(n.toList==[102,105,101,108,100])=false:=by rw[beq_eq_false_iff_ne];exact d
  have nWish:(n.toList==[119,105,115,104])=false:=by rw[beq_eq_false_iff_ne];exact j
  have nBox:(n.toList==[98,111,120])=false:=by rw[beq_eq_false_iff_ne];exact l
  have nAmend:(n.toList==[97,109,101,110,100])=false:=by rw[beq_eq_false_iff_ne];exact c
  have nTook:(n.toList==[116,111,111,107])=false:=by rw[beq_eq_false_iff_ne];exact i
  have nRef:(n.toList==[114,101,102,117,115,101,100])=false:=by rw[beq_eq_false_iff_ne];exact m
  have nTick:(n.toList==[116,105,99,107])=false:=by rw[beq_eq_false_iff_ne];exact h
  have nHeld:(n.toList==[104,101,108,100])=false:=by rw[beq_eq_false_iff_ne];exact g
  have nBars:(n.toList==[98,97,114,115])=false:=by rw[beq_eq_false_iff_ne];exact f
  clear d j l c i m h g f;go_wp2;go_ret;exact⟨⟨_,_,_,by rw[C.oQ];exact A⟩,by rw[C.oQ];rfl,aT.below H.oQ⟩
end Go.Proofs.YtcdbcliaepcpfaaGreatDoor
