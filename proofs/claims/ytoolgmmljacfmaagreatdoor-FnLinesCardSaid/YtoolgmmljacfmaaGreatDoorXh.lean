import Derived.Test.YtoolgmmljacfmaaGreatDoorXa
set_option maxRecDepth 100000
set_option maxHeartbeats 8000000
open List renaming length → ln
open Go.Proofs.Tryz Go.RowKit
namespace Go.Proofs.YtoolgmmljacfmaaGreatDoor
open Go.BigFrame
variable {l:List Ba}{k n p e sz q O W B:Nat}{a b f j T:List (List Cx)}{s x y:Ba}{w w':Wd}{v t:Va}{m:List Int}{xs:List Va}{g d U:List Yx}{r V:Yx}{i:Oa}{u:Array Va}
def j7 (l:List ByteArray):Bool:=l.all λx=>decide (0<=aV x)
theorem pY (h:∀x∈l,0<=aV x):j7 l=true:=by simpa[j7]using h
theorem sA (h:∃x∈l,aV x=-1):j7 l=false:=by
 obtain⟨x,hx,h⟩:=h;cases e:j7 l with
 |false=>rfl
 |true=>
  have:=lat.1 e x hx;rw[h]at this;simp at this
def jA (o:Option (List (List Cx)))(s:ByteArray):Option (List (List Cx)):=
 o.bind λcs=>if s.toList=[47]then some (cs++[[]])else
  (match bG 44 s with|[x,y]=>if j7 [x,y]then some (cs.dropLast++[cs.getLastD []++[⟨aV x,aV y⟩]])else none|_=>none)
def fV (l:List ByteArray):Option (List (List Cx)):=l.foldl jA (some [[]])
theorem MH (l:List Ba):l.foldl jA none=none:=by
 induction l with
 |nil=>rfl
 |cons a r ih=>rw[List.foldl_cons];exact ih
theorem DD (l:List Ba)(k:Nat)(h:k<ln l):fV (l.take (k+1))=jA (fV (l.take k)) l[k]:=by
 rw[fV,fV,tsa h,List.foldl_append];rfl
theorem xP (h:fV (l.take k)=none):fV l=none:=by
 have:l=l.take k++l.drop k:=(List.take_append_drop k l).symm;rw[this,fV,List.foldl_append];show(l.drop k).foldl jA (fV (l.take k))=none;rw[h,MH]
theorem Q6 (h:s.toList=[47]):jA (some a) s=some (a++[[]]):=by simp[jA,h]
theorem KZ (h:¬s.toList=[47])(b:bG 44 s=[x,y])(c:j7 [x,y]=true):jA (some a) s=some (a.dropLast++[a.getLastD []++[⟨aV x,aV y⟩]]):=by simp[jA,h,b,c]
theorem JA (h:¬s.toList=[47])(a:j7 (bG 44 s)=false∨¬(ln (bG 44 s))=2):jA (some b) s=none:=by
 simp only[jA,Option.bind_some,if_neg h];split
 ·rename_i x y e;rw[e]at a;rcases a with a|a;·simp[a]
  ·simp at a
 ·rfl
theorem RD {α:Type}(f:α->Va):∀l:List α,l.map f=aJ (λa=>[f a]) l
 |[]=>rfl
 |a::r=>by rw[List.map_cons,RD f r];rfl
theorem sY (h:w.ownsRow k 9 1 v (ln l) (l.map Value.string)):∃a c,v=.slice a (ln l) c/\Xs 1 eE w a l:=by
 have e:l.map Value.string=aJ eE l:=RD _ l;rw[e]at h;obtain⟨a,c,b,d,_⟩:=mD JV h;exact⟨a,c,b,d⟩
theorem QR (l:List Int):l.map (Value.int .i64)=aJ dV l:=RD _ l
theorem pW (e:n=ln m)(h:w.ownsRow k 3 1 v n (m.map (Value.int .i64))):∃a c,v=.slice a (ln m) c/\Xs 1 dV w a m:=by
 subst e;rw[QR]at h;obtain⟨a,c,b,d,_⟩:=mD (c:=dV) (sz:=1) (λ_=>rfl) h;exact⟨a,c,b,d⟩
theorem eN (l:List Ba):ln (aS l)=ln l:=List.length_map _
theorem jI (h:w.ownsRow p e sz v q xs)(n:∀(k:Nat)(i:Array Va),p<=k->w.heap[k]?=some (.cells i e)->w'.heap[k]?=w.heap[k]?):w'.ownsRow p e sz v q xs:=by
 obtain⟨c,h|⟨g,b,a,j,d,f,l⟩⟩:=h;·exact⟨c,.inl h⟩
 ·exact⟨c,.inr ⟨g,b,a,j,d,(n g a d f).trans f,l⟩⟩
theorem aAE {base e g n a j:Nat}(h:w.ownsRow base e 1 (.slice (some (Y g 0)) n a) n xs)(u:Va):(w.setCell (Y g j) u).ownsRow base e 1 (.slice (some (Y g 0)) n a) n (xs.set j u):=by
 obtain⟨c,⟨h,_⟩|⟨g',cap',b,d,f,i,k,l,m,o⟩⟩:=h;·cases h
 ·cases d;refine⟨by rw[List.length_set];exact c,.inr ⟨g,a,b.setIfInBounds j u,rfl,f,aP i j u,k,l,by simpa using m,?_⟩⟩;rw[Array.toList_setIfInBounds,List.take_set,o]
def KpC (B:Nat)(w w':World):Prop:=∀k cs,k<B->w.heap[k]?=some (.cells cs 107)->w'.heap[k]?=w.heap[k]?
structure FE (B0:Nat)(v:Value)(cs:List (List Cx))(w:World)(dn:List Yx)(y:Yx)(B:Nat):Prop where
 eq:dn.map Yx.l++[y.l]=cs
 out:w.ownsRow B0 89 1 v (dn.length+1) (aJ Yx.cells (dn++[y]))
 lo:B0<=B
 hi:B<=w.heap.size
 dw:∀w',KpC B w w'->∀x∈dn,x.In w'
 dc:∀x∈dn,x.l.length<=x.c/\x.c<=9223372036854775807
 yo:w.ownsRow B 107 2 (.slice y.a y.l.length y.c) y.l.length (aJ Cx.cells y.l)
theorem flatY (l:List Yx):aJ Yx.cells l=l.map λy=>.slice y.a (ln y.l) y.c:=(RD _ l).symm
theorem FE.zL {w w':Wd}(h:FE n v f w g r p)(a:aG w w'):FE n v f w' g r p:=
 ⟨h.eq,dC h.out a,h.lo,nlt h.hi a.size,λl i x hx=>h.dw l (λk c j b=>by
  have e:=a.block k (cE b);rw[←e]at b ⊢;exact i k c j b) x hx,h.dc,dC h.yo a⟩
theorem vY (h:w.ownsRow k e sz (.slice i n p) n xs):n<=p/\p<=9223372036854775807:=by
 obtain⟨h0,⟨h,_⟩|⟨g',cap',cur,b,h2,h3,d,f,h6,h7⟩⟩:=h;·cases h;exact⟨nlq _,nz _⟩
 ·cases b;exact⟨d,f⟩
theorem I8 (h:w.ownsRow n 107 2 (.slice r.a (ln r.l) r.c) (ln r.l) (aJ Cx.cells r.l)) (f:∀(k:Nat) (b:Array Va),w.heap[k]?=some (.cells b 107)->w'.heap[k]?=w.heap[k]?):r.In w':=by
 obtain⟨a,c,e,hx,_⟩:=mD Cx.cells_length (jI h (λk b _ d=>f k b d));cases e;exact hx
theorem s9 (h:w.ownsRow n e sz v p xs)(i:w.grownBy w' v.ownBlock)(d:w.heap[k]?=some (.cells u q))(j:q≠e):w'.heap[k]?=w.heap[k]?:=by
 have b:=(cE d);refine i.block k b (λa=>?_);obtain⟨_,⟨l,_⟩|⟨g',cap',cur,g,h2,c,_⟩⟩:=h;·subst l;simp[Value.ownBlock]at a
 ·subst g;simp[Value.ownBlock]at a;subst a;rw[d]at c;cases c;exact j rfl
theorem FE.next (h:FE sz v j w d r q) (o:w'.ownsRow sz 89 1 t (ln d+1+1) (aJ Yx.cells (d++[r])++[ms])) (l:w.grownBy w' v.ownBlock):
 FE sz t (j++[[]]) w' (d++[r]) ⟨none,[],0⟩ w'.heap.size:=by
 have n:∀(k:Nat) (c:Array Va),w.heap[k]?=some (.cells c 107)->w'.heap[k]?=w.heap[k]?:=λk c a=>s9 h.out l a dz;have p:w.heap.size<=w'.heap.size:=by have:=l.size;omega
 have f:∀b,KpC w'.heap.size w' b->∀(k:Nat) (c:Array Va),w.heap[k]?=some (.cells c 107)->b.heap[k]?=w.heap[k]?:=λb g k c a=>by
  have e:=n k c a;rw[←e];exact g k c (by have:=(cE a);omega) (e.trans a)
 refine⟨by rw[←h.eq];simp,?_,by have:=h.lo;have:=h.hi;omega,nlq _,λb g x hx=>?_,λx hx=>?_,⟨rfl,.inl ⟨rfl,rfl⟩⟩⟩
 ·have e:aJ Yx.cells (d++[r]++[⟨none,[],0⟩])=aJ Yx.cells (d++[r])++[ms]:=by rw[eL,lL];rfl
  rw[e,lla];exact o
 ·rcases lma.1 hx with hx|hx;·exact h.dw b (λk c _ a=>f b g k c a) x hx
  ·rw[lms.1 hx];exact I8 h.yo (f b g)
 ·rcases lma.1 hx with hx|hx;·exact h.dc x hx
  ·rw[lms.1 hx];exact vY h.yo
theorem FE.cell {w w1:Wd} (c:Cx) (h:FE sz (.slice (some (Y O 0)) n W) T w U V B)
 (L:w1.ownsRow B 107 2 v (ln V.l+1) (aJ Cx.cells V.l++c.cells)) (D:w.grownBy w1 (Value.slice V.a (ln V.l) V.c).ownBlock):
 ∃z,v=.slice z.a (ln z.l) z.c/\FE sz (.slice (some (Y O 0)) n W) (T.dropLast++[T.getLastD []++[c]]) (w1.setCell (Y O (ln U)) v) U z B:=by
 obtain⟨m,o,rfl⟩:∃m o,v=.slice m (ln V.l+1) o:=by
  obtain⟨_,⟨_,h⟩|⟨g,W,d,h,_⟩⟩:=L;·omega
  ·exact⟨_,_,h⟩
 have Q:n=ln U+1:=by
  obtain⟨_,⟨h',K⟩|⟨g,W,d,h',_⟩⟩:=h.out;·omega
  ·cases h';rfl
 subst Q;have t:ln (V.l++[c])=ln V.l+1:=by simp
 have r:w1.ownsRow sz 89 1 (sl O 0 (ln U+1) W) (ln U+1) (aJ Yx.cells (U++[V])):=jI h.out (λk T _ i=>s9 h.yo D i dz)
 have J:∃d,w1.heap[O]?=some (.cells d 89):=by
  obtain⟨_,⟨h',_⟩|⟨g,W,d,h',_,N,_⟩⟩:=r;·cases h'
  ·cases h';exact⟨d,N⟩
 obtain⟨d,s⟩:=J
 have p:∀(k:Nat) (q:Array Va),w1.heap[k]?=some (.cells q 107)->(w1.setCell (Y O (ln U)) (.slice m (ln V.l+1) o)).heap[k]?=w1.heap[k]?:=λk q i=>bhs _ _ _ _ (λe=>by
  have C:k=O:=e;rw[C,s]at i;cases i)
 have S:w.heap.size<=w1.heap.size:=by have:=D.size;omega
 have H:(w1.setCell (Y O (ln U)) (.slice m (ln V.l+1) o)).heap.size=w1.heap.size:=by simp[World.setCell]
 refine⟨⟨m,V.l++[c],o⟩,sm,?_,?_,h.lo,by rw[H];have:=h.hi;omega,λR K x hx=>h.dw R (λk q P i=>?_) x hx,h.dc,?_⟩;·rw[←h.eq];simp
 ·have:=aAE r (j:=ln U) (.slice m (ln V.l+1) o)
  have e:(aJ Yx.cells (U++[V])).set (ln U) (.slice m (ln V.l+1) o)=aJ Yx.cells (U++[⟨m,V.l++[c],o⟩]):=by
   rw[flatY,flatY,lmp,lmp,List.set_append_right _ _ sm];simp
  rw[e]at this;exact this
 ·have G:w1.heap[k]?=w.heap[k]?:=by
   have F:=(cE i);refine D.block k F (λC=>?_);have:=(h.yo.lt k C.symm).1;omega
  rw[←G]at i ⊢;have M:=p k q i;rw[←M]at i ⊢;exact K k q P i
 ·have:w1.ownsRow B 107 2 (.slice m (ln (V.l++[c])) o) (ln (V.l++[c])) (aJ Cx.cells (V.l++[c])):=by
   rw[eL,lL,t];exact L
  exact jI this (λk q _ i=>p k q i)
structure V7 (B0:Nat)(w:World)(v:Value)(cs:List (List Cx)):Prop where
 e:∃wa wl wc,v=.slice wa wl.length wc/\wl.map Yx.l=cs/\Xs 1 Yx.cells w wa wl/\∀y∈wl,y.In w/\y.l.length<=y.c/\y.c<=9223372036854775807
theorem FE.done (h:FE k v j w d r B):V7 k w v j:=by
 have i:=h.out;rw[show(ln d)+1=(ln (d++[r]))by simp]at i;obtain⟨a,c,e,hx,_⟩:=mD Yx.cells_length i;refine⟨a,d++[r],c,e,by rw[←h.eq];simp,hx,λx b=>?_⟩;rcases lma.1 b with b|b;·exact⟨h.dw w (λ_ _ _ _=>rfl) x b,h.dc x b⟩
 ·rw[lms.1 b];exact⟨I8 h.yo (λ_ _ _=>rfl),vY h.yo⟩
theorem FK (a:w'.heap[p]?=some (.cells #[ms] 89))(b:w.heap.size<=p):FE w.heap.size (.slice (some (Y p 0)) 1 1) [[]] w' [] ⟨none,[],0⟩ w'.heap.size:=by
 have hlt:=(cE a);exact⟨rfl,⟨rfl,.inr ⟨p,1,_,rfl,b,a,nlq _,by unfold maxLen;omega,rfl,rfl⟩⟩,om,nlq _,(λ_ _ x hx=>by cases hx),(λx hx=>by cases hx),⟨rfl,.inl ⟨rfl,rfl⟩⟩⟩
variable {a g b c f v:Nat}{y:Yx}{d e i l:Int}{m:Oa}{j:Va}
def NG (O n cap k:Nat)(y:Yx)(g off cn:Nat)(n0 n1:Int)(j:Nat)(vs:Nat->Value)(w:World):Prop:=
 match j with
 |0=>vs 0=.slice (some (Y O 0)) n cap
 |1=>vs 1=I (k:Int)
 |2=>vs 2=.slice (some (Y O 0)) n cap
 |3=>vs 3=I (k:Int)
 |4=>vs 4=(E O k)
 |5=>vs 5=(E O k)
 |6=>vs 6=.slice y.a y.l.length y.c
 |7=>vs 7=.slice (some (Y g off)) 2 cn
 |8=>vs 8=(E g off)
 |9=>vs 9=I n0
 |10=>vs 10=.slice (some (Y g off)) 2 cn
 |11=>vs 11=(E g (off+1))
 |12=>vs 12=I n1
 |13=>vs 13=.agg #[I n0,I n1]
 |14=>∃p,vs 14=.slice (some (Y p 0)) 1 1/\w.heap[p]?=some (.cells #[I n0,I n1] 107)
 |_=>True
theorem NG.zL (j:Nat)(f:Nat->Va)(w w':Wd)(h:NG O n a k y g b c d e j f w)(m:aG w w'):NG O n a k y g b c d e j f w':=by
 unfold NG at*;split at h
 all_goals first
  |exact h
  |(obtain⟨p,i,l⟩:=h;exact⟨p,i,bJ l m⟩)
def WS (j:Nat):List Nat:=[j]
def KB (j:Nat):Bool:=j==0||j==1
theorem NG.loc (j:Nat)(d a:Nat->Va)(w:Wd)(m:∀q∈WS j,d q=a q)(h:NG O n b k y g c f i l j d w):NG O n b k y g c f i l j a w:=by
 have e:d j=a j:=m j (by simp[WS]);unfold NG at*;split at h
 all_goals first
  |(rw[←e];exact h)
  |trivial
def Pf11w (O n cap k:Nat)(j:Nat)(v:Value):Prop:=
 match j with
 |0=>v=.slice (some (Y O 0)) n cap
 |1=>v=I (k:Int)
 |_=>True
theorem NG.free (j:Nat)(d:Nat->Va)(w:Wd)(c:KB j=true)(h:NG O n a k y g b v l i j d w):Pf11w O n a k j (d j):=by
 simp[KB]at c;rcases c with rfl|rfl<;>exact h
structure G11w (W:World)(O k:Nat)(y:Yx)(B:Nat)(c:Cx)(t:Nat)(vs:Nat->Value)(w':World):Prop where
 a:t=15->aG W w'/\vs 6=.slice y.a y.l.length y.c/\∃p,vs 14=.slice (some ⟨p,0,none⟩) 1 1/\w'.heap[p]?=some (.cells #[.int .i64 c.x,.int .i64 c.y] 107)
 b:16<=t->∃w0,aG W w0/\w'.ownsRow B 107 2 (vs 15) (y.l.length+1) (aJ Cx.cells y.l++c.cells)/\w0.grownBy w' (Value.slice y.a y.l.length y.c).ownBlock
 c:17<=t->vs 16=.pointer (some ⟨O,k,none⟩)
 d:18<=t->vs 17=.pointer (some ⟨O,k,none⟩)
theorem uB (c:Int)(s:Ba):∀(m f i:Nat),s.size-i=m->ln (fM c s f i)<=m+1
 |m,f,i,h=>by
  by_cases a:i<s.size
  ·by_cases b:(s[i].toNat:Int)=c
   ·rw[lZ a b,llc];have:=uB c s (s.size-(i+1)) (i+1) (i+1) rfl;omega
   ·rw[kQ a b];have:=uB c s (s.size-(i+1)) f (i+1) rfl;omega
  ·rw[lP a];simp
 termination_by m => m
theorem MU (h:w.ownsRow O k f j n xs)(c:j=.slice m a b):a=n:=by
 obtain⟨_,⟨rfl,rfl⟩|⟨g,cap,cur,rfl,_⟩⟩:=h;·cases c;rfl
 ·cases c;rfl
theorem kU (c:Int)(s:Ba):ln (bG c s)<=s.size+1:=uB c s _ 0 0 rfl
theorem NT (l:List Ba)(a:Oa)(zb:Nat)(w:Wd)(hX:Xs 1 eE w a l)(hn:ln l<=1048576)(xb:∀x∈l,x.size<=1048575):
 aW 91 #[.slice a (ln l) zb] w λe w'=>((∃P,fV l=some P/\∃v,e=rt (.tuple #[v,.bool true])/\V7 w.heap.size w' v P)∨(fV l=none/\∃v,e=rt (.tuple #[v,.bool false])))/\aG w w':=by
 obtain⟨iw,yv,yw,yx,yy⟩:=info_parts Tryz.info89;obtain⟨ic,yu,yr,ys,yt⟩:=info_parts Tryz.info107;have yn:aG w (w.alloc (.cells #[ms] 89)):=aC (br _ _) _;have yi:Hid _:=FK (wnq w (.cells #[ms] 89)) (nlq _)
 go_enter func91,ntmps91
 go_wp2
 go_loopw [4,5] (λv iv wr=>∃(k:Nat) (P:List (List Cx)) (J:List Yx) (y:Yx) (B:Nat),k<=ln l/\iv=I k/\Hid (fV (l.take k)=some P)/\Hid (FE w.heap.size v P wr J y B)/\Hid (ln J<=k/\(ln y.l)<=k)/\aG w wr) (λ_ iv _=>ln l-(intOf iv).toNat)
 case atStart=>exact⟨0,[[]],[],⟨none,[],0⟩,_,nz _,rfl,rfl,yi.oQ,⟨nlq _,nlq _⟩,yn⟩
 case round=>
  obtain⟨k,P,J,y,B,hk,rfl,HC,HO,HL,hN⟩:=hrel
  by_cases S:k<ln l
  ·have zx:(k:Int)<(ln l:Int):=om
   rcases hX.zL hN with h|⟨bl,W,yq,zu⟩
   ·rw[h]at S;simp at S
   subst yq;have c0:wr.cell? (Y bl (W+k*1))=some (.string l[k]):=zu k S 0 _ rfl;rw[Nat.mul_one]at c0;have HS:Hid _:=DD l k S;rw[HC.oQ]at HS;have xa:=xb _ (lgm S);obtain⟨x,hx⟩:=bQ (l[k]);rw[←hx]at c0 HS xa;clear zu hx hX HC
   by_cases V:x.toList=[47]
   ·have za:=aI (HS.oQ.trans (Q6 V))
    clear HS;have z:Hid _:=HO.oQ.zL (aC (br _ wr) (.cells #[ms] 89));clear HO
    go_wp2_with (at_builtin;refine wpList_append_own _ rfl (.tmp 22) (.tmp 24) 37 rfl w.heap.size 89 iw _ 1 24 underlying37 yv yw yx yy rfl dz _ _ _ rfl z.oQ.out (ya wr 0) 1 1 [ms] rfl rfl ?qc1 ?qc2 ?qc3 ?qc4 ?qc5 ?_)
    case qc1=>
     intro j u hj
     match j,hj with
     |0,hj=>simp at hj;subst hj;exact aB (wnq wr _) rfl
     |j+1,hj=>simp at hj
    case qc2=>first|rfl|(intro u hu;simp at hu;subst hu;rfl)
    case qc3=>have:=HL.oQ;unfold maxLen;omega
    case qc4=>have:=HL.oQ;omega
    case qc5=>have:=hN.size;simp;omega
    intro v' w4 U D _;have yj:=aI (z.oQ.next U D);have yp:aG w w4:=(aC hN _).grown D (by have:=hN.size;simp;omega) (λq hq=>eH z.oQ.out hq);clear U D z;go_wp2
    go_roundw
    case rel=>exact⟨k+1,P++[[]],J++[y],⟨none,[],0⟩,_,om,gn,za,yj,⟨by have:=HL.oQ;simp;omega,nz _⟩,yp⟩
    case measure=>simp[intOf];omega
   ·have hsl2:(x.toList==[47])=false:=by simp[V]
    go_wp2_with fail
    refine(sV x 44 wr om).mono ?_;rintro e w1 ⟨⟨v1,rfl,zy⟩,zl⟩;obtain⟨a1,c1,rfl,zq⟩:=sY zy;have zg:=kU 44 x;have X:Hid _:=aE hN zl;have z:Hid _:=HO.oQ.zL zl;clear HO hN zy zl;obtain⟨q,hq⟩:=bQ (bG 44 x);rw[←hq]at zq zg ⊢;have HQ:=aI hq;clear hq;go_wp2_with fail
    refine(tI q a1 c1 w1 zq om).mono ?_
    rintro e w2 ⟨⟨yb,v2,rfl,zz⟩|⟨ze,v2,rfl⟩,Q⟩
    ·obtain⟨a2,c2,rfl,yz⟩:=pW (eN q).symm zz
     rw[eN]at*;have Z:Hid _:=aE X.oQ Q;have G:Hid _:=z.oQ.zL Q;clear z X Q zz
     by_cases h2:ln q=2
     ·obtain⟨s0,s1,rfl⟩:∃s0 s1,q=[s0,s1]:=by
       match q,h2 with
       |[s0,s1],_=>exact⟨s0,s1,rfl⟩
      have za:=aI (HS.oQ.trans (KZ V HQ.oQ.symm (pY yb)))
      rcases yz with h|⟨g,W,rfl,zm⟩
      ·cases h
      have yc:w2.cell? (Y g W)=some (I (aV s0)):=by have:=zm 0 (by simp[aS]) 0 _ rfl;simpa[aS]using this
      have yd:w2.cell? (Y g (W+1))=some (I (aV s1)):=by have:=zm 1 (by simp[aS]) 0 _ rfl;simpa[aS]using this
      obtain⟨n0,e0⟩:∃n,n=aV s0:=⟨_,rfl⟩;obtain⟨n1,e1⟩:∃n,n=aV s1:=⟨_,rfl⟩;rw[←e0,←e1]at za;rw[←e0]at yc;rw[←e1]at yd;clear e0 e1 zm yb h2 HS HQ zg zq
      obtain⟨O,N,rfl⟩:∃O c,u4=(sl O 0 (ln J+1) c):=by
       obtain⟨_,⟨_,e⟩|⟨g,zb,_,e,_⟩⟩:=G.oQ.out
       ·omega
       ·exact⟨g,zb,e⟩
      have yk:Hid (∃H,w2.heap[O]?=some (.cells H 89)):=by
       obtain⟨_,⟨e,_⟩|⟨g,zb,H,e,_,e2,_⟩⟩:=G.oQ.out
       ·cases e
       ·cases e;exact⟨H,e2⟩
      have ko:w2.cell? (Y O (ln J))=some (.slice y.a (ln y.l) y.c):=by
       have hx:Xs 1 Yx.cells w2 (some (Y O 0)) (J++[y]):=by
        have s:=G.oQ.out;rw[show(ln J)+1=(ln (J++[y]))by simp]at s;obtain⟨a,c,e,hx,_⟩:=mD Yx.cells_length s
        cases e
        exact hx
       rcases hx with h|⟨bb,oo,e,hc⟩
       ·simp at h
       ·cases e
        have:=hc (ln J) sm 0 _ rfl
        simpa using this
      obtain⟨m,hm⟩:=bQ (ln J);have HM:=aI hm;rw[←hm]at ko ⊢;clear hm;have M:Hid (m<=k/\(ln y.l)<=k):=by rw[Hid,HM.oQ];exact HL.oQ
      clear HL;have hmk:m<=1048576:=by have:=M.oQ;omega
      go_upto_region 11 with fail
      refine ZC 6 15 18 [some 46,some 47,some 48,some 49,some 50,some 51,some 52,some 53,some 54,some 55,some 56,some 57,some 58,some 59,some 60,some 61,some 62,some 63] KB WS (NG O (m+1) N m y g W c2 n0 n1) (Pf11w O (m+1) N m) (G11w w2 O m y B ⟨n0,n1⟩) NG.zL NG.loc NG.free ?step ?free ?g0 ?gf ?store ?fin
      case step=>
       intro ii o L w' zw s A K;have z0z:=ctq A yc;have z1z:=ctq A yd;have z2z:=ctq A ko
       match ii,zw with
       |4,_|5,_|6,_|8,_|9,_|11,_|12,_|13,_=>
        cases s
        simp[Region.binds,NG]at K
        simp only[aD,Act.put,K];gi_wp2;exact⟨_,by simp[aH,K],rfl,br _ _⟩
       |0,_|1,_|2,_|3,_|7,_|10,_=>
        cases s
        gi_wp2;exact⟨_,uhx,rfl,br _ _⟩
       |14,_=>
        cases s
        simp[Region.binds,NG]at K
        simp only[aD,Act.put,K];gi_wp2;exact⟨_,by simp[aH,K],⟨_,rfl,wnq w' _⟩,aC (br _ _) _⟩
       |q+15,h=>omega
      case free=>
       intro i o L w' t zw zn s ht htM r K
       have zp:i=0∨i=1:=by
        simp[KB]at zn;omega
       clear r
       rcases zp with rfl|rfl
       ·simp at s
        subst s;gi_wp2;exact⟨_,uhx,rfl⟩
       ·simp at s
        subst s;gi_wp2;exact⟨_,uhx,rfl⟩
      case g0=>
       intro L w' A hp;exact⟨λ_=>⟨A,hp 6 dz rfl,hp 14 dz rfl⟩,λh=>absurd h dz,λh=>absurd h dz,λh=>absurd h dz⟩
      case gf=>
       intro t L w' i v zn r
       have zp:i=0∨i=1:=by
        simp[KB]at zn;omega
       rcases zp with rfl|rfl<;>exact⟨r.a,r.b,r.c,r.d⟩
      case store=>
       intro t o L w' h12 h15 s r K;have ht:t=15∨t=16∨t=17:=om
       rcases ht with rfl|rfl|rfl
       ·simp at s
        subst s;obtain⟨A,d6,p,zr,hp⟩:=r.a rfl;have HY:Hid _:=G.oQ.zL A;have ye:=aI A
        have T:∀j u,((⟨n0,n1⟩:Cx).cells)[j]?=some u->w'.cell? (((Y p 0):Addr).add j)=some u:=λj u h=>by
         rw[aal,nza]
         match j,h with
         |0,h=>simp[Cx.cells]at h;subst h;exact aB hp rfl
         |1,h=>simp[Cx.cells]at h;subst h;exact aB hp rfl
        have zh:∀u∈(⟨n0,n1⟩:Cx).cells,u.oneCell'=true:=λu hu=>by
         simp[Cx.cells]at hu
         rcases hu with rfl|rfl<;>rfl
        clear r K A;simp only[aD,Act.put,sit,lcs,lcz];rw[d6,zr];refine wpListIn_append_own w' rfl (.tmp 52) (.tmp 60) 87 rfl B 107 ic _ 2 16 underlying87 yu yr ys yt rfl dz (.slice y.a (ln y.l) y.c) (ln y.l) (aJ Cx.cells y.l) rfl HY.oQ.yo (Y p 0) 1 1 (⟨n0,n1⟩:Cx).cells rfl rfl T zh (by have:=M.oQ;unfold maxLen;omega) (by have:=M.oQ;omega) HY.oQ.hi (λv1 w1 f C _=>?_);have yf:=aI f;have yg:=aI C;clear f C T zh;gi_wp2;exact⟨v1,by simp[aH,d6,zr],λh=>absurd h dz,λ_=>⟨w',ye.oQ,yf.oQ,yg.oQ⟩,λh=>absurd h dz,λh=>absurd h dz⟩
       ·simp at s
        subst s;have d0:L 0=_:=K (eD 0) sm rfl dz rfl;have d1:L 1=_:=K (eD 1) sm rfl dz rfl;have zi:Hid (∃w0,aG w2 w0/\w'.ownsRow B 107 2 (L 15) (ln y.l+1) (aJ Cx.cells y.l++(⟨n0,n1⟩:Cx).cells)/\w0.grownBy w' (Value.slice y.a (ln y.l) y.c).ownBlock):=r.b dz;clear r K;simp only[aD,Act.put];rw[d0,d1];gi_wp2;exact⟨_,by simp[aH,d0,d1],λh=>absurd h dz,λ_=>zi.oQ,λ_=>rfl,λh=>absurd h dz⟩
       ·simp at s
        subst s;have zj:=r.c dz;have zi:Hid (∃w0,aG w2 w0/\w'.ownsRow B 107 2 (L 15) (ln y.l+1) (aJ Cx.cells y.l++(⟨n0,n1⟩:Cx).cells)/\w0.grownBy w' (Value.slice y.a (ln y.l) y.c).ownBlock):=r.b dz;clear r K;simp only[aD,Act.put];rw[zj];gi_wp2;exact⟨_,by simp[aH,zj],λh=>absurd h dz,λ_=>zi.oQ,λ_=>zj,λ_=>rfl⟩
      case fin=>
       intro L w' r hp;have zs:=r.d dz;obtain⟨w0,A,f,C⟩:=r.b dz;have HY:Hid _:=G.oQ.zL A;obtain⟨v1,zc⟩:=bQ (L 15);rw[←zc]at f;have zv:=FE.cell ⟨n0,n1⟩ HY.oQ f C;rw[←HM.oQ]at zv;obtain⟨y',zd,zk⟩:=zv;obtain⟨H,zf⟩:=yk.oQ;have F:w0.heap[O]?=some (.cells H 89):=bJ zf A;have R:w'.heap[O]?=some (.cells H 89):=(s9 HY.oQ.yo C F dz).trans F
       have hk2:w'.cell? (Y O m)=some (.slice y.a (ln y.l) y.c):=by
        have h1:w0.cell? (Y O m)=some (.slice y.a (ln y.l) y.c):=ctq A ko;unfold World.cell? at h1 ⊢;rw[F]at h1;rw[R];exact h1
       have hkf:=jS R
       have ym:Hid (ln y'.l<=k+1):=by
        have h3:=MU f zd;have:=M.oQ;rw[Hid];omega
       rw[zc]at zd
       have yl:Hid (FE w.heap.size (sl O 0 (m+1) N) (P.dropLast++[P.getLastD []++[⟨n0,n1⟩]]) (w'.setCell (Y O m) (.slice y'.a (ln y'.l) y'.c)) J y' B):=by
        rw[zc,zd]at zk;exact zk
       have yh:Hid (aG w (w'.setCell (Y O m) (.slice y'.a (ln y'.l) y'.c))):=by
        have zt:w.heap.size<=O:=eH G.oQ.out rfl;have h1:=aE Z.oQ A;have h2:aG w w':=h1.grown C h1.size (λq hq=>by have:=eH HY.oQ.yo hq;have:=HY.oQ.lo;omega);exact h2.setCell zt _
       simp only[lds,ldz,aD,Act.put];rw[zs,zd];clear hp r A f C zk zf F R HY zc zs;generalize L=L;gi_wp2_with fail
       go_wp2
       go_roundw
       case rel=>exact⟨k+1,_,J,y',B,om,gn,za,yl.oQ,⟨by have:=M.oQ;have:=HM.oQ;omega,ym.oQ⟩,yh.oQ⟩
       case measure=>simp[intOf];omega
     ·have HZ:Hid (fV l=none):=xP (HS.oQ.trans (JA V (.inr (by rw[←HQ.oQ];exact h2))))
      have h2':((ln q:Int) !=2)=true:=by simp;omega
      go_wp2
      exact bpr (v:=.tuple #[u4,.bool false]) (by simp[results,results91,go_sem]) rfl ⟨.inr ⟨HZ.oQ,_,rfl⟩,Z.oQ⟩
    ·have HZ:Hid (fV l=none):=xP (HS.oQ.trans (JA V (.inl (by rw[←HQ.oQ];exact sA ze))))
     have Z:Hid _:=aE X.oQ Q;clear Q X ze;go_wp2
     exact bpr (v:=.tuple #[u4,.bool false]) (by simp[results,results91,go_sem]) rfl ⟨.inr ⟨HZ.oQ,_,rfl⟩,Z.oQ⟩
  ·have zx:¬(k:Int)<(ln l:Int):=om
   have HZ:Hid (fV l=some P):=by rw[Hid];have:=HC.oQ;rw[ltl om]at this;exact this
   clear HC;go_wp2
   exact bpr (v:=.tuple #[u4,.bool true]) (by simp[results,results91,go_sem]) rfl ⟨.inl ⟨P,HZ.oQ,_,rfl,HO.oQ.done⟩,hN⟩
end Go.Proofs.YtoolgmmljacfmaaGreatDoor
namespace Go.Proofs.YtoolgmmljacfmaaGreatDoor
theorem TN (l:List Sp)(s:Sp)(d:Int):eX (l++[⟨s.lo,d⟩])=(eX (l++[s])).set (ln l*2+1) (I d):=by
 rw[fI,fI,List.set_append_right _ _ (by rw[jT];omega),jT,show(ln l)*2+1-ln l*2=1 by omega];rfl
theorem G9 (b:Bk)(nm:Ba)(t:List Bx)(ta:Oa)(tc:Nat)(n:Int)(w:Wd)(ha:rA w b t ta):
 aW 94 #[b.val,.string nm,.slice ta (ln t) tc,I n] w λe w'=>(∃v l,e=rt v/\lI w' w.heap.size v l/\eV b nm t n l)/\aG w w':=by
 obtain⟨i0,hi,zc,zd,ze⟩:=info_parts Tryz.info134;have F:aG w ((w.alloc (bo b)).alloc (.cells #[] 134)):=aC (aC (br _ _) _) _;have Q:=(halq (w.alloc (bo b)) (.cells #[] 134) w.heap.size sm).trans (wnq w _)
 have O0:((w.alloc (bo b)).alloc (.cells #[] 134)).ownsRow (w.heap.size+1) 134 2 (sl (w.heap.size+1) 0 0 0) 0 []:=by
  simpa using World.ownsRow_lit (base:=w.heap.size+1) (e:=134) (size:=2) (w.alloc (bo b)) #[] 0 sm (nz _) rfl
 obtain⟨v1,U⟩:∃v,dE b t n=v:=⟨_,rfl⟩;have k0:=aB (j:=0) Q rfl;have k1:=aB (j:=1) Q rfl;have k2:=aB (j:=2) Q rfl
 go_enter Tryz.func94,Tryz.ntmps94
 go_wp2_with fail
 obtain⟨W0,W⟩:=cI ((w.alloc (bo b)).alloc (.cells #[] 134));rw[W]at F Q O0 ⊢;clear k0 k1 k2 W;refine(tE b t ta tc n _ (ha.zL F)).mono ?_;rintro e w1 ⟨rfl,G⟩;rw[U];have N1:=aE F G;have K:=btq G Q;have O1:=dC O0 G;clear Q F G O0
 cases v1 with
 |false=>
  go_wp2
  go_ret;exact⟨⟨_,[],rfl,(lI.of_owns (l:=[]) O1).weak om,eV.no U⟩,N1⟩
 |true=>
 have HA:=aI U;simp only[dE,bat,dte]at U;obtain⟨⟨m0,m1⟩,zi,zb⟩:=U;go_wp2
 go_loopw [9,10] (λv i wr=>∃(d:Int) (l:List Sp),0<=d/\d<=n+1/\i=I d/\wr.ownsRow (w.heap.size+1) 134 2 v (ln l) (eX l)/\aG w wr/\wr.heap[w.heap.size]?=some (bo b)/\Hid (tU (lF b nm t) l d)) (λ_ i _=>(n+1-intOf i).toNat)
 case atStart=>exact⟨0,[],ilr _,om,rfl,O1,N1,K,YI _⟩
 case round=>
  clear O1 N1 K;obtain⟨d,l,J,hd1,rfl,C,hN,K,y⟩:=hrel;have hll:ln l<=301:=y.out.len om
  by_cases hlt:d<=n
  ·have k0:wr.cell? (ya w 0)=some (I b.now):=aB K rfl
   have k1:wr.cell? (ya w 1)=some (fs b):=aB K rfl;have k2:wr.cell? (ya w 2)=some (hs b):=aB K rfl;obtain⟨v2,V⟩:∃v,EF b nm t d=v:=⟨_,rfl⟩;have z:=zY (nm:=nm) zi zb J;go_wp2_with fail
   refine(FW b nm t ta tc d _ (ha.zL hN) zb J om).mono ?_;rintro e S ⟨rfl,H⟩;rw[V];have A:=aE hN H;have L:=btq H K;have x:=dC C H;clear k0 k1 k2 K hN C H
   cases v2 with
   |true=>
    have Z:¬lF b nm t d:=λh=>by rw[z.1 h]at V;cases V
    have M:=aI (y.out.pass Z);clear z Z y;go_wp2
    go_roundw
    case rel=>exact⟨d+1,l,om,om,gn,x,A,L,M⟩
    case measure=>simp[intOf];omega
   |false=>
    have X:lF b nm t d:=z.2 V;have HD:=aI X;clear z X V;have za:=(cE L)
    rcases List.eq_nil_or_concat l with hl|⟨r,s,hl⟩
    ·subst hl
     have M:Hid (tU (lF b nm t) ([]++[⟨d,d⟩]) (d+1)):=y.out.new J HD.oQ sm;clear y
     have hv:∃ao D,u9=.slice ao 0 D:=by
      rcases x.2 with⟨hv,_⟩|⟨g,D,_,hv,_⟩
      ·exact⟨_,_,hv⟩
      ·exact⟨_,_,hv⟩
     obtain⟨ao,D,rfl⟩:=hv
     go_wp2_with (at_builtin;refine wpList_append_own_at _ rfl (.tmp 50) (.tmp 54) 131 rfl (w.heap.size+1) 134 i0 _ 2 16 Tryz.underlying131 hi zc zd ze rfl dz _ _ _ rfl (x.alloc _) (ya S 0) 1 1 (Sp.cells ⟨d,d⟩) rfl rfl ?qc1 ?qc2 ?qc3 ?qc4 ?qc5 ?_)
     case qc1=>first|exact λ_ _ h=>h|exact I3 _ _ rfl ⟨d,d⟩
     case qc2=>intro u hu;simp[Sp.cells]at hu;rcases hu with rfl|rfl<;>rfl
     case qc3=>unfold maxLen;simp
     case qc4=>simp
     case qc5=>simp;omega
     intro v' w3 o f _ N;have B:aG w w3:=(aC A _).grown f so (λk e=>by have:=vR x k e;omega);have T:=(f.block w.heap.size so (λe=>by have:=vR x _ e.symm;omega)).trans ((halq S (Sp.obj2 ⟨d,d⟩) w.heap.size za).trans L);have R:w3.ownsRow (w.heap.size+1) 134 2 v' (ln ([]++[(⟨d,d⟩:Sp)])) (eX ([]++[⟨d,d⟩])):=by simpa[eX]using o
     clear x o f N A L;go_wp2
     go_roundw
     case rel=>exact⟨d+1,_,om,om,gn,R,B,T,M⟩
     case measure=>simp[intOf];omega
    ·rw[List.concat_eq_append]at hl
     subst hl;have q:ln (r++[s])=ln r+1:=by simp
     rcases x.2 with⟨_,h0⟩|⟨g,D,cur,rfl,hbg,_,hnc,_⟩
     ·rw[q]at h0;omega
     have cH:=x.cellAt (ln r*2+1) (by rw[q];omega)
     have P:(eX (r++[s]))[ln r*2+1]?=some (I s.hi):=by
      rw[fI,lgr (by rw[jT];omega),jT,show(ln r)*2+1-ln r*2=1 by omega];rfl
     rw[P]at cH;have fr:=λj=>x.frozenAt j;rw[q]
     by_cases O:s.hi=d-1
     ·have M:=aI (y.out.grow O HD.oQ)
      have R:=x.stored (ln r*2+1) (I d);rw[←TN,q]at R;have B:aG w (S.setCell (Y g (ln r*2+1)) (I d)):=A.setCell (p:=(Y g (ln r*2+1))) (by show w.heap.size<=g;omega) _;have T:=(bhs S (Y g (ln r*2+1)) (I d) w.heap.size (by show w.heap.size≠g;omega)).trans L;rw[O]at cH;clear y P;go_wp2
      go_roundw
      case rel=>exact⟨d+1,r++[⟨s.lo,d⟩],om,om,gn,by simpa using R.1,B,T,M⟩
      case measure=>simp[intOf];omega
     ·have hsb:=y.out.b s sm
      have M:Hid (tU (lF b nm t) (r++[s]++[⟨d,d⟩]) (d+1)):=y.out.new J HD.oQ (λa ha=>by
       obtain⟨_,hn,zh⟩:=y.out.c.snoc
       rcases lma.1 ha with g|g
       ·have:=zh a g;unfold lD at this;omega
       ·simp at g;subst g;omega)
      have hne:(s.hi==d-1)=false:=by simpa using O
      rw[q]at x;clear y P
      go_wp2_with (at_builtin;refine wpList_append_own_at _ rfl (.tmp 50) (.tmp 54) 131 rfl (w.heap.size+1) 134 i0 _ 2 16 Tryz.underlying131 hi zc zd ze rfl dz _ _ _ rfl (x.alloc _) (ya S 0) 1 1 (Sp.cells ⟨d,d⟩) rfl rfl ?qc1 ?qc2 ?qc3 ?qc4 ?qc5 ?_)
      case qc1=>first|exact λ_ _ h=>h|exact I3 _ _ rfl ⟨d,d⟩
      case qc2=>intro u hu;simp[Sp.cells]at hu;rcases hu with rfl|rfl<;>rfl
      case qc3=>unfold maxLen;omega
      case qc4=>omega
      case qc5=>simp;omega
      intro v' w3 o f _ N;have B:aG w w3:=(aC A _).grown f so (λk e=>by have:=vR x k e;omega);have T:=(f.block w.heap.size so (λe=>by have:=vR x _ e.symm;omega)).trans ((halq S (Sp.obj2 ⟨d,d⟩) w.heap.size za).trans L)
      have R:w3.ownsRow (w.heap.size+1) 134 2 v' (ln (r++[s]++[(⟨d,d⟩:Sp)])) (eX (r++[s]++[⟨d,d⟩])):=by
       rw[fI (r++[s]),lla,q]
       simpa[eX]using o
      clear x o f N A L cH;go_wp2
      go_roundw
      case rel=>exact⟨d+1,_,om,om,gn,R,B,T,M⟩
      case measure=>simp[intOf];omega
  ·have hde:d=n+1:=om
   go_wp2
   go_ret;have zf:eV b nm t n l:=eV.yes HA.oQ ⟨y.out.c,λs zj=>by have:=y.out.b s zj;omega⟩ (λe e0 e1=>y.out.m e e0 om);have zg:=(lI.of_owns C).weak (base':=w.heap.size) om;exact⟨⟨_,rfl,_,zg,zf⟩,hN⟩
variable {l m:List Hx}
theorem WJ (h:aT l m){F:Hx->Prop}(hF:∀a b:Hx,a.Like b->(F a↔F b)):(∃x∈l,F x)↔∃x∈m,F x:=by
 constructor
 ·rintro⟨x,hx,d⟩;obtain⟨i,e,rfl⟩:=lgo hx;have c:i<ln m:=by have:=h.len;omega
  exact⟨m[i],lgm c,(hF _ _ (h.like i e)).1 d⟩
 ·rintro⟨x,hx,d⟩;obtain⟨i,e,rfl⟩:=lgo hx;have c:i<ln l:=by have:=h.len;omega
  exact⟨l[i],lgm c,(hF _ _ (h.like i c)).2 d⟩
