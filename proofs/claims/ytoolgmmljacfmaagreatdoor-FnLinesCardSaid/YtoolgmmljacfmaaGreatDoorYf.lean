import Derived.Test.YtoolgmmljacfmaaGreatDoorYb
set_option maxRecDepth 100000
set_option maxHeartbeats 8000000
open List renaming length → ln
open Go.RowKit
namespace Go.Proofs.YtoolgmmljacfmaaGreatDoor
open Go.BigFrame
variable {z P t:Nat}{w w':Wd}{b s c b':Bk}{l:Array Va}{S:Nat → Prop}{x d:Wx}{n:St}{ta:Oa}
theorem dS.butT (h:dS z w b)(g:aU (λk=>k=P) w w')(s:w.heap[P]?=some (.cells l t))(m:34≠t)(o:74≠t)(p:91≠t):dS z w' b:=by
 have i:∀{t' n:Nat} {f:Nat->Va},t'≠t->w.rowIs P t' n f->False:=λv d=>by
  obtain⟨c,j,_⟩:=d;rw[s]at j;cases j;exact v rfl
 refine⟨h.f.butRow g (λk _ _ _ d e=>by have a:k=P:=e;subst a;exact i m d),h.h.butRow g (λk _ _ _ d e=>by have a:k=P:=e;subst a;exact i o d),λx hx=>(h.t x hx).but g (λq u e=>?_),h.c⟩;have a:q=P:=e;subst a;obtain⟨_,_,r⟩:=(h.t x hx).bs_row q u;exact i p r
theorem UI (h:eI S w s b)(f:aO s=true)(hx:iL w d)(p:rK x d):
 aW 27 #[b.val,d.val] w λe w'=>(∃b',e=rt (.tuple #[Bk.val b',iA s (decide (0<=kK s.hl x.n)) x,I (dF s x)])/\K8 s.now s.fl (eY s x) b'/\dS w.heap.size w' b')/\aG w w':=by
 refine(wM b d w (h.ok f) (h.asks f) hx).mono ?_;rintro e w' ⟨o,g⟩;refine⟨?_,g⟩;obtain⟨q,r,i⟩:=FV (b:=s) (b1:=b) h.c.now h.c.fl h.c.lk d;obtain⟨t,u,v⟩:=FT p s;rcases o with⟨a,_⟩|⟨_,b',rfl,j,k,l,m⟩;·rw[h.book,f]at a;cases a
 ·exact⟨b',by rw[q,r,t,u],⟨j.trans h.c.now,k.trans h.c.fl,by rw[v]at i;exact i.trans l⟩,m⟩
abbrev gI (w:World)(D:Nat)(b:Bk):World:=((w.setCell (Y D 0) (I b.now)).setCell (Y D 1) (.slice b.fa b.fl.length b.fc)).setCell (Y D 2) (.slice b.ha b.hl.length b.hc)
theorem dJ (w:Wd)(D:Nat)(b:Bk):aU (λk=>k=D) w (gI w D b):=(((aU.refl (λk=>k=D) w).set (g:=D) rfl _ _).set (g:=D) rfl _ _).set (g:=D) rfl _ _
theorem o9.put (h:o9 z w n b ta P)(a:eI (λk=>k=z) w c b'):o9 z (gI w z b') ⟨c,n.t⟩ b' ta P:=by
 refine⟨?_,a.but (dJ w z b'),λj e=>h.t j ((dJ w z b').trans e)⟩;have f:=aP h.o 0 (I b'.now);have g:=aP f 1 (fs b');have i:=aP g 2 (hs b');exact i
def RO (D:Nat)(w:World)(r:St×ByteArray)(e:Ending)(w':World):Prop:=(∃b ta tc,o9 D w' r.1 b ta tc)/\e=rt (.string r.2)/\aU (λk=>k=D) w w'
theorem o9.fz (h:o9 z w n b ta P):∀i,w.frozen? (Y z i)=false:=λi=>by simp[World.frozen?,h.o]
theorem sM (D:Nat)(w:Wd)(s:St)(b:Bk)(ta:Oa)(r:Nat)(q:o9 D w s b ta r)(n b':Bk)(l:eI (λk=>k=D) w n b')(c:Int)(o:0<=c)(p:c<=2000000):
 aW 50 #[E D 0,b'.val,I c] w λe w'=>RO D w (⟨n,s.t⟩,jC c) e w':=by
 have d:aG w (w.alloc b'.obj):=aC (br _ _) _;have a:=(q.zL d);have HP:=aI (a.put (l.zL d));have h:Hid (aU (λk=>k=D) w (gI (w.alloc b'.obj) D b')):=(aU.below d).trans (dJ _ D b');obtain⟨W0,g⟩:=cI (w.alloc b'.obj);rw[g]at a HP h;obtain⟨c0,c1,c2,c3⟩:=a.c;have cf:=a.fz;have m:W0.heap[w.heap.size]?=some b'.obj:=by rw[←g];exact wnq w _
 obtain⟨k0,k1,k2⟩:=aM m;clear d a m;go_enter Tryz.func50,Tryz.ntmps50;go_wp2_with fail;refine(CV c _ o p).mono ?_;rintro e w2 ⟨rfl,f⟩;have j:Hid _:=HP.oQ.zL f;have i:Hid _:=h.oQ.trans (aU.below f);clear f HP h;go_wp2;go_ret;exact⟨⟨_,_,_,j.oQ⟩,rfl,i.oQ⟩
variable {d g t:List (List Cx)}{s q i j p l:Ba}{a b f c wc lc:Nat}{w u:List Ba}{v:Wd}{n:Bk}{m:Co}{r:List Co}{y e:Oa}{wl:List Yx}{o:Obj}
theorem cC (l:List Ba)(a:Oa)(c:Nat)(w:Wd)(n:Xs 1 eE w a l)(o:ln l<=1048576):
 aW 46 #[.slice a (ln l) c] w λe w'=>(∃v,e=rt (.tuple #[v,.bool (j7 l)])/\(j7 l=true->∃g k,v=.slice g (ln (aS l)) k/\Xs 1 dV w' g (aS l)))/\aG w w':=by
 refine(tI l a c w n o).mono ?_;rintro e w' ⟨⟨d,v,rfl,p⟩|⟨b,v,rfl⟩,i⟩
 ·obtain⟨j,m,rfl,f⟩:=pW (eN l).symm p;exact⟨⟨_,by rw[pY d],λ_=>⟨j,m,rfl,f⟩⟩,i⟩
 ·exact⟨⟨v,by rw[sA b],λh=>by rw[sA b]at h;cases h⟩,i⟩
theorem ZX (l:List Ba)(a:Oa)(b:Nat)(w:Wd)(j:Xs 1 eE w a l)(k:ln l<=1048576)(m:∀x∈l,x.size<=1048575):
 aW 91 #[.slice a (ln l) b] w λe w'=>(∃v,e=rt (.tuple #[v,.bool (fV l).isSome])/\∀d,fV l=some d->V7 w.heap.size w' v d)/\aG w w':=by
 refine(NT l a b w j k m).mono ?_;rintro e w' ⟨⟨d,c,v,rfl,i⟩|⟨c,v,rfl⟩,g⟩;·exact⟨⟨v,by rw[c];rfl,λf h=>by rw[c]at h;cases h;exact i⟩,g⟩
 ·exact⟨⟨v,by rw[c];rfl,λf h=>by rw[c]at h;cases h⟩,g⟩
theorem MI (h:jA (some d) s=some g)(h1:ln d<=a)(i:∀c∈d,ln c<=b):ln g<=a+1/\∀c∈g,ln c<=b+1:=by
 simp only[jA,Option.bind_some]at h;split at h
 ·cases h;refine⟨so,λc f=>?_⟩;rcases lma.1 f with f|f;·have:=i c f;omega
  ·rw[lms.1 f];simp
 ·split at h
  ·split at h
   ·cases h;refine⟨so,λc f=>?_⟩;rcases lma.1 f with f|f;·have:=i c ((List.dropLast_sublist _).subset f);omega
    ·rw[lms.1 f,lla]
     have:ln (d.getLastD [])<=b:=by
      cases e:d.getLast? with
      |none=>rw[List.getLastD_eq_getLast?,e];simp
      |some c0=>rw[List.getLastD_eq_getLast?,e];exact i c0 (List.mem_of_getLast? e)
     show(ln (d.getLastD []))+1<=_;omega
   ·cases h
  ·cases h
theorem AQ:∀(l:List Ba) (d f:List (List Cx)) (a b:Nat),l.foldl jA (some d)=some f->ln d<=a->(∀c∈d,ln c<=b)->ln f<=a+ln l/\∀c∈f,ln c<=b+ln l
 |[],d,f,a,b,h,h1,h2=>by cases h;exact⟨h1,h2⟩
 |s::r,d,f,a,b,h,h1,h2=>by
  rw[List.foldl_cons]at h;cases e:jA (some d) s with
  |none=>rw[e,MH]at h;cases h
  |some cs1=>
   rw[e]at h;obtain⟨g,i⟩:=MI e h1 h2;obtain⟨q1,k⟩:=AQ r cs1 f (a+1) (b+1) h g i;exact⟨so,λc j=>by have:=k c j;simp;omega⟩
theorem ws9 (h:8<ln w):∃n nm q c f a l b y e,w=n::nm::q::c::f::a::l::b::y::e:=by
 match w,h with
 |n::nm::q::c::f::a::l::b::y::e,_=>exact⟨n,nm,q,c,f,a,l,b,y,e,rfl⟩
theorem jN (m:Xs 1 eE v (some (Y f b)) u)(i:Nat)(p l r:List Ba)(c:u=p++(l++r))(q:ln p=i):Xs 1 eE v (some (Y f (b+i))) l:=by
 rcases m with h|⟨bb,oo,e,n⟩
 ·rw[h]at c
  have:l=[]:=by
   cases l with
   |nil=>rfl
   |cons a t=>simp at c
  exact .inl this
 ·cases e;refine .inr ⟨f,b+i,rfl,λk o=>?_⟩;have g:i+k<ln u:=by rw[c];simp;omega
  have:=n (i+k) g
  have e:u[i+k]=l[k]:=by
   subst c;subst q;rw[List.getElem_append_right om];simp only[Nat.add_sub_cancel_left];rw[List.getElem_append_left o]
  rw[e]at this;have j:b+(i+k)*1=b+i+k*1:=om;rw[j]at this;exact this
theorem iC (f:Xs 1 eE v (some (Y c a)) u)(i:Nat)(x:Ba)(hx:u[i]?=some x):v.cell? (Y c (a+i))=some (.string x):=by
 obtain⟨b,rfl⟩:=lgs.1 hx;rcases f with h|⟨bb,oo,e,g⟩;·rw[h]at b;simp at b
 ·cases e;have:=g i b 0 _ rfl;simpa using this
theorem BY (b:Bk)(x:Wx):0<=dF b x/\dF b x<=2000000:=by
 unfold dF jQ;split;·decide
 ·split;·decide
  ·split;·decide
   ·split<;>decide
theorem K2 (h:tH n x=m::r):0<=m.d/\m.d<=2000000/\0<=m.i/\m.i<=2000000/\0<=m.k/\m.k<=2000000:=by
 have e:=(XY h).1;unfold tH at h;split at h
 ·have a:m∈gV n x (x.l.toNat+1):=by rw[h];simp
  simp only[gV,mS,lM,List.mem_flatMap,lmm,List.mem_filter,lmr]at a;obtain⟨d,hd,i,hi,k,⟨hk,_⟩,rfl⟩:=a;simp only[eR,tR,n6,pK,jD,GJ,bat,dte]at e;obtain⟨_,_,_,h1,h2,h3⟩:=e;exact⟨sm,by simp only;omega,sm,by simp only;omega,sm,by simp only;omega⟩
 ·cases h
theorem RW (b:Bk)(x:Wx):∃d i k,iA b (decide (0<=kK b.hl x.n)) x=gF d i k/\(dF b x=0->AA (tH b x)=⟨#[108,97,116,101,32]⟩++dH d++⟨#[32,119,97,121,32]⟩++dH i++⟨#[32,108,101,118,101,108,32]⟩++dH k/\0<=d/\d<=2000000/\0<=i/\i<=2000000/\0<=k/\k<=2000000):=by
 unfold iA dF;split
 ·rename_i a;cases hl:tH b x with
  |nil=>
   exfalso;unfold jQ at a;rw[hl]at a;split at a;·cases a
   ·split at a;·cases a
    ·split at a<;>cases a
  |cons c r=>
   exact⟨c.d,c.i,c.k,rfl,λ_=>⟨rfl,K2 hl⟩⟩
 ·rename_i a;exact⟨0,0,0,rfl,λh=>absurd h a⟩
theorem AW (h:wl.map Yx.l=t):rK (wL s q i j p l w t) ⟨s,aV q,aV i,aV j,aV p,aV l,y,wl,wc,e,aS w,lc⟩:=by
 subst h;exact⟨rfl,rfl,rfl,rfl,rfl,rfl,rfl,⟨by simp[wL],λk hk=>by simp[wL]⟩⟩
theorem iB (h:v.heap[a]?=some o):a<v.heap.size:=(cE h)
variable {a:List Ba}{D d o e:Nat}{w:Wd}{s:St}{b:Bk}{x:Ba}
theorem pC (b:Bk)(nm:Ba):0<=cG b nm/\cG b nm<=2000000:=by
 unfold cG;split;·decide
 ·split;·split<;>decide
  ·decide
theorem CD (b:Bk)(nm:Ba)(a:List Bx):0<=dX b nm a/\dX b nm a<=2000000:=by
 unfold dX j8;split;·decide
 ·split
  ·split
   ·split;·split<;>decide
    ·decide
   ·decide
  ·decide
theorem AK (b:Bk)(n:Int):0<=cX b n/\cX b n<=2000000:=by
 unfold cX;split<;>decide
theorem BR {s:St}(h:¬(ln a)=1):rW s a=(s,dR):=by
 unfold rW;split;·simp at h
 ·rfl
theorem xV {took:Bool}{s:St}(h:¬(ln a)=1):n9 took s a=(s,dR):=by
 unfold n9;split;·simp at h
 ·rfl
theorem ET {s:St}(h:¬(ln a=1/\j7 a=true)):mZ s a=(s,dR):=by
 unfold mZ;split
 ·rename_i x;split
  ·rename_i hx;exact absurd ⟨rfl,by simp[j7,hx]⟩ h
  ·rfl
 ·rfl
theorem o9.ne (h:o9 D w s b ta d)(a:w.cell? (Y c o)=some (.string x)):c≠D:=λe=>by
 subst e;simp only[World.cell?,h.o]at a;match o,a with
 |0,a=>simp at a
 |1,a=>simp at a
 |2,a=>simp at a
 |3,a=>simp at a
 |n+4,a=>simp at a
theorem o9.hand (h:o9 D w s b ta e){t':List Bx}{ta':Oa}{tc':Nat}(d:∀w',aU (λk=>k=D) w w'->jG w' ta' t'):o9 D (w.setCell (Y D 3) (.slice ta' (ln t') tc')) ⟨s.b,t'⟩ b ta' tc':=by
 have a:aU (λk=>k=D) w (w.setCell (Y D 3) (.slice ta' (ln t') tc')):=(aU.refl (λk=>k=D) w).set (g:=D) rfl _ _;exact⟨aP h.o 3 _,h.b.but a,λf c=>d f (a.trans c)⟩
variable {c:Int}{s:Ba}{w:Wx}{k:Nat}{n:St}
abbrev FS:ByteArray:=⟨#[116,111,111,32,108,111,110,103,10]⟩
def fP (text:ByteArray):List ByteArray:=if((bG 10 text).getLastD ⟨#[]⟩).toList=[]then(bG 10 text).dropLast else bG 10 text
noncomputable def IR (p:St×ByteArray)(ln:ByteArray):St×ByteArray:=((aX p.1 (bG 32 ln)).1,p.2++(aX p.1 (bG 32 ln)).2++sLf)
def st0:St:=⟨⟨0,none,[],0,none,[],0⟩,[]⟩
noncomputable def oR (l:List ByteArray):St×ByteArray:=l.foldl IR (st0,⟨#[]⟩)
noncomputable def BX (text:ByteArray):ByteArray:=if 20000<text.size then FS else if 300<(fP text).length then FS else(oR (fP text)).2
theorem sO (c:Int)(s:Ba):∀(m f i:Nat),s.size-i=m->fM c s f i≠[]/\∀x∈fM c s f i,x.size<=s.size
 |m,f,i,h=>by
  have g:∀a b,(s.extract a b).size<=s.size:=λa b=>by rw[ByteArray.size_extract];omega
  by_cases d:i<s.size
  ·by_cases e:(s[i].toNat:Int)=c
   ·rw[lZ d e];have:=sO c s (s.size-(i+1)) (i+1) (i+1) rfl;refine⟨sm,λx hx=>?_⟩;rcases lmc.1 hx with rfl|hx;·exact g _ _
    ·exact this.2 x hx
   ·rw[kQ d e];exact sO c s (s.size-(i+1)) f (i+1) rfl
  ·rw[lP d];refine⟨sm,λx hx=>?_⟩;rw[lms.1 hx];exact g _ _
 termination_by m => m
theorem zX (c:Int)(s:Ba):bG c s≠[]:=(sO c s _ 0 0 rfl).1
theorem pA (h:x∈bG c s):x.size<=s.size:=(sO c s _ 0 0 rfl).2 x h
theorem JM:(AA (tH b w)).size<=2000000000:=by
 cases h:tH b w with
 |nil=>show(ByteArray.mk #[]).size<=_;decide
 |cons c r=>
  obtain⟨_,f,_,g,_,i⟩:=K2 h;have:=bD f;have:=bD g;have:=bD i;have a:(⟨#[108,97,116,101,32]⟩:Ba).size=5:=rfl;have d:(⟨#[32,119,97,121,32]⟩:Ba).size=5:=rfl;have e:(⟨#[32,108,101,118,101,108,32]⟩:Ba).size=7:=rfl;simp only[AA,bsz,a,d,e];omega
theorem o8 (h:c<=2000000):(jC c).size<=2000000000:=by have:=PF h;omega
theorem fL:dR.size<=2000000000:=dz
theorem EU (c:aO b=true):(rC b).size<=2000000000:=by
 have a:=vN c
 have d:=DG b.hl (λx hx=>by
  obtain⟨_,d,e,f,g,h⟩:=a x hx;exact⟨lS d (pB g),lS e (pB h),f⟩) (dH b.now)
 have e:=kD c
 have f:b.now<=10000:=by
  have:=(dQ.1 c).1;rw[oL,dte]at this;exact this.2
 have g:=bD (n:=b.now) om;unfold rC;omega
theorem NY (b:Bk)(nm:Ba)(t:List Bx)(a:Int):(nO b nm t a).size<=2000000000:=by
 have i:((oX b nm t a).foldl nB ⟨#[]⟩).size<=301*4000004:=by
  rcases V2 b nm t a with h|h
  ·have:=xY _ (λp f=>⟨(zO h p f).2.1,(zO h p f).2.2.2⟩) ⟨#[]⟩;have e:(ByteArray.mk #[]).size=0:=rfl;have:=h.len;omega
  ·rw[h];show(ByteArray.mk #[]).size<=_;decide
 unfold nO;obtain⟨o,j⟩:=bQ ((oX b nm t a).foldl nB ⟨#[]⟩);rw[←j]at i ⊢;have c:(⟨#[110,101,118,101,114]⟩:Ba).size=5:=rfl;have g:(⟨#[102,114,101,101,32]⟩:Ba).size=5:=rfl;rcases Y7 b nm t a with h|h
 ·cases he:qO b nm t a with
  |none=>simp only[RH,bsz,c];omega
  |some d=>
   rw[he]at h;have:=bD (IA h).2;simp only[RH,bsz,g];omega
 ·rw[h];simp only[RH,bsz,c];omega
theorem yB (h:jF k n)(d:List Ba):(aX n d).2.size<=2000000000:=by
 have a:VW.size<=2000000000:=dz;have c:sNo.size<=2000000000:=dz;unfold aX;split;·exact fL
 ·split
  ·unfold gH;split
   ·split
    ·split;·exact a
     ·exact c
    ·exact fL
   ·exact fL
  ·split
   ·unfold k8;split
    ·split
     ·split
      ·unfold oI;show(if _ then _ else _:Ba).size<=_;split;·exact JM
       ·exact o8 (BY _ _).2
      ·exact fL
     ·exact fL
    ·exact fL
   ·split
    ·unfold vB;split
     ·split;·exact a
      ·exact fL
     ·exact fL
    ·split
     ·unfold rW;split;·exact o8 (CD _ _ _).2
      ·exact fL
     ·split
      ·unfold n9;split;·exact o8 (pC _ _).2
       ·exact fL
      ·split
       ·unfold n9;split;·exact o8 (pC _ _).2
        ·exact fL
       ·split
        ·unfold mZ;split
         ·split;·exact o8 (AK _ _).2
          ·exact fL
         ·exact fL
        ·split
         ·unfold yK;split;·exact EU h.b
          ·exact fL
         ·split
          ·unfold oC;split
           ·split;·exact NY _ _ _ _
            ·exact fL
           ·exact fL
          ·exact fL
theorem xC (l:List Ba)(k:Nat)(h:k<ln l):oR (l.take (k+1))=IR (oR (l.take k)) l[k]:=by
 rw[oR,oR,tsa h,List.foldl_append];rfl
theorem st0_ok:jF 0 st0:=⟨dz,nlq _⟩
theorem IW (l:List Ba):∀k,k<=ln l->jF k (oR (l.take k)).1/\(oR (l.take k)).2.size<=k*2000000001
 |0,_=>⟨st0_ok,by show(ByteArray.mk #[]).size<=_;decide⟩
 |k+1,h=>by
  obtain⟨a,h2⟩:=IW l k om;rw[xC l k om];refine⟨aAI a _,?_⟩;have h3:=yB a (bG 32 l[k]);have e:sLf.size=1:=rfl;show((oR (l.take k)).2++(aX (oR (l.take k)).1 (bG 32 l[k])).2++sLf).size<=_;simp only[bsz,e];omega
variable {g b Z n sz m:Nat}{c d f v:Va}{y:Bx}{t:List Bx}{w:Wd}{xs:List Va}{j:Oa}
def KG (D:Nat)(tv vn:Value)(g oo:Nat)(y:Bx)(t:List Bx)(Z:Nat)(j:Nat)(vs:Nat->Value)(w:World):Prop:=
 match j with
 |0=>vs 0=(E D 0)
 |1=>vs 1=(E D 0)
 |2=>vs 2=(E D 0)
 |3=>vs 3=(E D 3)
 |4=>vs 4=tv
 |6=>vs 6=vn
 |7=>vs 7=(E g oo)
 |8=>vs 8=I y.x
 |9=>vs 9=vn
 |10=>vs 10=(E g (oo+1))
 |11=>vs 11=I y.y
 |12=>vs 12=vn
 |13=>vs 13=(E g (oo+2))
 |14=>vs 14=I y.lo
 |15=>vs 15=vn
 |16=>vs 16=(E g (oo+3))
 |17=>vs 17=I y.hi
 |18=>vs 18=vn
 |19=>vs 19=(E g (oo+4))
 |20=>vs 20=I y.i
 |21=>vs 21=vn
 |22=>vs 22=(E g (oo+5))
 |23=>vs 23=I y.o
 |24=>vs 24=.agg #[I y.x,I y.y,I y.lo,I y.hi,I y.i,I y.o]
 |5=>w.ownsRow Z 91 6 (vs 5) t.length (fG t)
 |25=>∃p,vs 25=.slice (some (Y p 0)) 1 1/\w.heap[p]?=some (.cells #[I y.x,I y.y,I y.lo,I y.hi,I y.i,I y.o] 91)
 |_=>True
theorem KG.zL (j:Nat)(e:Nat->Va)(w w':Wd)(h:KG D c d g b y t Z j e w)(a:aG w w'):KG D c d g b y t Z j e w':=by
 unfold KG at*;split at h
 all_goals first
  |exact h
  |exact dC h a
  |(obtain⟨p,f,i⟩:=h;exact⟨p,f,bJ i a⟩)
def dpB7 (j:Nat):List Nat:=[j]
def YT (j:Nat):Bool:=j==0
theorem KG.loc (j:Nat)(b a:Nat->Va)(w:Wd)(i:∀q∈dpB7 j,b q=a q)(h:KG D d f g n y t Z j b w):KG D d f g n y t Z j a w:=by
 have e:b j=a j:=i j (by simp[dpB7]);unfold KG at*;split at h
 all_goals first
  |(rw[←e];exact h)
  |trivial
def PfB7 (D:Nat)(_:Nat)(v:Value):Prop:=v=(E D 0)
theorem KG.free (j:Nat)(b:Nat->Va)(w:Wd)(a:YT j=true)(h:KG D d f g n y t Z j b w):PfB7 D j (b j):=by
 simp[YT]at a;subst a;exact h
structure GB7 (W:World)(D:Nat)(y:Bx)(t:List Bx)(k:Nat)(vs:Nat->Value)(w':World):Prop where
 a:k=26->aG W w'/\w'.ownsRow W.heap.size 91 6 (vs 5) t.length (fG t)/\∃p,vs 25=.slice (some ⟨p,0,none⟩) 1 1/\w'.heap[p]?=some (.cells #[.int .i64 y.x,.int .i64 y.y,.int .i64 y.lo,.int .i64 y.hi,.int .i64 y.i,.int .i64 y.o] 91)
 b:27<=k->aG W w'/\w'.ownsRow W.heap.size 91 6 (vs 26) (t.length+1) (fG t++aR y)
 c:28<=k->vs 27=.pointer (some ⟨D,0,none⟩)
 d:29<=k->vs 28=.pointer (some ⟨D,3,none⟩)
theorem U6 (h:w.ownsRow D n sz v m xs)(hb:Z<=D):w.ownsRow Z n sz v m xs:=by
 obtain⟨c,h|⟨g,a,b,d,h2,f⟩⟩:=h;·exact⟨c,.inl h⟩
 ·exact⟨c,.inr ⟨g,a,b,d,om,f⟩⟩
theorem CJ {s:St}(h:¬(ln a=6/\j7 a=true)):vB s a=(s,dR):=by
 unfold vB;split
 ·split
  ·rename_i hx;exact absurd ⟨rfl,hx⟩ h
  ·rfl
 ·rfl
theorem ws6 (h:ln a=6):∃b c d e f g,a=[b,c,d,e,f,g]:=by
 match a,h with
 |[b,c,d,e,f,g],_=>exact⟨b,c,d,e,f,g,rfl⟩
theorem VS {S:Nat->Prop}{l:List Bx}(g:n=ln l)(h:w.ownsRow D 91 6 (.slice j n Z) n (fG l))(d:∀k,S k->k<D):∀w',aU S w w'->jG w' j l:=λw' e=>by
 subst g;have b:w'.ownsRow D 91 6 (.slice j (ln l) Z) (ln l) (fG l):=jI h (λk cs hz f=>e.block k (iB f) (λi=>by have:=d k i;omega));exact(aN.of_owns b).xs
theorem lineBox (D:Nat) (w:World) (s:St) (b:Bk) (ta:Option Addr) (tc kk:Nat) (O:o9 D w s b ta tc) (zs:jF kk s) (hkk:kk<=1000) (n:ByteArray) (a:List ByteArray) (bl L C:Nat) (hX:Xs 1 eE w (some (Y bl L)) (n::a)) (hcap:a.length+1<=C) (hlen:a.length+1<=1048570) (_hsz:∀x∈n::a,x.size<=1048575) (hn:n.toList=JD):
 aW 23 #[E D 0,.slice (some (Y bl L)) (a.length+1) C] w λe w'=>RO D w (aX s (n::a)) e w':=by
 obtain⟨ib,zr,zm,H,zn⟩:=info_parts Tryz.info91;have c0:=iC hX 0 n rfl;rw[naz]at c0;have ze:Xs 1 eE w (some (Y bl (L+1))) a:=jN hX 1 [n] _ [] sm rfl;go_enter Tryz.func23,Tryz.ntmps23;go_upto_region 1 with fail;go_cut [5,6] (λv5 v6 wx=>v6=.bool (j7 a)/\Hid (j7 a=true->∃a' c',v5=.slice a' (aS a).length c'/\Xs 1 dV wx a' (aS a))/\aG w wx)
 case first=>
  by_cases zq:C=1
  ·have ha:a=[]:=enl om;subst ha;subst zq;go_wp2_with fail;refine(cC [] (some (Y bl L)) 0 w (.inl rfl) sm).mono ?_;rintro e w1 ⟨⟨v1,rfl,K⟩,H⟩;have V:=aI K;clear K;go_wp2;go_meet;exact⟨rfl,V,H⟩
  ·have hc2:1<C:=om;go_wp2_with fail;refine(cC a (some (Y bl (L+1))) (C-1) w ze om).mono ?_;rintro e w1 ⟨⟨v1,rfl,K⟩,H⟩;have V:=aI K;clear K;go_wp2;go_meet;exact⟨rfl,V,H⟩
 case rest=>
  obtain⟨rfl,HV,hN⟩:=hcut;replace hX:=hX.zL hN;replace c0:=(hN.cell (aA c0)).trans c0;replace O:=O.zL hN;have HN:=aI hN;clear ze hN;have ht1:s.t.length<=1000:=by have:=zs.t;omega
  by_cases P:a.length=6/\j7 a=true
  ·obtain⟨P,f⟩:=P;obtain⟨x0,x1,x2,x3,x4,x5,rfl⟩:=ws6 P;obtain⟨a6,c6,rfl,zt⟩:=HV.oQ f;rcases zt with h|⟨g,B,rfl,A⟩;·simp[aS]at h
   have zb:Hid (aX s [n,x0,x1,x2,x3,x4,x5]=(⟨s.b,s.t++[⟨aV x0,aV x1,aV x2,aV x3,aV x4,aV x5⟩]⟩,VW)):=by
    rw[Hid,aX,hn];show vB s [x0,x1,x2,x3,x4,x5]=_;rw[vB,if_pos f]
   have j0:wc.cell? (Y g B)=some (I (aV x0)):=by have:=A 0 (by simp[aS]) 0 _ rfl;simpa[aS]using this
   have j1:wc.cell? (Y g (B+1))=some (I (aV x1)):=by have:=A 1 (by simp[aS]) 0 _ rfl;simpa[aS]using this
   have j2:wc.cell? (Y g (B+2))=some (I (aV x2)):=by have:=A 2 (by simp[aS]) 0 _ rfl;simpa[aS]using this
   have j3:wc.cell? (Y g (B+3))=some (I (aV x3)):=by have:=A 3 (by simp[aS]) 0 _ rfl;simpa[aS]using this
   have j4:wc.cell? (Y g (B+4))=some (I (aV x4)):=by have:=A 4 (by simp[aS]) 0 _ rfl;simpa[aS]using this
   have j5:wc.cell? (Y g (B+5))=some (I (aV x5)):=by have:=A 5 (by simp[aS]) 0 _ rfl;simpa[aS]using this
   have e5:(aS [x0,x1,x2,x3,x4,x5]).length=6:=rfl;rw[e5,f];obtain⟨y,R⟩:=bQ (⟨aV x0,aV x1,aV x2,aV x3,aV x4,aV x5⟩:Bx);have U:Hid (aX s [n,x0,x1,x2,x3,x4,x5]=(⟨s.b,s.t++[y]⟩,VW)):=by rw[R];exact zb.oQ
   replace j0:wc.cell? (Y g B)=some (I y.x):=by rw[R];exact j0
   replace j1:wc.cell? (Y g (B+1))=some (I y.y):=by rw[R];exact j1
   replace j2:wc.cell? (Y g (B+2))=some (I y.lo):=by rw[R];exact j2
   replace j3:wc.cell? (Y g (B+3))=some (I y.hi):=by rw[R];exact j3
   replace j4:wc.cell? (Y g (B+4))=some (I y.i):=by rw[R];exact j4
   replace j5:wc.cell? (Y g (B+5))=some (I y.o):=by rw[R];exact j5
   clear R zb e5 A f P HV hX;go_upto_region 7 with fail;refine ZC 6 26 29 [some 53,some 54,some 55,some 56,some 57,some 58,some 59,some 60,some 61,some 62,some 63,some 64,some 65,some 66,some 67,some 68,some 69,some 70,some 71,some 72,some 73,some 74,some 75,some 76,some 77,some 78,some 79,some 80,some 81] YT dpB7 (KG D (.slice ta s.t.length tc) (.slice (some (Y g B)) 6 c6) g B y s.t wc.heap.size) (PfB7 D) (GB7 wc D y s.t) KG.zL KG.loc KG.free ?step ?free ?g0 ?gf ?store ?fin
   case step=>
    intro ii o G w' zg f m z;obtain⟨z0z,z1z,z2z,z3z⟩:=(O.zL m).c;have y0y:=(m.cell (aA j0)).trans j0;have y1y:=(m.cell (aA j1)).trans j1;have y2y:=(m.cell (aA j2)).trans j2;have y3y:=(m.cell (aA j3)).trans j3;have y4y:=(m.cell (aA j4)).trans j4;have y5y:=(m.cell (aA j5)).trans j5;match ii,zg with
    |2,_|3,_|4,_|7,_|8,_|10,_|11,_|13,_|14,_|16,_|17,_|19,_|20,_|22,_|23,_|24,_=>
     simp at f;subst f;simp[Region.binds,KG]at z;simp only[aD,Act.put,z];gi_wp2;exact⟨_,by simp[aH,z],rfl,br _ _⟩
    |0,_|1,_|6,_|9,_|12,_|15,_|18,_|21,_=>
     simp at f;subst f;simp only[aD,Act.put];gi_wp2;exact⟨_,by simp[aH],rfl,br _ _⟩
    |5,_=>
     simp at f;subst f;simp[Region.binds,KG]at z;simp only[aD,Act.put,z];gi_wp2_with fail;refine⟨trivial,rfl,?_⟩;refine(cw.2 (uN s.t ta tc w' (O.zL m).tb om)).mono ?_;rintro e w5 ⟨⟨v5,rfl,F⟩,zp⟩;have HO:=aI (U6 F m.size);clear F;gi_wp2;exact⟨_,by simp[aH,z],HO.oQ,zp⟩
    |25,_=>
     simp at f;subst f;simp[Region.binds,KG]at z;simp only[aD,Act.put,z];gi_wp2;exact⟨_,by simp[aH,z],⟨_,rfl,wnq w' _⟩,aC (br _ _) _⟩
    |q+26,h=>omega
   case free=>
    intro i o G w' t zg Z f ht htM r z;have za:i=0:=by simpa[YT]using Z
    subst za;clear r z;simp at f;subst f;simp only[aD,Act.put];gi_wp2;exact⟨(E D 0),by simp[aH],rfl,trivial⟩
   case g0=>
    intro G w' m hp;exact⟨λ_=>⟨m,hp 5 dz rfl,hp 25 dz rfl⟩,λh=>absurd h dz,λh=>absurd h dz,λh=>absurd h dz⟩
   case gf=>
    intro t G w' i v Z r;have za:i=0:=by simpa[YT]using Z
    subst za;exact⟨r.a,r.b,r.c,r.d⟩
   case store=>
    intro t o G w' h12 h15 f r z;have ht:t=26∨t=27∨t=28:=om;rcases ht with rfl|rfl|rfl
    ·simp at f;subst f;obtain⟨m,F,p,zc,hp⟩:=r.a rfl;obtain⟨u5,e5⟩:∃u,G 5=u:=⟨_,rfl⟩;rw[e5]at F
     have J:∀j u,(aR y)[j]?=some u->w'.cell? (((Y p 0):Addr).add j)=some u:=λj u h=>by
      rw[aal,nza];match j,h with
      |0,h|1,h|2,h|3,h|4,h|5,h=>simp[aR]at h;subst h;exact aB hp rfl
     clear r z;simp only[aD,Act.put,sit,lcs,lcz];rw[e5,zc];refine wpListIn_append_own w' rfl (.tmp 58) (.tmp 78) 41 rfl wc.heap.size 91 ib _ 6 48 Tryz.underlying41 zr zm H zn rfl dz u5 s.t.length (fG s.t) rfl F (Y p 0) 1 1 (aR y) rfl rfl J (m9 y) (by unfold maxLen;omega) om m.size (λv1 w1 Q zf _=>?_);have zj:Hid (aG wc w1):=m.grown zf m.size (λq hq=>eH F hq);have zk:=aI Q;clear Q zf J F hp m;gi_wp2;exact⟨v1,by simp[aH,e5,zc,Act.put],λh=>absurd h dz,λ_=>⟨zj.oQ,zk.oQ⟩,λh=>absurd h dz,λh=>absurd h dz⟩
    ·simp at f;subst f;have d0:G 0=(E D 0):=z (eD 0) sm rfl dz rfl;have T:Hid (aG wc w'/\w'.ownsRow wc.heap.size 91 6 (G 26) (s.t.length+1) (fG s.t++aR y)):=r.b dz;clear r z;simp only[aD,Act.put,d0];gi_wp2;exact⟨_,by simp[aH,d0],λh=>absurd h dz,λ_=>T.oQ,λ_=>rfl,λh=>absurd h dz⟩
    ·simp at f;subst f;have W:=r.c dz;have T:Hid (aG wc w'/\w'.ownsRow wc.heap.size 91 6 (G 26) (s.t.length+1) (fG s.t++aR y)):=r.b dz;clear r z;simp only[aD,Act.put,W];gi_wp2;exact⟨_,by simp[aH,W],λh=>absurd h dz,λ_=>T.oQ,λ_=>W,λ_=>rfl⟩
   case fin=>
    intro G w' r hp;have zd:=r.d dz;obtain⟨m,F⟩:=r.b dz
    obtain⟨ta',tc',X⟩:∃a c,G 26=.slice a (s.t.length+1) c:=by
     obtain⟨_,⟨_,e⟩|⟨g,C,_,e,_⟩⟩:=F;·omega
     ·exact⟨_,_,e⟩
    rw[X,←jV]at F;have M:=O.zL m;have zh:=VS (S:=λk=>k=D) (l:=s.t++[y]) sm F (λk e=>by rw[e];exact iB O.o)
    have zl:Hid (o9 D (w'.setCell (Y D 3) (.slice ta' (s.t.length+1) tc')) ⟨s.b,s.t++[y]⟩ b ta' tc'):=by
     have:=M.hand (t':=s.t++[y]) (ta':=ta') (tc':=tc') zh;rw[lla]at this;exact this
    have zi:Hid (aU (λk=>k=D) w (w'.setCell (Y D 3) (.slice ta' (s.t.length+1) tc'))):=aU.set (S:=λk=>k=D) ((aU.below HN.oQ).trans (aU.below m)) (g:=D) rfl _ _;obtain⟨y0,y1,y2,y3⟩:=M.c;have yf:=M.fz;clear hp r m F M zh;simp only[lds,ldz,aD,Act.put];rw[zd,X];clear zd X;generalize G=G;gi_wp2_with fail;go_wp2;go_ret;exact⟨⟨_,_,_,by rw[U.oQ];exact zl.oQ⟩,by rw[U.oQ];rfl,zi.oQ⟩
  ·have U:Hid (aX s (n::a)=(s,dR)):=by rw[Hid,←CJ (s:=s) P,aX,hn];rfl
   by_cases N:a.length=6
   ·have f:j7 a=false:=by
     cases e:j7 a with
     |false=>rfl
     |true=>exact absurd ⟨N,e⟩ P
    rw[f,N];clear P N HV;go_wp2;go_ret;exact⟨⟨_,_,_,by rw[U.oQ];exact O⟩,by rw[U.oQ];rfl,aU.below HN.oQ⟩
   ·have hl':((a.length:Int)+1==7)=false:=by rw[bfn];omega
    clear P N;go_wp2;go_ret;exact⟨⟨_,_,_,by rw[U.oQ];exact O⟩,by rw[U.oQ];rfl,aU.below HN.oQ⟩
theorem YC (D:Nat) (w:Wd) (s:St) (b:Bk) (ta:Oa) (G A:Nat) (j:o9 D w s b ta G) (z:jF A s) (_hkk:A<=1000) (n:Ba) (a:List Ba) (l d f:Nat) (p:Xs 1 eE w (some (Y l d)) (n::a)) (hcap:ln a+1<=f) (hlen:ln a+1<=1048570) (hsz:∀x∈n::a,x.size<=1048575) (F:n.toList=vI):
 aW 23 #[E D 0,.slice (some (Y l d)) (ln a+1) f] w λe w'=>RO D w (aX s (n::a)) e w':=by
 have u:=iC p 0 n rfl;rw[naz]at u;have o:Xs 1 eE w (some (Y l (d+1))) a:=jN p 1 [n] _ [] sm rfl;go_enter Tryz.func23,Tryz.ntmps23;go_upto_region 1 with fail;go_cut [5,6] (λL M H=>M=.bool (j7 a)/\Hid (j7 a=true->∃B J,L=.slice B (ln (aS a)) J/\Xs 1 dV H B (aS a))/\aG w H)
 case first=>
  by_cases y:f=1
  ·have ha:a=[]:=enl om;subst ha;subst y;go_wp2_with fail;refine(cC [] (some (Y l d)) 0 w (.inl rfl) sm).mono ?_;rintro e w1 ⟨⟨K,rfl,c⟩,h⟩;have g:=aI c;clear c;go_wp2;go_meet;exact⟨rfl,g,h⟩
  ·go_wp2_with fail;refine(cC a (some (Y l (d+1))) (f-1) w o om).mono ?_;rintro e w1 ⟨⟨K,rfl,c⟩,h⟩;have g:=aI c;clear c;go_wp2;go_meet;exact⟨rfl,g,h⟩
 case rest=>
  obtain⟨rfl,HV,m⟩:=hcut;replace p:=p.zL m;replace u:=ctq m u;replace j:=j.zL m;have q:=aI m;clear o m;by_cases C:ln a=0
  ·have k:Hid (aX s (n::a)=(s,rC s.b)):=by
    rw[enl C,Hid,aX,F];rfl
   rw[C];go_wp2_with fail;refine(VG D wc s b ta G A j z).mono ?_;rintro e w2 ⟨rfl,i⟩;have v:=j.zL i;have t:=aI (aE q.oQ i);clear i j q;go_wp2;go_ret;exact⟨⟨_,_,_,by rw[k.oQ];exact v⟩,by rw[k.oQ];rfl,aU.below t.oQ⟩
  ·have k:Hid (aX s (n::a)=(s,dR)):=by
    obtain⟨x,r,rfl⟩:=List.exists_cons_of_length_pos (by omega:0<ln a);rw[Hid,aX,F];rfl
   have hl':((ln a:Int)+1==1)=false:=by rw[bfn];omega
   go_wp2;go_ret;exact⟨⟨_,_,_,by rw[k.oQ];exact j⟩,by rw[k.oQ];rfl,aU.below q.oQ⟩
theorem XF (D:Nat) (w:Wd) (s:St) (b:Bk) (ta:Oa) (L G:Nat) (A:o9 D w s b ta L) (_hok:jF G s) (_hkk:G<=1000) (n:Ba) (a:List Ba) (t o p:Nat) (y:Xs 1 eE w (some (Y t o)) (n::a)) (hcap:ln a+1<=p) (hlen:ln a+1<=1048570) (_hsz:∀x∈n::a,x.size<=1048575) (d:¬n.toList=pV) (j:¬n.toList=vU) (k:¬n.toList=JD) (c:¬n.toList=pJ) (i:¬n.toList=uZ) (l:¬n.toList=GH) (h:¬n.toList=wB) (g:¬n.toList=vI) (f:¬n.toList=wT):
 aW 23 #[E D 0,.slice (some (Y t o)) (ln a+1) p] w λe w'=>RO D w (aX s (n::a)) e w':=by
 have z:=iC y 0 n rfl;rw[naz]at z;have v:Xs 1 eE w (some (Y t (o+1))) a:=jN y 1 [n] _ [] sm rfl;go_enter Tryz.func23,Tryz.ntmps23;go_upto_region 1 with fail;go_cut [5,6] (λN O H=>O=.bool (j7 a)/\Hid (j7 a=true->∃F K,N=.slice F (ln (aS a)) K/\Xs 1 dV H F (aS a))/\aG w H)
 case first=>
  by_cases B:p=1
  ·have ha:a=[]:=enl om;subst ha;subst B;go_wp2_with fail;refine(cC [] (some (Y t o)) 0 w (.inl rfl) sm).mono ?_;rintro e w1 ⟨⟨M,rfl,m⟩,r⟩;have q:=aI m;clear m;go_wp2;go_meet;exact⟨rfl,q,r⟩
  ·go_wp2_with fail;refine(cC a (some (Y t (o+1))) (p-1) w v om).mono ?_;rintro e w1 ⟨⟨M,rfl,m⟩,r⟩;have q:=aI m;clear m;go_wp2;go_meet;exact⟨rfl,q,r⟩
 case rest=>
  obtain⟨rfl,HV,u⟩:=hcut;replace y:=y.zL u;replace z:=ctq u z;replace A:=A.zL u;have J:=aI u;clear v u
  have C:Hid (aX s (n::a)=(s,dR)):=by
   rw[Hid,aX,if_neg d,if_neg j,if_neg k,if_neg c,if_neg i,if_neg l,if_neg h,if_neg g,if_neg f]
  have nField:(n.toList==[102,105,101,108,100])=false:=by rw[bfn];exact d
  have nWish:(n.toList==[119,105,115,104])=false:=by rw[bfn];exact j
  have nBox:(n.toList==[98,111,120])=false:=by rw[bfn];exact k
  have nAmend:(n.toList==[97,109,101,110,100])=false:=by rw[bfn];exact c
  have nTook:(n.toList==[116,111,111,107])=false:=by rw[bfn];exact i
  have nRef:(n.toList==[114,101,102,117,115,101,100])=false:=by rw[bfn];exact l
  have nTick:(n.toList==[116,105,99,107])=false:=by rw[bfn];exact h
  have nHeld:(n.toList==[104,101,108,100])=false:=by rw[bfn];exact g
  have nBars:(n.toList==[98,97,114,115])=false:=by rw[bfn];exact f
  clear d j k c i l h g f;go_wp2;go_ret;exact⟨⟨_,_,_,by rw[C.oQ];exact A⟩,by rw[C.oQ];rfl,aU.below J.oQ⟩
variable {a:Nat}{b f:Bk}{h g:Va}{nm:Ba}{c:Int}
def JQ (D:Nat)(b:Bk)(vw:Value)(bl off:Nat)(nm:ByteArray)(tv:Value)(s':Bk)(c:Int)(j:Nat)(v:Value)(w:World):Prop:=
 match j with
 |0|1|2|3=>v=(E D 0)
 |4=>v=b.val
 |5=>v=vw
 |6=>v=(E bl (off+1))
 |7=>v=.string nm
 |8=>v=tv
 |9=>∃b':Bk,v=.tuple #[b'.val,I c]/\eI (λk=>k=D) w s' b'
 |10=>∃b':Bk,v=b'.val/\eI (λk=>k=D) w s' b'
 |11=>v=I c
 |_=>True
theorem JQ.zL (j:Nat)(v:Va)(w w':Wd)(d:JQ D b h e a nm g f c j v w)(l:aG w w'):JQ D b h e a nm g f c j v w':=by
 unfold JQ at*;split at d
 all_goals first
  |exact d
  |(obtain⟨b',i,k⟩:=d;exact⟨b',i,k.zL l⟩)
theorem VD (D:Nat) (w:Wd) (s:St) (b:Bk) (ta:Oa) (tc kk:Nat) (G:o9 D w s b ta tc) (zd:jF kk s) (hkk:kk<=1000) (n:Ba) (a:List Ba) (v d i:Nat) (J:Xs 1 eE w (some (Y v d)) (n::a)) (hcap:ln a+1<=i) (hlen:ln a+1<=1048570) (_hsz:∀x∈n::a,x.size<=1048575) (hn:n.toList=pJ):
 aW 23 #[E D 0,.slice (some (Y v d)) (ln a+1) i] w λe w'=>RO D w (aX s (n::a)) e w':=by
 have c0:=iC J 0 n rfl;rw[naz]at c0;have Z:Xs 1 eE w (some (Y v (d+1))) a:=jN J 1 [n] _ [] sm rfl;go_enter Tryz.func23,Tryz.ntmps23;go_upto_region 1 with fail;go_cut [5,6] (λv5 v6 wx=>v6=.bool (j7 a)/\Hid (j7 a=true->∃a' c',v5=.slice a' (ln (aS a)) c'/\Xs 1 dV wx a' (aS a))/\aG w wx)
 case first=>
  by_cases A:i=1
  ·have ha:a=[]:=enl om;subst ha;subst A;go_wp2_with fail;refine(cC [] (some (Y v d)) 0 w (.inl rfl) sm).mono ?_;rintro e w1 ⟨⟨v1,rfl,r⟩,H⟩;have F:=aI r;clear r;go_wp2;go_meet;exact⟨rfl,F,H⟩
  ·go_wp2_with fail;refine(cC a (some (Y v (d+1))) (i-1) w Z om).mono ?_;rintro e w1 ⟨⟨v1,rfl,r⟩,H⟩;have F:=aI r;clear r;go_wp2;go_meet;exact⟨rfl,F,H⟩
 case rest=>
  obtain⟨rfl,HV,T⟩:=hcut;replace J:=J.zL T;replace c0:=ctq T c0;replace G:=G.zL T;have HN:=aI T;clear Z T;by_cases hl:ln a=1
  ·obtain⟨nm,rfl⟩:∃nm,a=[nm]:=leo.1 hl;have P:=iC J 1 nm rfl;clear J hl HV;obtain⟨zb,A⟩:=CD s.b nm s.t;have N:Hid (aX s [n,nm]=(⟨dN s.b s.b.now (gA s.b nm s.t),[]⟩,jC (dX s.b nm s.t))):=by rw[Hid,aX,hn];rfl
   obtain⟨c,B⟩:=cI (dX s.b nm s.t);have M:Hid (aX s [n,nm]=(⟨dN s.b s.b.now (gA s.b nm s.t),[]⟩,jC c)):=by rw[←B];exact N.oQ
   rw[B]at zb A;have zf:=aI B;clear B N;have m:aG wc (wc.alloc (.cells #[] 91)):=aC (br _ _) _;have f:=G.zL m;obtain⟨W0,W⟩:=cI (wc.alloc (.cells #[] 91));rw[W]at f m;obtain⟨q0,q1,q2,q3⟩:=G.c;obtain⟨y0,y1,y2,y3⟩:=f.c;have yf:=f.fz;have l:o9 D (W0.setCell (Y D 3) (sl wc.heap.size 0 0 0)) ⟨s.b,[]⟩ b (some (ya wc 0)) 0:=f.hand (t':=[]) (λ_ _=>.inl rfl);have z:aU (λk=>k=D) W0 (W0.setCell (Y D 3) (sl wc.heap.size 0 0 0)):=(aU.refl (λk=>k=D) W0).set (g:=D) rfl _ _;have O:Hid (jG (W0.setCell (Y D 3) (sl wc.heap.size 0 0 0)) ta s.t):=f.t _ z;have L:=aI (((aU.below HN.oQ).trans (aU.below m)).trans z);have S:v≠D:=G.ne P;have Q:=ctq m P;replace P:=z.cell (p:=(Y v (d+1))) S Q;clear f m z;go_upto_region 12 with fail;obtain⟨W1,X⟩:=cI (W0.setCell (Y D 3) (sl wc.heap.size 0 0 0));rw[X]at l O L P ⊢;clear X W y0 y1 y2 y3 yf q0 q1 q2 q3 G S Q;refine pG 12 [some 100,some 101,some 102,some 103,some 104,some 105,some 106,some 107,some 108,some 109,some 110,some 111] (JQ D b (sl v d 2 i) v d nm (.slice ta (ln s.t) tc) (dN s.b s.b.now (gA s.b nm s.t)) c) JQ.zL ?step ?fin
   case step=>
    intro ii o vs w' zi zc y u;obtain⟨z0z,z1z,z2z,z3z⟩:=(l.zL y).c;have z4z:=ctq y P;match ii,zi with
    |2,_|3,_|4,_|6,_|7,_=>
     cases zc;simp[Region.binds,JQ]at u;simp only[aD,Act.put,u];gi_wp2;exact⟨_,by simp[aH,u],rfl,br _ _⟩
    |0,_|1,_|5,_|8,_=>
     cases zc;gi_wp2;exact⟨_,uhx,rfl,br _ _⟩
    |9,_=>
     cases zc;simp[Region.binds,JQ]at u;simp only[aD,Act.put,u];gi_wp2_with fail;refine tqx ?_;refine(cw.2 (QF (S':=λk=>k=D) (l.zL y).b zd.b nm s.t ta tc (O.oQ.zL y) (by have:=zd.t;omega) (λk e=>by rw[e];exact iB (l.zL y).o))).mono ?_;rintro e w5 ⟨⟨b',rfl,j⟩,zh⟩;have C:=aI j;clear j;rw[zf.oQ];gi_wp2;exact⟨_,by simp[aH,u],⟨b',rfl,C.oQ⟩,zh⟩
    |10,_=>
     cases zc;obtain⟨b',R,j⟩:=Zq u 9;have C:=aI j;clear u j;simp only[aD,Act.put,R];gi_wp2;exact⟨_,by simp[aH,R],⟨b',rfl,C.oQ⟩,br _ _⟩
    |11,_=>
     cases zc;obtain⟨b',R,j⟩:=Zq u 9;have C:=aI j;clear u j;simp only[aD,Act.put,R];gi_wp2;exact⟨_,by simp[aH,R],rfl,br _ _⟩
    |q+12,h=>omega
   case fin=>
    intro vs w8 y hp;have e0:vs 0=(E D 0):=hp 0 dz;obtain⟨b',eb,j⟩:=hp 10 dz;have ec:vs 11=I c:=hp 11 dz;have U:=l.zL y;have K:=aI (L.oQ.trans (aU.below y));have C:=aI j;clear hp y j;simp only[lds,ldz,aD,Act.put];rw[e0,eb,ec];clear e0 eb ec;generalize vs=vs;gi_wp2_with fail;refine tqx ?_;refine(cw.2 (sM D w8 _ b _ _ U _ b' C.oQ c zb A)).mono ?_;rintro e w9 ⟨⟨b9,ta9,tc9,V⟩,rfl,za⟩;have zg:=aI V;have ze:=aI (K.oQ.trans za);clear V za K C U;gi_wp2_with fail;go_wp2;go_ret;exact⟨⟨_,_,_,by rw[M.oQ];exact zg.oQ⟩,by rw[M.oQ];rfl,ze.oQ⟩
  ·have M:Hid (aX s (n::a)=(s,dR)):=by rw[Hid,←BR (s:=s) hl,aX,hn];rfl
   have hl':((ln a:Int)+1==2)=false:=by rw[bfn];omega
   clear hl;go_wp2;go_ret;exact⟨⟨_,_,_,by rw[M.oQ];exact G⟩,by rw[M.oQ];rfl,aU.below HN.oQ⟩
variable {a:List Ba}
def DB20 (D:Nat)(vw:Value)(bl off:Nat)(nm xw:ByteArray)(x:Int)(j:Nat)(v:Value)(_w:World):Prop:=
 match j with
 |0=>v=(E D 0)
 |1|4=>v=vw
 |2=>v=(E bl (off+1))
 |3=>v=.string nm
 |5=>v=(E bl (off+2))
 |6=>v=.string xw
 |7=>v=I x
 |_=>True
theorem yA {s:St}(h:¬(ln a)=2):oC s a=(s,dR):=by
 unfold oC;split;·simp at h
 ·rfl
theorem ws2 (h:ln a=2):∃b c,a=[b,c]:=by
 match a,h with
 |[b,c],_=>exact⟨b,c,rfl⟩
theorem XP (D:Nat) (w:Wd) (s:St) (b:Bk) (ta:Oa) (tc U:Nat) (F:o9 D w s b ta tc) (S:jF U s) (hkk:U<=1000) (n:Ba) (a:List Ba) (m d f:Nat) (r:Xs 1 eE w (some (Y m d)) (n::a)) (hcap:ln a+1<=f) (hlen:ln a+1<=1048570) (_hsz:∀x∈n::a,x.size<=1048575) (hn:n.toList=wT):
 aW 23 #[E D 0,.slice (some (Y m d)) (ln a+1) f] w λe w'=>RO D w (aX s (n::a)) e w':=by
 have N:=iC r 0 n rfl;rw[naz]at N;have G:Xs 1 eE w (some (Y m (d+1))) a:=jN r 1 [n] _ [] sm rfl;go_enter Tryz.func23,Tryz.ntmps23;go_upto_region 1 with fail;go_cut [5,6] (λv5 v6 wx=>v6=.bool (j7 a)/\Hid (j7 a=true->∃V c',v5=.slice V (ln (aS a)) c'/\Xs 1 dV wx V (aS a))/\aG w wx)
 case first=>
  by_cases P:f=1
  ·have ha:a=[]:=enl om;subst ha;subst P;go_wp2_with fail;refine(cC [] (some (Y m d)) 0 w (.inl rfl) sm).mono ?_;rintro e w1 ⟨⟨v1,rfl,g⟩,u⟩;have k:=aI g;clear g;go_wp2;go_meet;exact⟨rfl,k,u⟩
  ·go_wp2_with fail;refine(cC a (some (Y m (d+1))) (f-1) w G om).mono ?_;rintro e w1 ⟨⟨v1,rfl,g⟩,u⟩;have k:=aI g;clear g;go_wp2;go_meet;exact⟨rfl,k,u⟩
 case rest=>
  obtain⟨rfl,HV,C⟩:=hcut;replace r:=r.zL C;replace N:=ctq C N;replace F:=F.zL C;have L:=aI C;clear G C;by_cases H:ln a=2
  ·obtain⟨nm,i,rfl⟩:=ws2 H;have c1:=iC r 1 nm rfl;have c2:=iC r 2 i rfl;have c:Hid (aX s [n,nm,i]=if 0<=aV i then(s,nO s.b nm s.t (aV i))else(s,dR)):=by rw[Hid,aX,hn];rfl
   obtain⟨x,hx⟩:=cI (aV i);have l:=aI hx;rw[hx]at c;clear hx H HV r;by_cases AR:0<=x
   ·have j:Hid (aX s [n,nm,i]=(s,nO s.b nm s.t x)):=by rw[Hid,c.oQ,if_pos AR]
    have T:decide (0<=x)=true:=det AR;clear c;go_wp2_with fail;refine(nD i wc).mono ?_;rintro e w1 ⟨rfl,rfl⟩;rw[l.oQ];go_upto_region 20 with fail;refine pG 8 [some 199,some 200,some 201,some 202,some 203,some 204,some 205,some 206] (DB20 D (sl m d 3 f) m d nm i x) (λ_ _ _ _ h _=>h) ?step ?fin
    case step=>
     intro ii o A w' Q R y z;have z0z:=ctq y c1;have z1z:=ctq y c2;match ii,Q with
     |2,_|3,_|5,_|6,_=>
      cases R;simp[Region.binds,DB20]at z;simp only[aD,Act.put,z];gi_wp2;exact⟨_,by simp[aH,z],rfl,br _ _⟩
     |0,_|1,_|4,_=>
      cases R;gi_wp2;exact⟨_,uhx,rfl,br _ _⟩
     |7,_=>
      cases R;simp[Region.binds,DB20]at z;simp only[aD,Act.put,z];gi_wp2_with fail;refine tqx ?_;refine(cw.2 (nD i w')).mono ?_;rintro e w5 ⟨rfl,rfl⟩;rw[l.oQ];have O:=br w5.heap.size w5;gi_wp2;exact⟨_,by simp[aH,z],rfl,O⟩
     |q+8,h=>omega
    case fin=>
     intro A w8 y J;have W:A 0=(E D 0):=J 0 dz;have X:A 3=.string nm:=J 3 dz;have Z:A 7=I x:=J 7 dz;have p:=F.zL y;have B:=aI (aE L.oQ y);clear J y;simp only[lds,ldz,aD,Act.put];rw[W,X,Z];clear W X Z;generalize A=A;gi_wp2_with fail;refine tqx ?_;refine(cw.2 (SP D w8 s b ta tc U nm x p S om)).mono ?_;rintro e w9 ⟨rfl,v⟩;have M:=aI (p.zL v);have K:=aI (aE B.oQ v);clear v B p;gi_wp2_with fail;go_wp2;go_ret;exact⟨⟨_,_,_,by rw[j.oQ];exact M.oQ⟩,by rw[j.oQ];rfl,aU.below K.oQ⟩
   ·have j:Hid (aX s [n,nm,i]=(s,dR)):=by rw[Hid,c.oQ,if_neg AR]
    have T:decide (0<=x)=false:=def0 AR;clear c;go_wp2_with fail;refine(nD i wc).mono ?_;rintro e w1 ⟨rfl,rfl⟩;rw[l.oQ];go_wp2;go_ret;exact⟨⟨_,_,_,by rw[j.oQ];exact F⟩,by rw[j.oQ];rfl,aU.below L.oQ⟩
  ·have j:Hid (aX s (n::a)=(s,dR)):=by rw[Hid,←yA (s:=s) H,aX,hn];rfl
   have hl':((ln a:Int)+1==3)=false:=by rw[bfn];omega
   clear H;go_wp2;go_ret;exact⟨⟨_,_,_,by rw[j.oQ];exact F⟩,by rw[j.oQ];rfl,aU.below L.oQ⟩
