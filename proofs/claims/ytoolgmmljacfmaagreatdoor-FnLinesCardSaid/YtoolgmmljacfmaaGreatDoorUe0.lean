import Derived.Test.YtoolgmmljacfmaaGreatDoorTf2
import Derived.Test.YtoolgmmljacfmaaGreatDoorXa
set_option maxRecDepth 100000
set_option maxHeartbeats 8000000
open List renaming length → ln
open Go.RowKit
namespace Go.Proofs.YtoolgmmljacfmaaGreatDoor
open Go.Shelf Go.BigFrame
variable {w1 w w':Wd}{R n a P i k j z:Nat}{c d f r l:Oa}{g e u:List Fx}{b b':Bk}{q q':Int}{v:Ev}{L o:Nat → Prop}{m W:Va}{p x:Array Va}
structure JK (w1:World)(R n cap:Nat)(ao:Option Addr)(q:Int)(P:Nat)(fl:List Fx)(b:Bk)(w:World):Prop where
 rd:∃p,p<=q/\Rd w R ao n cap p
 but:aZ R w1 w
 bk:w.heap[P]?=some b.obj
 sp:dS (R+1) w b
 ok:aO b=true
 fl:b.fl=fl
theorem JK.read {q q' f:Int}(h:JK w1 R n a c q P g b w)(d:aZ R w w')(j:Rd w' R c n a f)(i:f<=q')(hP:R<P):JK w1 R n a c q' P g b w':=by
 obtain⟨p,_,e⟩:=h.rd;exact⟨⟨f,i,j⟩,h.but.trans d,(d.block P (oH h.bk) om).trans h.bk,h.sp.oth (F4.rd d e),h.ok,h.fl⟩
theorem JK.wide {R n a:Nat}(h:JK w1 R n a c q P g b w)(hq:q<=q'):JK w1 R n a c q' P g b w:=
 ⟨h.rd.imp λ_ h=>⟨om,h.2⟩,h.but,h.bk,h.sp,h.ok,h.fl⟩
theorem JK.below {w1 w w':Wd}{R n a:Nat}(h:JK w1 R n a d q P e b w)(f:aG w w')(g:R<P):JK w1 R n a d q P e b w':=by
 obtain⟨p,i,c⟩:=h.rd;exact h.read (aZ.below f) (c.zL (f.mono c.lt)) i g
theorem JK.put (h:JK w1 R n a f q P u b w)(hP:R<P)(e:w1.heap.size<=P)(r:dS (R+1) w b')(d:aO b'=true)(l:b'.fl=u)(s:FF w (P+1) v):
 JK w1 R n a f q P u b' (((w.setCell (Y P 0) (I b'.now)).setCell (Y P 1) (.slice b'.fa (ln b'.fl) b'.fc)).setCell (Y P 2) (.slice b'.ha (ln b'.hl) b'.hc))/\FF (((w.setCell (Y P 0) (I b'.now)).setCell (Y P 1) (.slice b'.fa (ln b'.fl) b'.fc)).setCell (Y P 2) (.slice b'.ha (ln b'.hl) b'.hc)) (P+1) v:=by
 have i:=aP h.bk 0 (I b'.now);have j:=aP i 1 (fs b');have t:=aP j 2 (hs b');have g:=((F4.set h.bk dz 0 (I b'.now)).trans (F4.set i dz 1 (fs b'))).trans (F4.set j dz 2 (hs b'));obtain⟨p,m,o⟩:=h.rd;have k:Below P w (((w.setCell (Y P 0) (I b'.now)).setCell (Y P 1) (fs b')).setCell (Y P 2) (hs b')):=(((br P w).setCell (p:=(Y P 0)) (nlq _) _).setCell (p:=(Y P 1)) (nlq _) _).setCell (p:=(Y P 2)) (nlq _) _;exact⟨⟨⟨p,m,o.zL (k.mono om)⟩,((h.but.setAbove e 0 _).setAbove e 1 _).setAbove e 2 _,t,r.oth g,d,l⟩,s.oth g⟩
theorem FF.line (h:FF w R v):v.x.n.size<=1000/\(ln v.x.wl)<=3/\(ln v.x.ll)<=3/\∀y∈v.x.wl,ln y.l<=1000:=by
 rcases h.x with h|h;·exact⟨by have:=h.n3;omega,h.w3,h.l3,λy a=>by have:=(h.yn y a).l2;omega⟩
 ·rw[h];exact⟨by show(0:Nat)<=_;omega,by simp[D2],by simp[D2],λy a=>by simp[D2]at a⟩
def TB (W:World)(R n cap:Nat)(ao:Option Addr)(q:Int)(i k:Nat)(L:Nat->Prop)(w:World):Prop:=aZ R W w/\∃p,Rd w R ao n cap p/\p<=q+2/\(¬L i->p<=q+1)/\(¬L k->p<=q+1)/\(¬L i->¬L k->p<=q)
theorem TB.same {W w w':Wd}(h:TB W R n P r q i k L w)(m:∀j,L j->o j)(s:aG w w'):TB W R n P r q i k o w':=by
 obtain⟨u,p,t,a,b,c,d⟩:=h;exact⟨u.trans (aZ.below s),p,t.zL (s.mono t.lt),a,λe=>b (λf=>e (m _ f)),λe=>c (λf=>e (m _ f)),λe g=>d (λf=>e (m _ f)) (λf=>g (m _ f))⟩
theorem TB.step (h:TB w1 R n P l q i k L w)(m:¬L j)(t:j=i∨j=k):∃p,Rd w R l n P p/\p<=q+2/\∀w',Rd w' R l n P (p+1)->aZ R w w'->TB w1 R n P l q i k (λx=>L x∨x=j) w':=by
 obtain⟨s,p,u,a,b,c,d⟩:=h;refine⟨p,u,a,λw' r o=>⟨s.trans o,p+1,r,?_⟩⟩;rcases t with rfl|rfl;·exact⟨by have:=b m;omega,λe=>absurd (Or.inr rfl) e,λe=>by have:=d m (λf=>e (.inl f));omega,λe=>absurd (Or.inr rfl) e⟩
 ·exact⟨by have:=c m;omega,λe=>by have:=d (λf=>e (.inl f)) m;omega,λe=>absurd (Or.inr rfl) e,λ_ e=>absurd (Or.inr rfl) e⟩
def YN (R k b:Nat)(v:Value)(w:World):Prop:=∃bl cs,v=.slice (some (Y bl 0)) k k/\bl≠R/\w.heap[bl]?=some (.cells cs 9)/\cs.size=k/\∀u∈cs,Tx b u
theorem YN.but (h:YN R k n m w)(i:aZ R w w'):YN R k n m w':=by
 obtain⟨a,e,f,c,d,g⟩:=h;exact⟨a,e,f,c,(i.block a (oH d) c).trans d,g⟩
theorem YN.new (hR:R<w.heap.size)(d:n=w.heap.size)(c:p.size=k)(h:∀u∈p,Tx P u):YN R k P (.slice (some (Y n 0)) k k) (w.alloc (.cells p 9)):=
 ⟨n,p,rfl,om,by rw[d];exact wnq w _,c,h⟩
theorem X6 (h:Rd w R d n P q')(u:q'<=999999)(x:YN R k z W w)(j:1<=k)(l:k<=1000):
 aW 15 #[E R 0,W] w λe w'=>(∃t:Ba,e=rt (.string t)/\t.size<=z)/\Rd w' R d n P (q'+1)/\aZ R w w':=by
 obtain⟨g,f,rfl,q,r,hk,s⟩:=x
 have hx:∀i,i<k->∃t:Ba,f[i]?=some (.string t)/\t.size<=z:=λi a=>by
  obtain⟨t,e,y⟩:=s f[i] (Array.getElem_mem om);exact⟨t,by rw[age om,e],y⟩
 refine(QU R n P d q' w h u g k k (λi=>if a:i<k then Classical.choose (hx i a)else⟨#[]⟩) (Ne.symm q) j l (λi a=>?_)).mono ?_
 ·simp only[dif_pos a];exact aB r (Classical.choose_spec (hx i a)).1
 ·rintro e w' ⟨⟨i,a,rfl⟩,m,o⟩;simp only[dif_pos a];exact⟨⟨_,rfl,(Classical.choose_spec (hx i a)).2⟩,m,o⟩
theorem of_new {R n a k b z:Nat}(h:Rd w R d n a q')(r:q'<=999999)(s:z=w.heap.size)(q:x.size=k)(o:∀u∈x,Tx b u)(g:1<=k)(i:k<=1000):
 aW 15 #[E R 0,.slice (some (Y z 0)) k k] (w.alloc (.cells x 9)) λe w'=>(∃t:Ba,e=rt (.string t)/\t.size<=b)/\Rd w' R d n a (q'+1)/\aZ R w w':=by
 have f:aG w (w.alloc (.cells x 9)):=aC (br _ _) _;refine (X6 (h.zL (f.mono h.lt)) r (YN.new h.lt s q o) g i).mono ?_;rintro e w' ⟨j,l,m⟩;exact ⟨j,l,(aZ.below f).trans m⟩
def Ka (R E Z b:Nat)(tv:Value)(j:Nat)(v:Value)(w:World):Prop:=
 match j with
 |1=>v=.pointer (some (Y E 11))
 |2=>v=tv
 |5|10=>v=.pointer (some (Y R 0))
 |6|19=>v=.pointer (some (Y E 1))
 |11=>∃m,v=I m
 |12=>Tx 20 v
 |3|7|20=>Tx 1000000 v
 |8|9|13|14=>Tx (1000000+20*j) v
 |15=>YN R 3 Z v w
 |16=>Tx Z v
 |_=>Tx (b+Z*j) v
theorem Ka.but (j:Nat)(v:Va)(w w':Wd)(h:Ka R a n P m j v w)(d:aZ R w w'):Ka R a n P m j v w':=by
 unfold Ka at*;split at h
 all_goals first
  |exact h
  |exact h.but d
def Kh (R E Z b:Nat)(j:Nat)(v:Value)(w:World):Prop:=
 match j with
 |1=>v=.pointer (some (Y R 0))
 |2=>YN R 2 Z v w
 |3|6=>Tx Z v
 |5=>v=.pointer (some (Y E 1))
 |_=>Tx (b+Z*j) v
theorem Kh.but (j:Nat)(v:Va)(w w':Wd)(h:Kh R a n P j v w)(c:aZ R w w'):Kh R a n P j v w':=by
 unfold Kh at*;split at h
 all_goals first
  |exact h
  |exact h.but c
theorem TB.ext (L b:Nat->Prop)(w:Wd)(e:∀j,L j↔b j)(h:TB w1 R n a c q i k L w):TB w1 R n a c q i k b w:=h.same (λj=>(e j).1) (br _ _)
variable {b:Oa}{a:List Fx}{c:Nat}
theorem FC:∀l:List Fx,FO l=aJ Fx.cells l
 |[]=>rfl
 |f::l=>by rw[show FO (f::l)=[.string f.n,I f.x,I f.y]++FO l from rfl,FC l];rfl
theorem NH (h:bU a=true):aO ⟨0,b,a,c,none,[],0⟩=true:=by
 simp[aO,h,oL,iD,dU,bX,kR,gO]
def Kf (P g off n cap k b:Nat)(j:Nat)(v:Value)(_:World):Prop:=
 match j with
 |2|10|19=>v=(E P 1)
 |3|11|20=>v=.slice (some (Y g off)) n cap
 |4|12|21=>v=I (k:Int)
 |5|6|13|22=>v=(E g (off+k*3))
 |14=>v=(E g (off+k*3+1))
 |23=>v=(E g (off+k*3+2))
 |15|24=>∃m,v=I m
 |7|16|25=>Tx 20 v
 |_=>Tx (b+20*j) v
theorem MM (n B:Nat)(M:Option Addr)(w:World)(h:wQ w M n)(hn:n<=1048576)(hc:n<=B)(yz:B<=9223372036854775807):
 aW 4 #[.slice M n B] w λe w'=>(∃t:ByteArray,e=rt (.string t)/\t.size<=1000000000)/\aG w w':=by
 go_enter Tryz.func4,Tryz.ntmps4
 go_wp2_with fail
 refine(XR n B M w h hn hc yz).mono ?_;rintro e w1 ⟨rfl,yx,m,zm⟩;obtain⟨R,hR⟩:=bQ w.heap.size;rw[←hR]at zm ⊢;have yu:=zm.lt;have ze:Hid (∀W,aZ R w1 W->Below R w W):=λW hW=>hW.under (by rw[hR];exact yx) om (nlq _);have yc:=aI hR;clear yx hR h hn hc yz;go_wp2_with fail
 refine(NV R m B M 0 w1 zm om).mono ?_;rintro e w2 ⟨⟨v,N,rfl,C,h2,h3,hf,hB⟩,⟨p2,hp2,xj⟩,T2⟩;rw[FC]at C;obtain⟨fa,fc,rfl⟩:=nI C;have xa:=jY C;have yh:=iV Fx.cells_length C;have xk:=T2.size;go_wp2
 obtain⟨b0,zc⟩:=bQ (⟨0,fa,N,fc,none,[],0⟩:Bk);obtain⟨W4,zt⟩:=cI (w2.alloc (.cells #[I 0,.slice fa N.length fc,ms] 32));rw[zt];have zi:aG w2 W4:=by rw[←zt];exact aC (br _ _) _
 have yl:W4.heap[w2.heap.size]?=some b0.obj:=by rw[←zt,zc];exact wnq w2 _
 have yq:=aI (bW.xs Fx.cells_length (bW.zL yh zi))
 have HN:Hid (∀f∈N,f.n.size<=4/\rD ⟨f.x,f.y⟩):=λf m=>by
  obtain⟨z,a,b,c,d⟩:=hf f m;refine⟨z,?_⟩
  show-100<=f.x/\f.x<=100/\-100<=f.y/\f.y<=100
  omega
 have yd:Hid (JK w1 R m B M 100 w2.heap.size N b0 W4):=by
  refine⟨⟨p2,om,xj.zL (zi.mono om)⟩,T2.trans (aZ.below zi),yl,?_,?_,?_⟩
  ·rw[zc];exact⟨(bW.zL yh zi).weak om,.inl ⟨rfl,rfl⟩,λx hx=>by simp at hx,xa⟩
  ·rw[zc];exact NH hB
  ·rw[zc]
 have zr:Hid (W4.cell? (Y w2.heap.size 1)=some (.slice fa N.length fc)):=aB yl (by rw[zc];rfl);obtain⟨P,ys⟩:=bQ w2.heap.size;rw[←ys]at yd xk zr ⊢;clear xj T2 C yh xa zi hf hB yl zt ys zc
 go_loopw [5,6] (λov iv wr=>∃(k:Nat) (s0:ByteArray),k<=N.length/\ov=.string s0/\iv=I k/\s0.size<=k*1000/\aG W4 wr) (λ_ iv _=>N.length-(intOf iv).toNat)
 case atStart=>exact⟨0,⟨#[]⟩,nz _,rfl,rfl,nlq _,br _ _⟩
 case round=>
  obtain⟨k,s0,hk,rfl,rfl,zp,hM⟩:=hrel;have q1:=(hM.cell (aA zr.oQ)).trans zr.oQ
  by_cases K:k<N.length
  ·have xe:(k:Int)<(N.length:Int):=om
   rcases yq.oQ.zL hM with h|⟨g,zx,xr,zu⟩
   ·rw[h]at K;simp at K
   subst xr;have k0:wr.cell? (Y g (zx+k*3))=some (.string N[k].n):=zu k K 0 _ rfl;have k1:wr.cell? (Y g (zx+k*3+1))=some (I N[k].x):=zu k K 1 _ rfl;have k2:wr.cell? (Y g (zx+k*3+2))=some (I N[k].y):=zu k K 2 _ rfl;have hnz:=(HN.oQ _ (lgm K)).1;have HM:=aI hM;clear zu hM
   go_upto_region 7 with fail
   refine pG 28 [some 21,some 22,some 23,some 24,some 25,some 26,some 27,some 28,some 29,some 30,some 31,some 32,some 33,some 34,some 35,some 36,some 37,some 38,some 39,some 40,some 41,some 42,some 43,some 44,some 45,some 46,some 47,some 48] (Kf P g zx N.length fc k (k*1000)) (λ_ _ _ _ h _=>h) ?step ?fin
   case step=>
    intro ii o vs w' zj C hB A;have z1:=(hB.cell (aA q1)).trans q1;have y0:=(hB.cell (aA k0)).trans k0;have y1:=(hB.cell (aA k1)).trans k1;have y2:=(hB.cell (aA k2)).trans k2;simp only[aD,Act.put]
    match ii,zj with
    |0,_=>
     cases C
     gi_wp2;exact⟨_,by simp[aH];rfl,⟨_,rfl,om⟩,br _ _⟩
    |2,_|10,_|19,_|4,_|12,_|21,_=>
     cases C
     gi_wp2;exact⟨_,by simp[aH],rfl,br _ _⟩
    |3,_|11,_|20,_|5,_|13,_|22,_|6,_|14,_|23,_=>
     cases C
     simp[Region.binds,Kf]at A
     simp only[A];gi_wp2;exact⟨_,by simp[aH,A],rfl,br _ _⟩
    |7,_=>
     cases C
     simp[Region.binds,Kf]at A
     simp only[A];gi_wp2;exact⟨_,by simp[aH,A];rfl,⟨_,rfl,om⟩,br _ _⟩
    |15,_|24,_=>
     cases C
     simp[Region.binds,Kf]at A
     simp only[A];gi_wp2;exact⟨_,by simp[aH,A];rfl,⟨_,rfl⟩,br _ _⟩
    |16,_=>
     cases C
     simp[Region.binds,Kf]at A
     obtain⟨m,em⟩:=A;obtain⟨t,O,hc⟩:=iZ m;simp only[em];gi_wp2_with fail
     refine⟨trivial,rfl,?_⟩;refine(cw.2 (hc w')).mono ?_;rintro e w5 ⟨rfl,Q⟩;gi_wp2;exact⟨_,by simp[aH,em],⟨_,rfl,O⟩,Q⟩
    |25,_=>
     cases C
     simp[Region.binds,Kf]at A
     obtain⟨⟨m,em⟩,-⟩:=A;obtain⟨t,O,hc⟩:=iZ m;simp only[em];gi_wp2_with fail
     refine⟨trivial,rfl,?_⟩;refine(cw.2 (hc w')).mono ?_;rintro e w5 ⟨rfl,Q⟩;gi_wp2;exact⟨_,by simp[aH,em],⟨_,rfl,O⟩,Q⟩
    |8,_|17,_|26,_=>
     cases C
     simp[Region.binds,Kf]at A
     obtain⟨⟨s,H,za⟩,t,U,O⟩:=A;have hz:¬9223372036854775807<s.size+t.size:=om
     simp only[H,U];gi_wp2;exact⟨_,by simp[aH,H,U],⟨_,rfl,fB za O om⟩,br _ _⟩
    |1,_|9,_|18,_|27,_=>
     cases C
     simp[Region.binds,Kf]at A
     obtain⟨s,H,za⟩:=A;simp only[H];gi_wp2;exact⟨_,by simp[aH,H];rfl,⟨_,rfl,fB za (b:=20) dz om⟩,br _ _⟩
    |q+28,h=>omega
   case fin=>
    intro vs w8 hB hp;obtain⟨t,U,O⟩:Tx (k*1000+20*27) (vs 27):=hp 27 dz;have xq:=aI hB;clear hp hB;simp only[lds,ldz,aD,Act.put];rw[U];clear U;generalize vs=vs;gi_wp2_with fail
    go_wp2
    go_roundw
    case rel=>exact⟨k+1,t,om,rfl,gn,om,aE HM.oQ xq.oQ⟩
    case measure=>simp[intOf];omega
  ·have xe:¬(k:Int)<(N.length:Int):=om
   have S:Hid (JK w1 R m B M 100 P N b0 wr):=yd.oQ.below hM om;have xw:s0.size<=3000:=om
   clear yd hM yq zr hk zp K;obtain⟨p5,xt,X⟩:=S.oQ.rd;go_wp2_with fail
   refine(bP R m B M p5 12 wr X om om).mono ?_;rintro e w5 ⟨⟨r,rfl,r0,r1,-⟩,Z,T5⟩
   replace r1:=r1 om
   have J:R<P:=om
   have yo:Hid (JK w1 R m B M 300 P N b0 w5):=S.oQ.read T5 Z om J;clear S T5 X Z;go_wp2
   go_loopw [5,7] (λov i wr=>∃(b:Bk) (s:ByteArray) (k:Int) (j:Nat),ov=.string s/\i=I k/\0<=k/\j+k<=12/\s.size<=3000+30000000*j/\JK w1 R m B M (300+6000*j) P N b wr) (λ_ i _=>(intOf i).toNat)
   case atStart=>exact⟨b0,s0,r,0,rfl,rfl,r0,om,om,yo.oQ⟩
   case round=>
    clear yo xw r0 r1 xt;obtain⟨b,s,k,j,rfl,rfl,hk0,hk,zp,hS⟩:=hrel;have S:Hid _:=hS;obtain⟨p,hp,zw⟩:=hS.rd;obtain⟨c0,c1,c2⟩:=XU hS.bk;have xg:=FP hS.ok;have ym:=aI hS.fl;have xc:2<=b.fl.length:=by rw[hS.fl];exact h2
    have xd:b.fl.length<=3:=by rw[hS.fl];exact h3
    have xl:=kD hS.ok;have zv:=ER hS.ok;clear hS
    by_cases K:0<k
    ·have yj:decide (0<k)=true:=by simp[K]
     go_wp2_with fail
     refine(RY R m B M p b wr zw om om om (λW hW=>(S.oQ.sp.butR hW (Nat.lt_succ_self R)).asks S.oQ.ok |>.hf) om om (λf hf=>(HN.oQ f (by rw[←ym.oQ];exact hf)).2) (λW hW=>⟨((S.oQ.sp.butR hW (Nat.lt_succ_self R)).asks S.oQ.ok).hh,λx hx=>((S.oQ.sp.butR hW (Nat.lt_succ_self R)).inn x hx).1⟩) om (λx hx=>by have:=(zv x hx).2.1;omega) (λx hx=>by have:=(zv x hx).1;omega)).mono ?_
     rintro e w6 ⟨⟨v,rfl,hv⟩,⟨p6,hp6,Z⟩,T6⟩;have yp:=S.oQ.read (q':=300+6000*j+5000) T6 Z om J;have yt:P<wr.heap.size:=oH S.oQ.bk;have xv:=T6.size;have xm:=hv.weak (base':=P+1) yt;have V:aG w6 (w6.alloc v.obj):=aC (br _ _) _;have T:Hid _:=yp.below V J;have zf:Hid _:=xm.oth (F4.below V);have E7:=wnq w6 v.obj;clear c0 c1 c2 hv xm yp V Z T6 zw S;obtain⟨c0,c1,c2⟩:=XU T.oQ.bk;go_wp2_with fail
     have hq:=T.oQ.sp.asks T.oQ.ok;refine(GM b v _ (λW hW=>pX (hq.zL hW) _ rfl) hq zf.oQ.asksW zf.oQ.t.xs (by have:=zf.oQ.tn;omega)).mono ?_;rintro e w7 ⟨hT,V⟩
     rcases hT with⟨zy,_⟩|⟨_,b',rfl,xf,yk,xb,yv⟩
     ·rw[T.oQ.ok]at zy;cases zy
     have xn:R+1<=(w6.alloc v.obj).heap.size:=by
      have:=oH T.oQ.bk;omega
     have zq:Hid _:=T.oQ.below V J;have G:Hid _:=zq.oQ.put J xk (yv.weak xn) (stp_ok T.oQ.ok xf yk xb) (yk.trans ym.oQ) (zf.oQ.oth (F4.below V));have E8:=(V.block _ sm).trans E7;clear hq yv xf yk xb c0 c1 c2 E7;obtain⟨d0,d1,d2⟩:=XU zq.oQ.bk;have df:=jS zq.oQ.bk;have zs:w6.heap.size≠P:=om
     have A8:=bM (bM (bM E8 (p:=(Y P 0)) zs (I b'.now)) (p:=(Y P 1)) zs (.slice b'.fa b'.fl.length b'.fc)) (p:=(Y P 2)) zs (.slice b'.ha b'.hl.length b'.hc);obtain⟨e0,e1,e2,e3,e4,e5,e6,e7,e8,e9,zg,zh⟩:=ev_ob A8
     go_upto_block 4 with fail
     obtain⟨W9,yw⟩:∃W,((w7.setCell (Y P 0) (I b'.now)).setCell (Y P 1) (.slice b'.fa b'.fl.length b'.fc)).setCell (Y P 2) (.slice b'.ha b'.hl.length b'.hc)=W:=⟨_,rfl⟩;obtain⟨l,hE⟩:=bQ w6.heap.size;rw[yw]at G A8 e0 e1 e2 e3 e4 e5 e6 e7 e8 e9 zg zh ⊢;rw[←hE]at e0 e1 e2 e3 e4 e5 e6 e7 e8 e9 zg zh ⊢;have yg:l≠R:=om
     clear V xn zq zf T E8 A8 zs df d0 d1 d2 yw hE xv yt
     go_cut [5] (λov wc=>∃t:ByteArray,ov=.string t/\t.size<=3000+30000000*j+29000000/\JK w1 R m B M (300+6000*j+5010) P N b' wc)
     case first=>
      by_cases k1:v.k=1
      ·have xy:(v.k==1)=true:=by simp[k1]
       clear k1;obtain⟨l1,l2,l3,l4⟩:=G.oQ.2.line;go_wp2_with fail
       refine(OQ v.x W9 G.oQ.2.asksW.hi l1 l2 l3 l4).mono ?_;rintro e xp ⟨⟨u,rfl,hu⟩,yy⟩;have hz:¬9223372036854775807<s.size+u.size:=om
       go_wp2
       go_meet
       exact⟨s++u,rfl,fB zp hu om,(G.oQ.1.below yy J).wide om⟩
      have xy:(v.k==1)=false:=by simp[k1]
      by_cases k2:v.k=2
      ·have xz:(v.k==2)=true:=by simp[k2]
       clear k2;have xx:=G.oQ.2.n;have HV:Hid _:=G.oQ.2;have yi:R<W9.heap.size:=Nat.lt_trans J (oH G.oQ.1.bk);obtain⟨p9,xi,zd⟩:=G.oQ.1.rd
       go_upto_region 18 with fail
       clear e0 e2 e3 e4 e5 e6 e7 e8 e9 zg zv xg xc xd xl K yj h2 h3 yu zm;refine wpIn_wide.1 (qR (F:=Fence.wide) (n:=0) kr [some 77,some 78,some 79,some 80,some 81,some 82,some 83,some 84,some 85,some 86,some 87,some 88,some 89,some 90,some 91,some 92,some 93,some 94,some 95,some 96,some 97,some 98,some 99,some 5] (Ka R l 1000300 s.size (.slice v.ta v.tl.length v.tc)) (aZ R) (TB W9 R m B M p9 11 16) Ka.but kr ?h0 TB.ext ?step ?fin)
       case h0=>exact⟨aZ.below (br _ _).drew,p9,zd.zL (br _ _).drew,om,λ_=>by omega,λ_=>by omega,λ_ _=>ilr _⟩
       case step=>
        intro L ii o vs w' C hL hO D A;have zj:ii<24:=(lgs.1 C).1;have y1:=D.1.cell (p:=(Y l 1)) yg e1;have y11:=D.1.cell (p:=(Y l 11)) yg zh;simp only[aD,Act.put]
        match ii,zj with
        |0,_=>
         cases C
         have hk:vs 23=.string s:=hO 23 _ rfl ⟨(eP 0),sm,rfl,rfl⟩;simp only[hk];gi_wp2;exact⟨_,by simp[aH,hk];rfl,⟨_,rfl,om⟩,aZ.refl _ _,D.same (λ_=>.inl) (br _ _)⟩
        |1,_|5,_|6,_|10,_|19,_=>
         cases C
         gi_wp2;exact⟨_,by simp[aH],rfl,aZ.refl _ _,D.same (λ_=>.inl) (br _ _)⟩
        |2,_=>
         cases C
         simp[Region.binds,Ka]at A
         simp only[A];gi_wp2;exact⟨_,by simp[aH,A],rfl,aZ.refl _ _,D.same (λ_=>.inl) (br _ _)⟩
        |7,_|20,_=>
         cases C
         simp[Region.binds,Ka]at A
         simp only[A];gi_wp2;exact⟨_,by simp[aH,A];rfl,⟨_,rfl,om⟩,aZ.refl _ _,D.same (λ_=>.inl) (br _ _)⟩
        |3,_=>
         cases C
         simp[Region.binds,Ka]at A
         simp only[A];gi_wp2_with fail
         refine⟨trivial,rfl,?_⟩;refine(cw.2 (JW v.tl v.ta v.tc w' (HV.oQ.but D.1 om).t.xs HV.oQ.tn)).mono ?_;rintro e w5 ⟨⟨u,rfl,hu⟩,Q⟩;gi_wp2;exact⟨_,by simp[aH,A];rfl,⟨_,rfl,om⟩,aZ.below Q,D.same (λ_=>.inl) Q⟩
        |11,_=>
         cases C
         simp[Region.binds,Ka]at A
         obtain⟨p0,zl,xh,zk⟩:=D.step hL (.inl rfl);simp only[A];gi_wp2_with fail
         refine⟨trivial,rfl,?_⟩;refine(cw.2 (bP R m B M p0 40 w' zl om om)).mono ?_;rintro e w5 ⟨⟨r,rfl,-⟩,X,T5⟩;gi_wp2;exact⟨_,by simp[aH,A];rfl,⟨_,rfl⟩,T5,zk w5 X T5⟩
        |12,_=>
         cases C
         simp[Region.binds,Ka]at A
         obtain⟨x,ex⟩:=A;obtain⟨t,O,hc⟩:=iZ x;simp only[ex];gi_wp2_with fail
         refine⟨trivial,rfl,?_⟩;refine(cw.2 (hc w')).mono ?_;rintro e w5 ⟨rfl,Q⟩;gi_wp2;exact⟨_,by simp[aH,ex],⟨_,rfl,O⟩,aZ.below Q,D.same (λ_=>.inl) Q⟩
        |15,_=>
         cases C
         simp[Region.binds,Ka]at A
         obtain⟨u,eu,hu⟩:=A;simp only[eu];gi_wp2
         exact⟨_,by simp[aH,eu],YN.new (nll yi D.1.size) rfl (by rfl) (λx hx=>by
          simp at hx
          rcases hx with rfl|rfl
          ·exact⟨_,rfl,dz⟩
          ·exact⟨_,rfl,om⟩),aZ.below (aC (br _ _) _),D.same (λ_=>.inl) (aC (br _ _) _)⟩
        |16,_=>
         cases C
         simp[Region.binds,Ka]at A
         obtain⟨p0,zl,xh,zk⟩:=D.step hL (.inr rfl);simp only[A];gi_wp2_with fail
         refine⟨trivial,rfl,?_⟩;refine(cw.2 (X6 zl om (A.2.1) om om)).mono ?_;rintro e w5 ⟨⟨u,rfl,hu⟩,X,T5⟩;gi_wp2;exact⟨_,by simp[aH,A],⟨_,rfl,hu⟩,T5,zk w5 X T5⟩
        |4,_|13,_|17,_|21,_=>
         cases C
         simp[Region.binds,Ka]at A
         obtain⟨⟨s,H,za⟩,t,U,O⟩:=A;have hz:¬9223372036854775807<s.size+t.size:=om
         simp only[H,U];gi_wp2;exact⟨_,by simp[aH,H,U],⟨_,rfl,fB za O om⟩,aZ.refl _ _,D.same (λ_=>.inl) (br _ _)⟩
        |8,_=>
         cases C
         simp[Region.binds,Ka]at A
         obtain⟨s,H,za⟩:=A;simp only[H];gi_wp2;exact⟨_,by simp[aH,H];rfl,⟨_,rfl,fB (a:=20) dz za om⟩,aZ.refl _ _,D.same (λ_=>.inl) (br _ _)⟩
        |9,_|14,_|18,_|22,_=>
         cases C
         simp[Region.binds,Ka]at A
         obtain⟨s,H,za⟩:=A;simp only[H];gi_wp2;exact⟨_,by simp[aH,H];rfl,⟨_,rfl,fB za (b:=20) dz om⟩,aZ.refl _ _,D.same (λ_=>.inl) (br _ _)⟩
        |23,_=>
         cases C
         simp[Region.binds,Ka]at A
         obtain⟨⟨s2,H,za⟩,-⟩:=A;simp only[H];gi_wp2;exact⟨_,by simp[aH,H],⟨s2,rfl,om⟩,aZ.refl _ _,D.same (λ_=>.inl) (br _ _)⟩
        |q+24,h=>omega
       case fin=>
        intro L vs w' D hp;obtain⟨t,U,O⟩:=hp 23 dz;have HJ:Hid _:=D;clear hp D;simp only[aD,Act.put,sit,lcs,lcz];rw[U];clear U;generalize vs=vs
        first|go_meet|(go_wp2_with fail;go_meet)
        obtain⟨h1,q9,h2,h3,-⟩:=HJ.oQ;exact⟨t,rfl,om,G.oQ.1.read h1 h2 om J⟩
      have xz:(v.k==2)=false:=by simp[k2]
      by_cases k3:v.k=3
      ·have qa:(v.k==3)=true:=by simp[k3]
       clear k3;have xx:=G.oQ.2.n;have HV:Hid _:=G.oQ.2;have yi:R<W9.heap.size:=Nat.lt_trans J (oH G.oQ.1.bk);obtain⟨p9,xi,zd⟩:=G.oQ.1.rd
       go_upto_region 20 with fail
       clear e0 e2 e3 e4 e5 e6 e7 e8 e9 zg zv xg xc xd xl K yj h2 h3 yu zm zh;refine wpIn_wide.1 (qR (F:=Fence.wide) (n:=0) kr [some 102,some 103,some 104,some 105,some 106,some 107,some 108,some 109,some 110,some 5] (Kh R l 1000300 s.size) (aZ R) (TB W9 R m B M p9 3 3) Kh.but kr ?h0 TB.ext ?step ?fin)
       case h0=>exact⟨aZ.below (br _ _).drew,p9,zd.zL (br _ _).drew,om,λ_=>by omega,λ_=>by omega,λ_ _=>ilr _⟩
       case step=>
        intro L ii o vs w' C hL hO D A;have zj:ii<10:=(lgs.1 C).1;have y1:=D.1.cell (p:=(Y l 1)) yg e1;simp only[aD,Act.put]
        match ii,zj with
        |0,_=>
         cases C
         have hk:vs 9=.string s:=hO 9 _ rfl ⟨(eP 0),sm,rfl,rfl⟩;simp only[hk];gi_wp2;exact⟨_,by simp[aH,hk];rfl,⟨_,rfl,om⟩,aZ.refl _ _,D.same (λ_=>.inl) (br _ _)⟩
        |1,_|5,_=>
         cases C
         gi_wp2;exact⟨_,by simp[aH],rfl,aZ.refl _ _,D.same (λ_=>.inl) (br _ _)⟩
        |6,_=>
         cases C
         simp[Region.binds,Kh]at A
         simp only[A];gi_wp2;exact⟨_,by simp[aH,A];rfl,⟨_,rfl,om⟩,aZ.refl _ _,D.same (λ_=>.inl) (br _ _)⟩
        |2,_=>
         cases C
         gi_wp2
         exact⟨_,by simp[aH],YN.new (nll yi D.1.size) rfl (by rfl) (λx hx=>by
          simp at hx
          rcases hx with rfl|rfl
          ·exact⟨_,rfl,dz⟩
          ·exact⟨_,rfl,dz⟩),aZ.below (aC (br _ _) _),D.same (λ_=>.inl) (aC (br _ _) _)⟩
        |3,_=>
         cases C
         simp[Region.binds,Kh]at A
         obtain⟨p0,zl,xh,zk⟩:=D.step hL (.inr rfl);simp only[A];gi_wp2_with fail
         refine⟨trivial,rfl,?_⟩;refine(cw.2 (X6 zl om (A.2) om om)).mono ?_;rintro e w5 ⟨⟨u,rfl,hu⟩,X,T5⟩;gi_wp2;exact⟨_,by simp[aH,A],⟨_,rfl,hu⟩,T5,zk w5 X T5⟩
        |4,_|7,_=>
         cases C
         simp[Region.binds,Kh]at A
         obtain⟨⟨s,H,za⟩,t,U,O⟩:=A;have hz:¬9223372036854775807<s.size+t.size:=om
         simp only[H,U];gi_wp2;exact⟨_,by simp[aH,H,U],⟨_,rfl,fB za O om⟩,aZ.refl _ _,D.same (λ_=>.inl) (br _ _)⟩
        |8,_=>
         cases C
         simp[Region.binds,Kh]at A
         obtain⟨s,H,za⟩:=A;simp only[H];gi_wp2;exact⟨_,by simp[aH,H];rfl,⟨_,rfl,fB za (b:=20) dz om⟩,aZ.refl _ _,D.same (λ_=>.inl) (br _ _)⟩
        |9,_=>
         cases C
         simp[Region.binds,Kh]at A
         obtain⟨⟨s2,H,za⟩,-⟩:=A;simp only[H];gi_wp2;exact⟨_,by simp[aH,H],⟨s2,rfl,om⟩,aZ.refl _ _,D.same (λ_=>.inl) (br _ _)⟩
        |q+10,h=>omega
       case fin=>
        intro L vs w' D hp;obtain⟨t,U,O⟩:=hp 9 dz;have HJ:Hid _:=D;clear hp D;simp only[aD,Act.put,sit,lcs,lcz];rw[U];clear U;generalize vs=vs
        first|go_meet|(go_wp2_with fail;go_meet)
        obtain⟨h1,q9,h2,h3,-⟩:=HJ.oQ;exact⟨t,rfl,om,G.oQ.1.read h1 h2 om J⟩
      have qa:(v.k==3)=false:=by simp[k3]
      have hz:¬9223372036854775807<s.size+7:=om
      go_wp2
      go_meet
      exact⟨s++⟨#[116,105,99,107,32,49,10]⟩,rfl,fB zp (b:=7) dz om,G.oQ.1.wide om⟩
     case rest=>
      obtain⟨t,rfl,O,hS⟩:=hcut;have S:Hid _:=hS;obtain⟨p9,xi,zd⟩:=hS.rd;clear hS G e0 e1 e2 e3 e4 e5 e6 e7 e8 e9 zg zh;go_wp2_with fail
      refine(bP R m B M p9 6 wc zd om om).mono ?_;rintro e xp ⟨⟨r,rfl,r0,r1,-⟩,zn,T10⟩;have zb:Hid (JK w1 R m B M (300+6000*j+5011) P N b' xp):=S.oQ.read T10 zn om J;clear S T10 zd
      by_cases h0:r=0
      ·have ye:(r==0)=true:=by simp[h0]
       clear h0;have hz:¬9223372036854775807<t.size+5:=om
       go_wp2
       go_roundw
       case rel=>exact⟨b',t++⟨#[104,101,108,100,10]⟩,k-1,j+1,rfl,gn,om,om,fB O (b:=5) dz om,zb.oQ.wide om⟩
       case measure=>simp[intOf];omega
      have ye:(r==0)=false:=by simp[h0]
      by_cases h1:r=1
      ·have yf:(r==1)=true:=by simp[h1]
       go_wp2_with fail
       refine(of_new (b:=30) zn om rfl (by rfl) (λu hu=>?hh) om om).mono ?_
       case hh=>
        simp at hu
        rcases hu with rfl|rfl|rfl|rfl|rfl|rfl|rfl|rfl|rfl|rfl|rfl|rfl|rfl|rfl<;>exact⟨_,rfl,dz⟩
       rintro e qb ⟨⟨u,rfl,hu⟩,zz,yr⟩;have yn:Hid (JK w1 R m B M (300+6000*j+5012) P N b' qb):=zb.oQ.read yr zz om J;have hz1:¬9223372036854775807<t.size+u.size:=om
       have hz2:¬9223372036854775807<t.size+u.size+1:=om
       clear zb yr zz zn;go_wp2
       go_roundw
       case rel=>exact⟨b',t++u++⟨#[10]⟩,k-1,j+1,rfl,gn,om,om,fB (fB O hu (nlq _)) (b:=1) dz om,yn.oQ.wide om⟩
       case measure=>simp[intOf];omega
      have yf:(r==1)=false:=by simp[h1]
      go_wp2
      go_roundw
      case rel=>exact⟨b',t,k-1,j+1,rfl,gn,om,om,nlt O om,zb.oQ.wide om⟩
      case measure=>simp[intOf];omega
    ·have yj:decide (0<k)=false:=by simp;omega
     go_wp2_with fail
     refine(bP R m B M p 24 wr zw om om).mono ?_;rintro e w6 ⟨⟨r,rfl,r0,r1,-⟩,Z,T6⟩;have yb:=aI (S.oQ.but.trans T6);clear S T6 zw c0 c1 c2
     by_cases h0:r=0
     ·have ye:(r==0)=true:=by simp[h0]
      go_wp2_with fail
      refine(bP R m B M _ 2 w6 Z om om).mono ?_;rintro e w7 ⟨⟨x,rfl,x0,x1,-⟩,xu,T7⟩
      replace x1:=x1 om
      obtain⟨i,rfl⟩:=ieo x0;have hm:=BS ⟨#[104,101,108,100,10]⟩ (300+i) w7 (by show(300+i)*5<=_;omega) dz om;rw[show((300+i:Nat):Int)=300+(i:Int)from by omega]at hm;go_wp2_with fail
      refine hm.mono ?_;rintro e w8 ⟨⟨t,rfl,O⟩,rfl⟩;go_wp2
      go_ret;exact⟨⟨t,rfl,om⟩,by have h:=ze.oQ _ (yb.oQ.trans T7);rwa[yc.oQ]at h⟩
     have ye:(r==0)=false:=by simp[h0]
     by_cases h1:r=1
     ·have yf:(r==1)=true:=by simp[h1]
      go_wp2_with fail
      refine(bP R m B M _ 2 w6 Z om om).mono ?_;rintro e w7 ⟨⟨x,rfl,x0,x1,-⟩,xu,T7⟩
      replace x1:=x1 om
      obtain⟨i,rfl⟩:=ieo x0;have hm:=BS ⟨#[120]⟩ (20000+i) w7 (by show(20000+i)*1<=_;omega) dz om;rw[show((20000+i:Nat):Int)=20000+(i:Int)from by omega]at hm;go_wp2_with fail
      refine hm.mono ?_;rintro e w8 ⟨⟨t,rfl,O⟩,rfl⟩;go_wp2
      go_ret;exact⟨⟨t,rfl,om⟩,by have h:=ze.oQ _ (yb.oQ.trans T7);rwa[yc.oQ]at h⟩
     have yf:(r==1)=false:=by simp[h1]
     have hz:¬9223372036854775807<s.size+4:=om
     go_wp2
     go_ret;exact⟨⟨s++⟨#[104,101,108,100]⟩,rfl,fB zp (b:=4) dz om⟩,by have h:=ze.oQ _ yb.oQ;rwa[yc.oQ]at h⟩
