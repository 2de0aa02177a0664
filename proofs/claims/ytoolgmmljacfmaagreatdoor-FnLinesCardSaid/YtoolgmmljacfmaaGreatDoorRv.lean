import Derived.Test.YtoolgmmljacfmaaGreatDoorRs0
import Derived.Test.YtoolgmmljacfmaaGreatDoorEv0
set_option maxRecDepth 100000
set_option maxHeartbeats 8000000
open List renaming length → ln
open Go.Proofs.Tryz Go.RowKit
namespace Go.Proofs.YtoolgmmljacfmaaGreatDoor
open Go.BigFrame Go.Shelf
attribute [local go_sem] Oper.semAt_some
variable {w w' w1:Wd}{R l a n r:Nat}{v:Ev}{c e i:Oa}{b:Bk}{q:Int}{p:List Hx}{m:Nat → Va}
structure FF (w:World)(base:Nat)(v:Ev):Prop where
 x:pF w base v.x∨v.x=D2
 t:aN w base (.slice v.ta v.tl.length v.tc) v.tl
 tn:v.tl.length<=1000
 n:v.n.size<=1000000
theorem FF.but (h:FF w l v)(a:aZ R w w')(c:R<l):FF w' l v:=
 ⟨h.x.imp (λh=>h.same (λk h1 b=>a.block k b om)) id,h.t.butU a c,h.tn,h.n⟩
structure DP (w wx:World)(R n cap:Nat)(ao:Option Addr)(q:Int)(b:Bk):Prop where
 rd:∃p',p'<=q/\Rd wx R ao n cap p'
 but:aZ R w wx
 bk:wx.rowIs w.heap.size 32 3 (IP b.now b.fa b.fl.length b.fc (.slice b.ha b.hl.length b.hc))
 res:∃f,wx.rowIs (w.heap.size+1) 43 12 f
theorem DP.next {q q1 e:Int}(h:DP w w' R l a c q b)(d:aZ R w' w1)(k:Rd w1 R c l a e)(j:e<=q1)(hR:R<w.heap.size):DP w w1 R l a c q1 b:=by
 obtain⟨f,g⟩:=h.res;exact⟨⟨e,j,k⟩,h.but.trans d,h.bk.of_block (d.block _ h.bk.lt om),f,g.of_block (d.block _ g.lt om)⟩
theorem DP.below {w e w1:Wd}{R n a:Nat}(h:DP w e R n a c q b)(d:aG e w1)(f:R<w.heap.size):DP w w1 R n a c q b:=by
 obtain⟨p,g,i⟩:=h.rd;exact h.next (aZ.below d) (i.zL (d.mono (by have:=h.but.size;omega))) g f
theorem DP.start (b:Bk)(h:Rd w R e n a q)(c:Array Va)(o:c.size=12):
 DP w ((w.alloc (.cells #[I b.now,.slice b.fa (ln b.fl) b.fc,.slice b.ha (ln b.hl) b.hc] 32)).alloc (.cells c 43)) R n a e q b:=by
 have m:=h.lt
 have l:(w.alloc (bo b)).rowIs w.heap.size 32 3 (IP b.now b.fa (ln b.fl) b.fc (hs b)):=by
  refine wra w #[I b.now,fs b,hs b] 32 _ (λi d=>?_);match i,d with
  |0,_|1,_|2,_=>rfl
  |k+3,d=>simp at d;omega
 have g:aG w ((w.alloc (bo b)).alloc (.cells c 43)):=aC (aC (br _ _) _) _;obtain⟨f,j⟩:=RT (w.alloc (bo b)) c 43;rw[o]at j;exact⟨⟨q,ilr _,h.zL (g.mono m)⟩,aZ.below g,l.alloc _,f,by simpa using j⟩
theorem DP.fin (h:DP w w' R n r i q b)(m:Below (w.heap.size+1) w' w1)(o:R<w.heap.size):(∃d,d<=q/\Rd w1 R i n r d)/\aZ R w w1:=by
 obtain⟨d,f,g⟩:=h.rd;have a:=m.mono (Nat.le_succ w.heap.size);exact⟨⟨d,f,g.zL (a.mono o)⟩,⟨a.os.trans h.but.os,a.tape.trans h.but.tape,a.output.trans h.but.output,nlt h.but.size a.size,λk j p=>(a.block k j).trans (h.but.block k j p)⟩⟩
def S3e (T:Int->World->Prop)(q:Int)(hb ho:Nat)(hl:List Hx):Nat->(Nat->Value)->World->Prop
 |0,_,wx=>T q wx
 |1,vs,wx=>T (q+1) wx/\∃i:Nat,vs 6=I (i:Int)/\i<hl.length
 |2,vs,wx=>T (q+1) wx/\∃i:Nat,vs 7=(E hb (ho+i*3))/\i<hl.length
 |3,vs,wx=>T (q+1) wx/\∃i:Nat,vs 8=(E hb (ho+i*3))/\i<hl.length
 |4,vs,wx=>T (q+1) wx/\∃x∈hl,vs 9=.string x.n
 |_,vs,wx=>T (q+1) wx/\∃x∈hl,vs 10=.string x.n
theorem aAN {T:Int->Wd->Prop}:∀k f c g,(∀i∈[6,7,8,9,10].take k,f i=c i)->S3e T q R n p k f g->S3e T q R n p k c g:=by
 intro k f c g h d;match k with
 |0=>exact d
 |1=>obtain⟨a,r,b⟩:=d;exact⟨a,r,by rw[←h 6 sm];exact b⟩
 |2=>obtain⟨a,r,b⟩:=d;exact⟨a,r,by rw[←h 7 sm];exact b⟩
 |3=>obtain⟨a,r,b⟩:=d;exact⟨a,r,by rw[←h 8 sm];exact b⟩
 |4=>obtain⟨a,r,e,b⟩:=d;exact⟨a,r,e,by rw[←h 9 sm];exact b⟩
 |k+5=>obtain⟨a,r,e,b⟩:=d;exact⟨a,r,e,by rw[←h 10 sm];exact b⟩
theorem S3e_T {T:Int->Wd->Prop}(h:S3e T q R l p n m w):∃q',T q' w:=by
 match n with
 |0=>exact⟨_,h⟩
 |1=>exact⟨_,h.1⟩
 |2=>exact⟨_,h.1⟩
 |3=>exact⟨_,h.1⟩
 |4=>exact⟨_,h.1⟩
 |n+5=>exact⟨_,h.1⟩
theorem RY (R n a:Nat)(C:Option Addr)(p:Int)(b:Bk)(w:World)(h:Rd w R C n a p)(hp:p<=600000)(yd:-1000000<=b.now)(ye:b.now<=1000000)(hF:∀w',aZ R w w'->Xs 3 Fx.cells w' b.fa b.fl)(yb:1<=b.fl.length)(yc:b.fl.length<=100)(zy:∀f∈b.fl,rD ⟨f.x,f.y⟩)
 (hH:∀w',aZ R w w'->Xs 3 Hx.cells w' b.ha b.hl/\∀x∈b.hl,jG w' x.ta x.tl)(yp:b.hl.length<=1000)(yi:∀x∈b.hl,x.tl.length<=1000)(yq:∀x∈b.hl,x.n.size<=1000000):
 aW 11 #[E R 0,b.val] w λe w'=>(∃v:Ev,e=rt v.val/\FF w' w.heap.size v)/\
  (∃p',p'<=p+5000/\Rd w' R C n a p')/\aZ R w w':=by
 have K:=h.lt;have S0:=DP.start b h #[I 0,.string ⟨#[]⟩,.bool false,.string ⟨#[]⟩,I 0,I 0,I 0,I 0,I 0,ms,ms,ms] rfl;obtain⟨U2,zj⟩:∃U,(w.alloc (.cells #[I b.now,.slice b.fa b.fl.length b.fc,.slice b.ha b.hl.length b.hc] 32)).alloc (.cells #[I 0,.string ⟨#[]⟩,.bool false,.string ⟨#[]⟩,I 0,I 0,I 0,I 0,I 0,ms,ms,ms] 43)=U:=⟨_,rfl⟩;have z2:U2.heap.size=w.heap.size+2:=by rw[←zj];simp
 rw[zj]at S0;have S1:=S0.below (w1:=U2.alloc (.cells #[.string ⟨#[97,49]⟩,.string ⟨#[98]⟩,.string ⟨#[99,45,99]⟩,.string ⟨#[100]⟩] 9)) (aC (br _ _) _) K;have N2:=wnq U2 (.cells #[.string ⟨#[97,49]⟩,.string ⟨#[98]⟩,.string ⟨#[99,45,99]⟩,.string ⟨#[100]⟩] 9);obtain⟨U3,zk⟩:∃U,U2.alloc (.cells #[.string ⟨#[97,49]⟩,.string ⟨#[98]⟩,.string ⟨#[99,45,99]⟩,.string ⟨#[100]⟩] 9)=U:=⟨_,rfl⟩;rw[zk,z2]at N2;rw[zk]at S1
 have yu:∀i,i<4->U3.cell? (Y (w.heap.size+2) i)=some (.string (yJ i)):=λi L=>by
  match i,L with
  |0,_|1,_|2,_|3,_=>exact objR N2 rfl
 obtain⟨p0,hp0,yg⟩:=S1.rd;have zv:Hid _:=S1;clear S0 S1 N2
 go_enter func11,ntmps11
 go_wp2_with fail
 refine(QU R n a C p0 U3 yg om (w.heap.size+2) 4 4 yJ om om om yu).mono ?_;rintro e w1 ⟨⟨i,-,rfl⟩,h1,T1⟩;obtain⟨nm,zc⟩:=bQ (yJ i);have zt:Hid (nm.size<=1000000):=by rw[Hid,zc];have:=BG i;omega
 rw[←zc];have M:Hid (DP w w1 R n a C (p+1) b):=zv.oQ.next T1 h1 om K;clear zc yu zj zk z2 zv yg h1 T1;have o2:w1.cell? (Y w.heap.size 2)=some (.slice b.ha b.hl.length b.hc):=M.oQ.bk.cell (i:=2) om
 go_upto_region 2 with fail
 go_cut [17] (λg wx=>(∃gb,g=.bool gb/\(gb=true->0<b.hl.length))/\DP w wx R n a C (p+2) b)
 case first=>
  by_cases T:0<b.hl.length
  ·have zz:(0:Int)<(b.hl.length:Int):=om
   obtain⟨p1,zd,z⟩:=M.oQ.rd;go_wp2_with fail
   refine(bP R n a C p1 _ _ z om om).mono ?_;rintro e w2 ⟨⟨r,rfl,r0,r1,-⟩,A,T2⟩;have yl:Hid (DP w w2 R n a C (p+2) b):=M.oQ.next T2 A om K;clear M o2 T2 z A;go_wp2
   all_goals go_meet
   all_goals exact⟨⟨_,rfl,λ_=>T⟩,yl.oQ⟩
  ·have zz:¬(0:Int)<(b.hl.length:Int):=om
   obtain⟨p1,zd,z⟩:=M.oQ.rd;go_wp2
   go_meet
   exact⟨⟨_,rfl,λh=>absurd h Bool.false_ne_true⟩,M.oQ.next (aZ.refl _ _) z om K⟩
 case rest=>
 obtain⟨⟨gb,rfl,zn⟩,S⟩:=hcut;have m:=aI S;clear S M o2
 go_upto_if 17 with fail
 go_cut [5] (λv wx=>(∃nm:ByteArray,v=.string nm/\nm.size<=1000000)/\DP w wx R n a C (p+2+1) b)
 case first=>
  cases gb with
  |false=>
   obtain⟨p1,zd,z⟩:=m.oQ.rd;go_wp2
   go_meet
   exact⟨⟨nm,rfl,zt.oQ⟩,m.oQ.next (aZ.refl _ _) z om K⟩
  |true=>
   have T:=zn rfl
   obtain⟨hb,zg,zm⟩:∃hb zg,b.ha=some (Y hb zg):=by
    rcases(hH w (aZ.refl _ _)).1 with h|⟨hb,zg,e,_⟩
    ·rw[h]at T;simp at T
    ·exact⟨hb,zg,e⟩
   have yk:Hid (∀W,aZ R w W->∀i (L:i<b.hl.length),bC W hb (zg+i*3) b.hl[i].cells):=λW D i L=>by
    rcases(hH W D).1 with h|⟨bl',off',e,hc⟩
    ·rw[h]at T;simp at T
    ·rw[zm]at e;cases e;exact hc i L
   have yj:=aI zm;clear zn zm hF hH yi
   go_upto_region 3 with fail
   refine wpIn_wide.1 (dA (F:=Fence.wide) (n:=0) kr [some 18,some 19,some 20,some 21,some 22,some 23,some 24,some 25,some 26,some 27,some 5] 14 [6,7,8,9,10] (S3e (λq wx=>DP w wx R n a C q b) (p+2) hb zg b.hl) (P6 R w.heap.size (.slice b.ha b.hl.length b.hc) b.hl.length) kr kr dz aAN ?h0 ?read ?eff ?fin dz)
   case h0=>exact m.oQ.below (br _ _).drew K
   case read=>
    intro j o k G w' d hc hk yr hS u;have hj:j<11:=(lgs.1 d).1;obtain⟨q',hT⟩:=S3e_T hS;have o2:w'.cell? (Y w.heap.size 2)=some (.slice b.ha b.hl.length b.hc):=hT.bk.cell (i:=2) om;clear hT hS hk yr
    match j,hj with
    |0,_|3,_=>
     simp at d;subst d;clear u;simp only[aD,Act.put];gi_wp2;exact⟨(E w.heap.size 2),by simp[aH],by first|exact rfl|exact⟨trivial,rfl⟩⟩
    |1,_=>
     simp at d;subst d;have d0:G 0=_:=(Zq u 0).1 dz;clear u;simp only[aD,Act.put];rw[d0];gi_wp2;exact⟨.slice b.ha b.hl.length b.hc,by simp[aH,d0],by first|exact rfl|exact⟨trivial,rfl⟩⟩
    |2,_=>
     simp at d;subst d;clear u;simp only[aD,Act.put];gi_wp2;exact⟨(E R 0),by simp[aH],by first|exact rfl|exact⟨trivial,rfl⟩⟩
    |4,_=>
     simp at d;subst d;have d3:G 3=_:=(Zq u 3).1 dz;clear u;simp only[aD,Act.put];rw[d3];gi_wp2;exact⟨.slice b.ha b.hl.length b.hc,by simp[aH,d3],by first|exact rfl|exact⟨trivial,rfl⟩⟩
    |5,_=>
     simp at d;subst d;have d4:G 4=_:=(Zq u 4).1 dz;clear u;simp only[aD,Act.put];rw[d4];gi_wp2;exact⟨I (b.hl.length:Int),by simp[aH,d4],by first|exact rfl|exact⟨trivial,rfl⟩⟩
    |6,_|7,_|8,_|9,_|10,_=>exact absurd hc dz
    |q+11,h=>omega
   case eff=>
    intro k i o G w' L d hS u
    match k with
    |0=>
     simp at L;subst L;simp at d;subst d;have d2:G 2=_:=u (eD 2) sm rfl dz;have d5:G 5=_:=u (eD 5) sm rfl dz;have D:(λq wx=>DP w wx R n a C q b) (p+2) w':=hS;obtain⟨p1,zd,z⟩:=D.rd;clear hS u;simp only[aD,Act.put];rw[d2,d5];gi_wp2_with fail
     refine⟨trivial,rfl,?_⟩;refine(cw.2 (bP R n a C p1 (b.hl.length:Int) w' z om om)).mono ?_;rintro e w5 ⟨⟨r,rfl,r0,r1,-⟩,A,B1⟩;have HW:=D.next (q1:=p+2+1) B1 A om K
     replace r1:=r1 om
     obtain⟨i,rfl⟩:=ieo r0;clear D;gi_wp2;exact⟨I (i:Int),by simp[aH,d2,d5],HW,i,by simp[aH],om⟩
    |1=>
     simp at L;subst L;simp at d;subst d;have d1:G 1=_:=u (eD 1) sm rfl dz;obtain⟨D,i,d6,zb⟩:=hS;have HW:Hid _:=D;clear D u;have hil':(i:Int)<(b.hl.length:Int):=om
     rw[yj.oQ]at d1;simp only[aD,Act.put];rw[d1,d6];gi_wp2;exact⟨(E hb (zg+i*3)),by simp[aH,d1,d6],HW.oQ,i,by simp[aH],zb⟩
    |2=>
     simp at L;subst L;simp at d;subst d;obtain⟨D,i,d7,zb⟩:=hS;have HW:Hid _:=D;clear D u;simp only[aD,Act.put];rw[d7];gi_wp2;exact⟨(E hb (zg+i*3)),by simp[aH,d7],HW.oQ,i,by simp[aH],zb⟩
    |3=>
     simp at L;subst L;simp at d;subst d;obtain⟨D,i,d8,zb⟩:=hS;have yo:=(gN (yk.oQ w' D.but i zb)).1;have HW:Hid _:=D;clear D u;obtain⟨x,hx⟩:=bQ (b.hl[i]);rw[←hx]at yo;have HX:Hid (x∈b.hl):=by rw[hx];exact lgm _
     clear hx;simp only[aD,Act.put];rw[d8];gi_wp2;exact⟨.string x.n,by simp[aH,d8],HW.oQ,x,HX.oQ,by simp[aH]⟩
    |4=>
     simp at L;subst L;simp at d;subst d;obtain⟨D,x,hx,d9⟩:=hS;have HW:Hid _:=D;clear D u;simp only[aD,Act.put];rw[d9];gi_wp2;exact⟨.string x.n,by simp[aH,d9],HW.oQ,x,hx,by simp[aH]⟩
    |k+5=>simp at L
   case fin=>
    intro G w' hS hP;obtain⟨hT,x,hx,zw⟩:=hS;have HT:Hid _:=hT;clear hT hP;simp only[aD,Act.put,sit,lcs,lcz];rw[zw];generalize G 0=u0v;generalize G 1=u1v;generalize G 2=u2v;generalize G 3=u3v;generalize G 4=u4v;generalize G 5=u5v;generalize G 6=u6v;generalize G 7=u7v;generalize G 8=u8v;generalize G 9=u9v;clear zw
    first|go_meet|(go_wp2_with fail;go_meet)
    exact⟨⟨x.n,rfl,yq x hx⟩,HT.oQ⟩
 case rest=>
 clear m zt zn;obtain⟨⟨nm,rfl,ze⟩,S⟩:=hcut;obtain⟨p1,zd,z⟩:=S.rd
 have zu:Hid (DP w wc R n a C (p+3) b):=by
  obtain⟨p1,zd,z⟩:=S.rd;exact S.next (aZ.refl _ _) z om K
 clear S;go_wp2_with fail
 refine(bP R n a C p1 _ _ z om om).mono ?_;rintro e w3 ⟨⟨c,rfl,c0,c1,-⟩,yh,T3⟩
 replace c1:=c1 om
 have m:Hid (DP w w3 R n a C (p+4) b):=zu.oQ.next T3 yh om K;clear zu z yh T3;have o0:w3.cell? (Y w.heap.size 0)=some (I b.now):=m.oQ.bk.cell (i:=0) om;have o1:w3.cell? (Y w.heap.size 1)=some (.slice b.fa b.fl.length b.fc):=m.oQ.bk.cell (i:=1) om;have o2:w3.cell? (Y w.heap.size 2)=some (.slice b.ha b.hl.length b.hc):=m.oQ.bk.cell (i:=2) om;have ym:c=0∨c=1∨c=2∨c=3∨c=4∨c=5∨c=6∨c=7:=om
 clear c0 c1
 rcases ym with rfl|rfl|rfl|rfl|rfl|rfl|rfl|rfl
 iterate 3
  ·obtain⟨p2,yf,A⟩:=m.oQ.rd
   have za:=λw' (h:aZ R w3 w')=>hF w' (m.oQ.but.trans h);clear hF hH;go_wp2_with fail
   refine(J5 R n a C p2 b.now b.fl b.fa b.fc w3 A om yd ye za yb yc zy).mono ?_;rintro e w4 ⟨x,rfl,hd,⟨p3,ys,J⟩,T4⟩;have zs:=aI hd;have X:Hid (w.heap.size+2<=w3.heap.size):=by obtain⟨f,hf⟩:=m.oQ.res;exact hf.lt
   have H:Hid (DP w w4 R n a C (p+1004) b):=m.oQ.next T4 J om K;clear m hd A J T4 o0 o1 o2 za;have m:=H;clear H;obtain⟨zf,Z⟩:=m.oQ.res;have Q:=wA Z [I 1,.string ⟨#[]⟩,.bool false,.string x.n,I x.q,I x.s,I x.f,I x.b,I x.l,.slice x.wa x.wl.length x.wc,.slice x.la x.ll.length x.lc,ms] (nlq _);simp only[OR,J1,Nat.reduceAdd]at Q;obtain⟨⟨_,g0⟩,t0,⟨_,g1⟩,t1,⟨_,g2⟩,t2,⟨_,g3⟩,t3,⟨_,g4⟩,t4,⟨_,g5⟩,t5,⟨_,g6⟩,t6,⟨_,g7⟩,t7,⟨_,g8⟩,t8,⟨_,g9⟩,t9,⟨_,zh⟩,zq,⟨_,zi⟩,zr,W8,zl,⟨e0,e1,e2,e3,e4,e5,e6,e7,e8,e9,N,O,-⟩,V,KW⟩:=Q;have t:=aI (m.oQ.fin V K)
   have HD:Hid (FF W8 w.heap.size ⟨1,⟨#[]⟩,false,x,none,[],0⟩):=by
    have yt:=X.oQ;have B:=zs.oQ.same (w':=W8) (λk h1 _=>KW k om);exact⟨.inl ⟨iY B.ws om,λy hy=>⟨iY (B.yn y hy).own om,(B.yn y hy).l1,(B.yn y hy).l2,(B.yn y hy).near⟩,iY B.ls om,B.w1,B.w3,B.l1,B.l3,B.n3⟩,.inl ⟨rfl,rfl⟩,sm,(by show ByteArray.size ⟨#[]⟩<=1000000;decide)⟩
   clear zs X;clear Z V KW m;go_wp2_with fail
   refine bpr (v:=(⟨1,⟨#[]⟩,false,x,none,[],0⟩:Ev).val) (by simp[results,results11,go_sem,e0,e1,e2,e3,e4,e5,e6,e7,e8,e9,N,O]) rfl ⟨⟨⟨1,⟨#[]⟩,false,x,none,[],0⟩,rfl,HD.oQ⟩,?_,t.oQ.2⟩;obtain⟨p',zp,P⟩:=t.oQ.1;exact⟨p',om,P⟩
 iterate 2
  ·obtain⟨p2,yf,A⟩:=m.oQ.rd
   have za:=λw' (h:aZ R w3 w')=>hF w' (m.oQ.but.trans h);have zx:=λw' (h:aZ R w3 w')=>hH w' (m.oQ.but.trans h);clear hF hH;go_wp2_with fail
   refine(VQ R n a C p2 b w3 A om yd ye za yb yc zy zx yp yi).mono ?_;rintro e w4 ⟨⟨tv,l,rfl,hO,hl⟩,⟨p3,ys,J⟩,T4⟩;obtain⟨ta,tc,rfl,-⟩:=LX hO;have HO:=aI hO;have X:Hid (w.heap.size+2<=w3.heap.size):=by obtain⟨f,hf⟩:=m.oQ.res;exact hf.lt
   have H:Hid (DP w w4 R n a C (p+4004) b):=m.oQ.next T4 J om K;clear m hO A J T4 o0 o1 o2 za zx;have m:=H;clear H;obtain⟨zf,Z⟩:=m.oQ.res;have Q:=wA Z [I 2,.string nm,.bool false,.string ⟨#[]⟩,I 0,I 0,I 0,I 0,I 0,ms,ms,.slice ta l.length tc] (nlq _);simp only[OR,J1,Nat.reduceAdd]at Q;obtain⟨⟨_,g0⟩,t0,⟨_,g1⟩,t1,⟨_,g2⟩,t2,⟨_,g3⟩,t3,⟨_,g4⟩,t4,⟨_,g5⟩,t5,⟨_,g6⟩,t6,⟨_,g7⟩,t7,⟨_,g8⟩,t8,⟨_,g9⟩,t9,⟨_,zh⟩,zq,⟨_,zi⟩,zr,W8,zl,⟨e0,e1,e2,e3,e4,e5,e6,e7,e8,e9,N,O,-⟩,V,KW⟩:=Q;have t:=aI (m.oQ.fin V K)
   have HD:Hid (FF W8 w.heap.size ⟨2,nm,false,D2,ta,l,tc⟩):=by
    have yt:=X.oQ;refine⟨.inr rfl,?_,hl,ze⟩
    rcases HO.oQ with h|⟨g,a,h1,h2,h3,f,hr,hf⟩
    ·exact .inl h
    ·exact .inr ⟨g,a,h1,om,h3,f,hr.of_block (KW g om),hf⟩
   clear HO X;clear Z V KW m;go_wp2_with fail
   refine bpr (v:=(⟨2,nm,false,D2,ta,l,tc⟩:Ev).val) (by simp[results,results11,go_sem,D2,e0,e1,e2,e3,e4,e5,e6,e7,e8,e9,N,O]) rfl ⟨⟨⟨2,nm,false,D2,ta,l,tc⟩,rfl,HD.oQ⟩,?_,t.oQ.2⟩;obtain⟨p',zp,P⟩:=t.oQ.1;exact⟨p',om,P⟩
 ·obtain⟨p2,yf,A⟩:=m.oQ.rd
  clear hF hH;go_wp2_with fail
  refine(bP R n a C p2 _ _ A om om).mono ?_;rintro e w4 ⟨⟨r,rfl,r0,r1,-⟩,J,T4⟩;obtain⟨tk,htk⟩:=cI ((r==0));have H:Hid (DP w w4 R n a C (p+1004) b):=m.oQ.next T4 J om K;clear m A J T4 o0 o1 o2;have m:=H;clear H;obtain⟨zf,Z⟩:=m.oQ.res;have Q:=wA Z [I 3,.string nm,.bool tk,.string ⟨#[]⟩,I 0,I 0,I 0,I 0,I 0,ms,ms,ms] (nlq _);simp only[OR,J1,Nat.reduceAdd]at Q;obtain⟨⟨_,g0⟩,t0,⟨_,g1⟩,t1,⟨_,g2⟩,t2,⟨_,g3⟩,t3,⟨_,g4⟩,t4,⟨_,g5⟩,t5,⟨_,g6⟩,t6,⟨_,g7⟩,t7,⟨_,g8⟩,t8,⟨_,g9⟩,t9,⟨_,zh⟩,zq,⟨_,zi⟩,zr,W8,zl,⟨e0,e1,e2,e3,e4,e5,e6,e7,e8,e9,N,O,-⟩,V,KW⟩:=Q;have t:=aI (m.oQ.fin V K);have HD:Hid (FF W8 w.heap.size ⟨3,nm,tk,D2,none,[],0⟩):=⟨.inr rfl,.inl ⟨rfl,rfl⟩,sm,ze⟩;clear Z V KW m;go_wp2_with fail
  refine bpr (v:=(⟨3,nm,tk,D2,none,[],0⟩:Ev).val) (by simp[results,results11,go_sem,D2,e0,e1,e2,e3,e4,e5,e6,e7,e8,e9,N,O]) rfl ⟨⟨⟨3,nm,tk,D2,none,[],0⟩,rfl,HD.oQ⟩,?_,t.oQ.2⟩;obtain⟨p',zp,P⟩:=t.oQ.1;exact⟨p',om,P⟩
 iterate 2
  ·clear hF hH o0 o1 o2
   obtain⟨zf,Z⟩:=m.oQ.res;have Q:=wA Z [I 4,.string ⟨#[]⟩,.bool false,.string ⟨#[]⟩,I 0,I 0,I 0,I 0,I 0,ms,ms,ms] (nlq _);simp only[OR,J1,Nat.reduceAdd]at Q;obtain⟨⟨_,g0⟩,t0,⟨_,g1⟩,t1,⟨_,g2⟩,t2,⟨_,g3⟩,t3,⟨_,g4⟩,t4,⟨_,g5⟩,t5,⟨_,g6⟩,t6,⟨_,g7⟩,t7,⟨_,g8⟩,t8,⟨_,g9⟩,t9,⟨_,zh⟩,zq,⟨_,zi⟩,zr,W8,zl,⟨e0,e1,e2,e3,e4,e5,e6,e7,e8,e9,N,O,-⟩,V,KW⟩:=Q;have t:=aI (m.oQ.fin V K);have HD:Hid (FF W8 w.heap.size ⟨4,⟨#[]⟩,false,D2,none,[],0⟩):=⟨.inr rfl,.inl ⟨rfl,rfl⟩,sm,dz⟩;clear Z V KW m;go_wp2_with fail
   refine bpr (v:=(⟨4,⟨#[]⟩,false,D2,none,[],0⟩:Ev).val) (by simp[results,results11,go_sem,D2,e0,e1,e2,e3,e4,e5,e6,e7,e8,e9,N,O]) rfl ⟨⟨⟨4,⟨#[]⟩,false,D2,none,[],0⟩,rfl,HD.oQ⟩,?_,t.oQ.2⟩;obtain⟨p',zp,P⟩:=t.oQ.1;exact⟨p',om,P⟩
