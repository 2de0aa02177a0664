import Derived.Test.YtcdbcliaepcpfaaGreatDoorCh6
import Derived.Test.YtcdbcliaepcpfaaGreatDoorWp
namespace Go.Proofs.YtcdbcliaepcpfaaGreatDoor
set_option maxRecDepth 100000
set_option maxHeartbeats 8000000
open Go.RowKit Go.Shelf
attribute [local go_sem] Oper.semAt_some
theorem M7 (P:Program)(w:World)(a:Addr)(m:Mode)(f:Fn)(b:Array Value)(c:Array Value):(store a (.func f b c) m).run P w=stored P w a (.func f b c) m:=run_store P w a _ m rfl
attribute [local go_sem] M7
abbrev zQ (z:Nat):Obj:=.cells #[.func (.func 261) #[] #[.pointer (some ⟨z+3,0,none⟩),.pointer (some ⟨z,0,none⟩),.pointer (some ⟨z+1,0,none⟩)]] 284
def CK (w w':World):Prop:=∀p v,w.cell? p=some v->w'.cell? p=some v
theorem bF.ck {w w':World}(h:bF (λ_=>False) w w'):CK w w':=λ_ _ a=>h.cell (λe=>e) a
theorem Xs.ck {α:Type}{m:Nat}{f:α->List Value}{w w':World}{a:Option Addr}{l:List α}(h:Xs m f w a l)(c:CK w w'):Xs m f w' a l:=by
 rcases h with h|⟨d,b,e,g⟩;·exact .inl h
 ·exact .inr ⟨d,b,e,λk n j v i=>c _ _ (g k n j v i)⟩
theorem jJ.ck {w w':World}{a:Option Addr}{l:List Bx}(h:jJ w a l)(c:CK w w'):jJ w' a l:=by
 rcases h with h|⟨d,b,e,o⟩;·exact .inl h
 ·refine .inr ⟨d,b,e,λk p=>?_⟩;obtain⟨f,g,i,j,m,n⟩:=o k p;exact⟨c _ _ f,c _ _ g,c _ _ i,c _ _ j,c _ _ m,c _ _ n⟩
theorem iW.ck {w w':World}{b:Bk}(h:iW w b)(c:CK w w'):iW w' b:=
 ⟨h.hf.ck c,h.hnf,h.hcap,h.hc2,h.hs,h.hh.ck c,h.hnh,λx hx=>⟨⟨(h.hgood x hx).1.1.ck c,(h.hgood x hx).1.2.ck c⟩,(h.hgood x hx).2⟩⟩
theorem iL.ck {w w':World}{x:Wx}(h:iL w x)(c:CK w w'):iL w' x:=⟨⟨h.hi.ws.ck c,λy m=>Xs.ck (h.hi.yn y m) c,h.hi.ls.ck c⟩,h.hf,h.hc⟩
def ZM (o:Obj):Prop:=∃cs,o=.cells cs 80∨o=.cells cs 157
def XC (z k:Nat)(o:Obj):Prop:=z<=k/\ZM o
theorem WV (a:Array Value)(t:Nat)(b:t≠80)(c:t≠157){z k:Nat}:¬XC z k (.cells a t):=by
 rintro⟨_,cs,e|e⟩;·injection e with _ e;exact b e
 ·injection e with _ e;exact c e
theorem eQ.cell {X:Nat->Obj->Prop}{A d:World}(h:eQ X A d){p:Addr}{v:Value}(hx:∀o,¬X p.block o)(a:A.cell? p=some v):d.cell? p=some v:=by
 obtain⟨o,e,b⟩:=cells_of_cell a;have h':=h.c _ _ (hx o) e b;unfold World.cell? at a ⊢;rw[e]at a;rw[h'];exact a
theorem WL {w0 A b:World}(c:aF w0 A)(h:eQ (XC w0.heap.size) A b):CK w0 b:=λp v a=>
 h.cell (p:=p) (λo e=>by have:=aA a;have:=e.1;omega) ((c.cell (aA a)).trans a)
theorem oV.keep {z:Nat}{a:Int}{P:Int->Prop}{v:Value}{w w':World}(h:oV a P v w)(m:eQ (XC z) w w'):oV a P v w':=by
 obtain⟨p,i,l,r,n,s,t⟩:=h;refine⟨p,i,l,r,?_,s,t⟩;rcases n.2 with e|⟨g,d,q,e,o⟩;·exact⟨.inl e,.inl e⟩
 ·have b:=m.c g _ (WV _ _ (by decide) (by decide)) o rfl;refine⟨?_,.inr ⟨g,d,q,e,b⟩⟩;rcases n.1 with f|⟨bl2,off2,f,x⟩;·exact .inl f
  ·rw[e]at f;cases f;refine .inr ⟨g,d,e,λk m j u y=>?_⟩;have:=x k m j u y;unfold World.cell? at this ⊢;simp only[o,b]at this ⊢;exact this
theorem oH.turn {z z0:Nat}{b:Bk}{x:Wx}{w w':World}(h:oH z b x w)(a:eQ (XC z0) w w')(r:∀o,w.heap[z+2]?=some o->o.isCells=false->w'.heap[z+2]?=some o):oH z b x w':=by
 obtain⟨j,l,n,d,c,p,q⟩:=h;exact⟨a.c _ _ (WV _ _ (by decide) (by decide)) j rfl,a.c _ _ (WV _ _ (by decide) (by decide)) l rfl,a.c _ _ (WV _ _ (by decide) (by decide)) n rfl,d,c,r _ p rfl,λe m=>by obtain⟨i,k,f,g⟩:=q e m;exact⟨i,k,f,g.keep a⟩⟩
theorem kS.keepX {m:Nat}{w w':World}{o:Obj}(h:kS m w w')(c:w.heap[m]?=some o)(d:o.isCells=false){X:Nat->Prop}:bF X w w':=
 ⟨h.size,λk u _ a b=>(h.block k (bU a) (λe=>by subst e;rw[c]at a;cases a;rw[d]at b;cases b)).trans a⟩
theorem kS.grown {m:Nat}{w w':World}(h:kS m w w'):w.grownBy w' (some m):=⟨h.os,h.tape,h.output,h.size,λk a b=>h.block k a (λe=>b (by rw[e]))⟩
theorem lV {X:Nat->Prop}{A c:World}{a:Option Nat}(f:A.grownBy c a)(i:∀r,a=some r->∃o:Obj,A.heap[r]?=some o/\o.isCells=false):bF X A c:=
 ⟨f.size,λk o _ b h=>(f.block k (bU b) (λe=>by obtain⟨u,g,d⟩:=i k e.symm;rw[b]at g;cases g;rw[h]at d;cases d)).trans b⟩
theorem oH.own {β:Type}{B z:Nat}{b:Bk}{x:Wx}(hz:z+3<B):OwnFrom B (λ(_:β) W=>oH z b x W):=λ_ A A' row f a d=>
 f.turn (z0:=0) (eQ.of_keepX (lV a (λr e=>(d r e).2))) (λo c _=>(a.block _ (bU c) (λe=>by have:=(d _ e.symm).1;omega)).trans c)
theorem CB {β:Type}{B:Nat}{X:Nat->Obj->Prop}{A:World}:OwnFrom B (λ(_:β) W=>eQ X A W):=λ_ _ _ _ c a b=>c.trans (eQ.of_keepX (lV a (λr e=>(b r e).2)))
def qB (b:Bk)(x:Wx){L:Nat}(c:WG L):Bool:=rX b x c.1.d c.1.i c.1.k
theorem tG {w:World}{b:Bk}(h:iW w b)(v:Bool)(a:aN b=v):aY 58 #[b.val] w λe w'=>e=.returned (.bool v)/\aF w w':=
 uO (h.with (t:=[]) (ta:=none) (.inl rfl) (by simp)) v a
def IJ (b:Bk)(x:Wx):List (WG x.l.toNat):=if aN b&&eJ b.fl x then(kC x.l.toNat x.wl.length x.ll.length (x.l.toNat+1)).filter (qB b x)else[]
def NC (b:Bk)(x:Wx):Nat:=if eJ b.fl x then(kC x.l.toNat x.wl.length x.ll.length (x.l.toNat+1)).length else 0
theorem Q9 {a:List Fx}{x:Wx}(h:eJ a x=true):0<=x.f/\0<=x.q:=by
 simp only[eJ,n9,bat,dte]at h;omega
theorem PX {b:Bk}(h:aN b=true):0<=b.now/\b.now<=10000:=by
 simp only[aN,nT,bat,dte]at h;omega
theorem wI (n:Nat)(hn:9<=n)(b:Bk)(x:Wx)(I Bx:Nat)(w0 w:World)(yc:aF w0 w)(zi:w0.heap[I]?=some b.obj)(zj:w0.heap[Bx]?=some x.obj)(hb:iW w0 b)(hx:iL w0 x):
 YX Fence.wide n Tryz.prog 238 #[.pointer (some ⟨I,0,none⟩),.pointer (some ⟨Bx,0,none⟩)] (λc:WG x.l.toNat=>#[c.1.val]) (eQ (XC w0.heap.size)) (λys=>ys=IJ b x) (λa=>a<+:IJ b x) (NC b x) w:=λS J Jx W hW Z zm hY h0=>by
 have h1:1<=n:=by omega
 have hW:=aC yc hW;have B0:=(hW.block I (bU zi)).trans zi;have X0:=(hW.block Bx (bU zj)).trans zj;have z:aF W (W.alloc (.cells #[.func (.yield S) #[] #[]] 284)):=aB (br _ _) _;have Y0:=wnq W (.cells #[.func (.yield S) #[] #[]] 284);have u:=(z.block _ (bU B0)).trans B0;have X1:=(z.block _ (bU X0)).trans X0;have k0:(W.alloc (.cells #[.func (.yield S) #[] #[]] 284)).cell? ⟨I,0,none⟩=some (.int .i64 b.now):=aJ u rfl;have k1:(W.alloc (.cells #[.func (.yield S) #[] #[]] 284)).cell? ⟨I,1,none⟩=some (.slice b.fa b.fl.length b.fc):=aJ u rfl;have k2:(W.alloc (.cells #[.func (.yield S) #[] #[]] 284)).cell? ⟨I,2,none⟩=some (.slice b.ha b.hl.length b.hc):=aJ u rfl;obtain⟨v1,g1⟩:∃v,aN b=v:=⟨_,rfl⟩;obtain⟨v2,g2⟩:∃v,eJ b.fl x=v:=⟨_,rfl⟩;obtain⟨T,hT⟩:=bP (IJ b x);rw[←hT];have HT:Hid (T=if v1&&v2 then(kC x.l.toNat x.wl.length x.ll.length (x.l.toNat+1)).filter (qB b x)else[]):=by rw[Hid,hT,IJ,g1,g2]
 have G1:Hid _:=g1;have G2:Hid _:=g2;clear hT g1 g2;refine callsIn_of_wp_marks Tryz.func238 rfl trivial ?_ rfl;simp only[Tryz.ntmps238,lsz,llc,lln,Nat.reduceAdd,Nat.reduceSub,ars,arz,lpt,lap,lna,lca];gi_wp2_with fail
 refine⟨trivial,?_⟩;obtain⟨W1,zo⟩:=cK (W.alloc (.cells #[.func (.yield S) #[] #[]] 284));rw[zo]at z Y0 u X1 k0 k1 k2 ⊢;clear zo k0 k1 k2;have zq:=hb.zL hW;have yd:=hx.zL hW;refine(cw.2 (tG (zq.zL z) v1 G1.out)).mono ?_;rintro e W2 ⟨rfl,C⟩;have N2:=aC z C;have zl:J [] W2:=Z _ _ _ none h0 (gG N2) (λr e=>by cases e);have Y2:=(C.block _ (bU Y0)).trans Y0;have B2:=(C.block _ (bU u)).trans u;have X2:=(C.block _ (bU X1)).trans X1;clear B0 X0 u X1 Y0 z C
 cases v1 with
 |false=>
  gi_wp2_with fail
  refine⟨trivial,?_⟩;gi_wp2;exact⟨_,results_none rfl _ _ _,⟨_,rfl⟩,.inl ⟨_,rfl,by rw[HT.oQ];exact zl⟩⟩
 |true=>
 have k1:W2.cell? ⟨I,1,none⟩=some (.slice b.fa b.fl.length b.fc):=aJ B2 rfl;obtain⟨q0,q1,q2,q3,q4,q5,q6,q7⟩:=gJ X2;have m:=zq.zL N2;have G:=yd.zL N2;gi_wp2_with fail
 refine⟨trivial,?_⟩;refine(cw.2 (tV b.fl x b.fa b.fc W2 m.hf m.hnf m.hcap m.hc2 m.hs G.hi G.hf)).mono ?_;rintro e g ⟨rfl,E⟩;rw[G2.out];have N3:=aC N2 E;have M:J [] g:=Z _ _ _ none h0 (gG N3) (λr e=>by cases e);have Y3:=(E.block _ (bU Y2)).trans Y2;have B3:=(E.block _ (bU B2)).trans B2;have X3:=(E.block _ (bU X2)).trans X2;clear Y2 B2 X2 zl k1 q0 q1 q2 q3 q4 q5 q6 q7 N2 E m G
 cases v2 with
 |false=>
  gi_wp2;exact⟨_,results_none rfl _ _ _,⟨_,rfl⟩,.inl ⟨_,rfl,by rw[HT.oQ];exact M⟩⟩
 |true=>
 obtain⟨k0,k1,k2⟩:=aM B3;obtain⟨q0,q1,q2,q3,q4,q5,q6,q7⟩:=gJ X3;gi_wp2_with fail
 refine⟨trivial,?_⟩;refine(cw.2 (LU b x g)).mono ?_;rintro e t ⟨rfl,N,V⟩;have X4:=(N.block _ (bU X3)).trans X3;have Y4:=(N.block _ (bU Y3)).trans Y3;clear k0 k1 k2 q0 q1 q2 q3 q4 q5 q6 q7;have N4:=aC N3 N;have B:aF t (t.alloc (zQ g.heap.size)):=aB (br _ _) _;have H:=(B.block _ (bU X4)).trans X4;have Y5:=(B.block _ (bU Y4)).trans Y4;have F5:=wnq t (zQ g.heap.size);have Y:=V.zL B;have N5:=aC N4 B;have q0:(t.alloc (zQ g.heap.size)).cell? ⟨Bx,0,none⟩=some (.string x.n):=aJ H rfl;have q1:(t.alloc (zQ g.heap.size)).cell? ⟨Bx,1,none⟩=some (.int .i64 x.q):=aJ H rfl;have q2:(t.alloc (zQ g.heap.size)).cell? ⟨Bx,2,none⟩=some (.int .i64 x.s):=aJ H rfl;have q3:(t.alloc (zQ g.heap.size)).cell? ⟨Bx,3,none⟩=some (.int .i64 x.f):=aJ H rfl;have q4:(t.alloc (zQ g.heap.size)).cell? ⟨Bx,4,none⟩=some (.int .i64 x.b):=aJ H rfl;have q5:(t.alloc (zQ g.heap.size)).cell? ⟨Bx,5,none⟩=some (.int .i64 x.l):=aJ H rfl;have q6:(t.alloc (zQ g.heap.size)).cell? ⟨Bx,6,none⟩=some (.slice x.wa x.wl.length x.wc):=aJ H rfl;have q7:(t.alloc (zQ g.heap.size)).cell? ⟨Bx,7,none⟩=some (.slice x.la x.ll.length x.lc):=aJ H rfl;have hz3:W.heap.size<=g.heap.size:=N3.size;have hz34:g.heap.size+4<=t.heap.size:=(bU V.hc);clear X4 Y4 V N X3 B3 Y3 M N4;gi_wp2_with fail
 refine⟨trivial,?_⟩;obtain⟨W5,zp⟩:=cK (t.alloc (zQ g.heap.size));rw[zp]at B H Y5 F5 Y N5 ⊢;clear q0 q1 q2 q3 q4 q5 q6 q7 zp;refine(cw.2 (BY x W5)).mono ?_;rintro e W6 ⟨rfl,F,C6⟩;have Y6:=(F.block _ (bU Y5)).trans Y5;have F6:=(F.block _ (bU F5)).trans F5;have zw:=Y.zL F;have N6:=aC N5 F;have zx:J [] W6:=Z _ _ _ none h0 (gG N6) (λr e=>by cases e);have hz6:t.heap.size<W6.heap.size:=(bU F6);obtain⟨hwl,hll,zy,zz⟩:=zS G2.out;obtain⟨ye,yf⟩:=Q9 G2.out;obtain⟨ya,yb⟩:=PX G1.out;have zg:Hid (x.l=(x.l.toNat:Int)):=by rw[Hid];omega
 have zh:=aC hW N6;clear H Y5 F5 Y N5 B F;gi_wp2_with fail
 refine wpIn_rangeFunc_ownH rfl h1 (gf:=263) (lb:=#[.pointer (some ⟨W5.heap.size,0,none⟩)]) rfl trivial (enters_of Tryz.func263 (by kernel_rfl) rfl)
  (AA (n-1) W5.heap.size x.l.toNat x zg.oQ (by omega) hx.hf (eQ (XC w0.heap.size)) (λ_ _ h e=>h.c _ _ (WV _ _ (by decide) (by decide)) e rfl) W6 C6)
  OF (VE) (br _ _) (λ_=>rfl)
  (λa j=>J (a.filter (qB b x)) j/\eQ (XC w0.heap.size) W6 j/\oH g.heap.size b x j)
  (λc a j=>c=.ret/\Jx (a.filter (qB b x)) j)
  ?hI ?hIx ⟨zx,eQ.refl _ _,zw⟩
  (λy a' j=>∃u,j.heap[u]?=some y.1.obj/\a'={ tmps:=#[.func (.yield S) #[] #[],.pointer (some ⟨I,0,none⟩),.pointer (some ⟨Bx,0,none⟩),.pointer (some ⟨W.heap.size,0,none⟩),.pointer (some ⟨t.heap.size,0,none⟩),.pointer (some ⟨u,0,none⟩),b.val,.bool true,.bool false,.bool false,.pointer (some ⟨I,1,none⟩),.slice b.fa b.fl.length b.fc,x.val,.bool true,.bool false,.bool false,b.val,x.val,
   .func (.func 261) #[] #[.pointer (some ⟨g.heap.size+3,0,none⟩),.pointer (some ⟨g.heap.size,0,none⟩),.pointer (some ⟨g.heap.size+1,0,none⟩)],x.val,.func (.func 263) #[] #[.pointer (some ⟨W5.heap.size,0,none⟩)],y.1.val,undef,undef,undef,undef,undef,undef,undef,undef,undef],defers:=[]})
  ?hAx ?assign ?body ?done ?stop
 case hI=>
  refine OwnFrom.and (λs A A' P hs hg hr=>(OwnFrom.mono Z (by omega)) _ A A' P hs hg hr) (OwnFrom.and CB (oH.own (by omega)))
 case hIx=>exact λc=>OwnFrom.and (ownFrom_pure _ _) (λs A A' P hs hg hr=>(OwnFrom.mono zm (by omega)) _ A A' P hs hg hr)
 case hAx=>
  rintro y a' _ A A' P ⟨u,e1,e3⟩ hg hr;exact⟨u,(lV (X:=λ_=>False) hg (λr e=>(hr r e).2)).c _ _ (λe=>e) e1 rfl,e3⟩
 case assign=>
  rintro l2 a y j K ⟨Q,R,hF⟩ hK;gi_wp2;have ha:aF j (j.alloc y.1.obj):=aB (br _ _) _;exact hK _ _ ((KeepsOthers.alloc _ _).from _) (eQ.of_below ha) ⟨Z.alloc _ Q,R.trans (eQ.of_below ha),hF.zL ha⟩ ⟨j.heap.size,wnq j y.1.obj,rfl⟩
 case body=>
  rintro l2 a y a' j hl2 ⟨r,hr⟩ ⟨Q,R,hF⟩ ⟨u,e1,rfl⟩ zu;have cF:j.cell? ⟨t.heap.size,0,none⟩=some (.func (.func 261) #[] #[.pointer (some ⟨g.heap.size+3,0,none⟩),.pointer (some ⟨g.heap.size,0,none⟩),.pointer (some ⟨g.heap.size+1,0,none⟩)]):=aJ (R.c _ _ (WV _ _ (by decide) (by decide)) F6 rfl) rfl;obtain⟨c0,c1,c2⟩:=aM e1;have h1':1<=n-1-1:=by omega
  have zv:=y.2;have HY:Hid _:=hY;clear hY;gi_wp2_with fail
  refine⟨trivial,?_⟩;refine(CallsIn.inRound l2 (MN (n-1-1-1) (by omega) g.heap.size b x y.1.d y.1.i y.1.k j hF (hb.ck (WL zh R)) (hx.ck (WL zh R)) G1.out ya yb zy zz ye yf zv.1 (Int.le_trans zv.2 (Int.le_of_eq zg.oQ.symm)))).mono ?_;rintro e U ⟨rfl,p,zk⟩;obtain⟨es,ck,zf,_⟩:=hF.hm;have zt:bF (λ_=>False) j U:=p.keepX zf rfl;have za:KeepsFrom W6.heap.size j U:=⟨p.size,λk o hk6 hh _=>(p.block k (bU hh) (by omega)).trans hh⟩;have zr:J (a.filter (qB b x)) U:=Z _ _ _ (some (g.heap.size+2)) Q p.grown (λr e=>by cases e;exact⟨by omega,_,zf,rfl⟩);have ze:eQ (XC w0.heap.size) j U:=eQ.of_keepX zt;have zc:eQ (XC w0.heap.size) W6 U:=R.trans ze;obtain⟨v,hv⟩:=cK (rX b x y.1.d y.1.i y.1.k);have O:qB b x y=v:=hv;rw[hv];have cY:U.cell? ⟨W.heap.size,0,none⟩=some (.func (.yield S) #[] #[]):=aJ (zc.c _ _ (WV _ _ (by decide) (by decide)) Y6 rfl) rfl;obtain⟨d0,d1,d2⟩:=aM (zt.c _ _ (λe=>e) e1 rfl);clear hF Q R cF c0 c1 c2 p zf hv
  cases v with
  |true=>
   have hf:(a++[y]).filter (qB b x)=a.filter (qB b x)++[y]:=by simp[List.filter_append,O]
   obtain⟨fn,tmps,assign,body,hy,hR⟩:=HY.oQ (a.filter (qB b x)) y U zr (by rw[NC,if_pos G2.out];exact Nat.lt_of_le_of_lt (List.length_filter_le _ _) zu);have HR:=hR;have L:Hid _:=hf;clear hR HY O hf;gi_wp2_with fail
   refine RoundIn.mono (sF l2 (qR rfl HR)) ?_;clear HR hy d0 d1 d2
   rintro e Wr ⟨zd,⟨rfl,M,zb⟩|⟨rfl,zn⟩⟩
   ·gi_wp2
    exact⟨za.trans (KeepsFrom.mono zd (by omega)),ze.trans zb,by rw[L.oQ];exact M,zc.trans zb,zk.turn zb (λo ho hc=>zd.same _ _ (by omega) ho hc)⟩
   ·gi_wp2
    exact⟨za.trans (KeepsFrom.mono zd (by omega)),rfl,by rw[L.oQ];exact zn⟩
  |false=>
   have hf:(a++[y]).filter (qB b x)=a.filter (qB b x):=by simp[List.filter_append,O]
   have L:Hid _:=hf;clear HY O hf;gi_wp2_with fail
   refine⟨λ_ h=>(by cases h),?_⟩;gi_wp2;exact⟨za,ze,by rw[L.oQ];exact zr,zc,zk⟩
 case done=>
  rintro D zs j hD rfl ⟨Q,R,hF⟩ hK;gi_wp2;refine⟨by simp,.inl ⟨_,_,rfl,run_takeDeferred hK,?_⟩⟩;exact⟨_,results_none rfl _ _ _,⟨_,rfl⟩,.inl ⟨_,rfl,by rw[HT.oQ];exact Z.putObj _ Q (by omega) hK rfl⟩⟩
 case stop=>
  rintro D c a j hD hq ⟨rfl,Q⟩ hK;gi_wp2;refine⟨by simp,.inl ⟨_,_,rfl,run_takeDeferred hK,?_⟩⟩;exact⟨_,results_none rfl _ _ _,⟨_,rfl⟩,.inr ⟨_,by rw[HT.oQ];exact hq.filter _,zm.putObj _ Q (by omega) hK rfl⟩⟩
end Go.Proofs.YtcdbcliaepcpfaaGreatDoor
namespace Go.Proofs.YtcdbcliaepcpfaaGreatDoor
set_option maxRecDepth 100000
set_option maxHeartbeats 8000000
open Go.RowKit Go.Shelf
attribute [local go_sem] Oper.semAt_some
theorem IZ (b:Bk)(x:Wx){L d:Nat}(h:d<=L)(i:Nat):∀k,((wR L d i k).filter (qB b x)).map (·.1)=lE b x (d:Int) (i:Int) k
 |0=>rfl
 |k+1=>by
  rw[rN,List.filter_append,List.map_append,IZ b x h i k];cases hc:rX b x (d:Int) (i:Int) (k:Int)with
  |true=>
   have a:qB b x (I2 L d i k)=true:=by rw[qB,yI i k h];exact hc
   rw[GY hc];simp[a,yI i k h]
  |false=>
   have a:qB b x (I2 L d i k)=false:=by rw[qB,yI i k h];exact hc
   rw[NQ hc];simp[a]
theorem JF (b:Bk)(x:Wx){L d:Nat}(h:d<=L):∀i,((vR L x.ll.length d i).filter (qB b x)).map (·.1)=lZ b x (d:Int) i
 |0=>rfl
 |i+1=>by rw[rC,List.filter_append,List.map_append,JF b x h i,IZ b x h i,wT]
theorem DG (b:Bk)(x:Wx){L:Nat}:∀n,n<=L+1->((kC L x.wl.length x.ll.length n).filter (qB b x)).map (·.1)=gK b x n
 |0,_=>rfl
 |n+1,h=>by rw[oY,List.filter_append,List.map_append,DG b x n (by omega),JF b x (by omega),tH]
theorem SK (b:Bk)(x:Wx):(IJ b x).map (·.1)=sA b x:=by
 unfold IJ sA;split;·exact DG b x _ (nlq _)
 ·rfl
theorem JW (n:Nat)(hn:10<=n)(b:Bk)(x:Wx)(w:World)(hb:iW w b)(hx:iL w x):
 CallsIn Fence.wide n Tryz.prog 141 #[b.val,x.val] w λe w'=>e=.returned (gM (sA b x))/\aF w w':=by
 have h1:1<=n:=by omega
 rw[←SK];have v:aF w ((((w.alloc b.obj).alloc x.obj).alloc (iR 0 0 0)).alloc (.cells #[.bool false] 4)):=aB (aB (aB (aB (br _ _) _) _) _) _;have F:=(halq (((w.alloc b.obj).alloc x.obj).alloc (iR 0 0 0)) (.cells #[.bool false] 4) _ (by simp)).trans (wnq ((w.alloc b.obj).alloc x.obj) (iR 0 0 0));have H:=wnq (((w.alloc b.obj).alloc x.obj).alloc (iR 0 0 0)) (.cells #[.bool false] 4);simp only[wsa]at F H;refine callsIn_of_wp_marks Tryz.func141 rfl trivial ?_ rfl;simp only[Tryz.ntmps141,lsz,llc,lln,Nat.reduceAdd,Nat.reduceSub,ars,arz,lpt,lap,lna,lca];gi_wp2_with fail
 refine⟨trivial,?_⟩;obtain⟨t,L⟩:=cK ((((w.alloc b.obj).alloc x.obj).alloc (iR 0 0 0)).alloc (.cells #[.bool false] 4));rw[L]at v F H ⊢;clear L;refine(cw.2 (xY b x t)).mono ?_;rintro e O ⟨rfl,o,za,zb⟩;have S:=aC v o;have R1:=(o.block _ (bU F)).trans F;have T:=(o.block _ (bU H)).trans H;have hz1:w.heap.size+3<O.heap.size:=(bU T);clear F H o v;gi_wp2_with fail
 refine rT rfl h1 (gf:=238) (lb:=#[.pointer (some ⟨t.heap.size,0,none⟩),.pointer (some ⟨t.heap.size+1,0,none⟩)]) rfl trivial (enters_of Tryz.func238 (by kernel_rfl) rfl)
  (wI (n-1) (by omega) b x t.heap.size (t.heap.size+1) O O (br _ _) za zb (hb.zL S) (hx.zL S)) (br _ _) OF (λo' ho hc=>eQ.putObj o' ho hc) (λ_=>rfl)
  (λg a=>g=[]/\aF w a/\bF (λ_=>False) O a)
  (λc g a=>c=.ret/\∃y,g=[y]/\aF w a/\a.cell? ⟨w.heap.size+1+1,0,none⟩=some (.int .i64 y.1.d)/\a.cell? ⟨w.heap.size+1+1,1,none⟩=some (.int .i64 y.1.i)/\a.cell? ⟨w.heap.size+1+1,2,none⟩=some (.int .i64 y.1.k)/\a.cell? ⟨w.heap.size+1+1+1,0,none⟩=some (.bool true))
  ?hI ?hIx ⟨rfl,S,bF.refl _ _⟩
  (λy U a=>∃E,a.heap[E]?=some y.1.obj/\U={ tmps:=#[b.val,x.val,.pointer (some ⟨w.heap.size,0,none⟩),.pointer (some ⟨w.heap.size+1,0,none⟩),.pointer (some ⟨w.heap.size+1+1,0,none⟩),.pointer (some ⟨w.heap.size+1+1+1,0,none⟩),.pointer (some ⟨E,0,none⟩),b.val,x.val,.func (.func 238) #[] #[.pointer (some ⟨t.heap.size,0,none⟩),.pointer (some ⟨t.heap.size+1,0,none⟩)],y.1.val,undef,undef],defers:=[]})
  ?hAx ?assign ?body ?done ?stop
 case hI=>exact OwnFrom.and (ownFrom_pure _ _) (OwnFrom.and (ownFrom_below (nlq _) (by omega)) lO)
 case hIx=>
  rintro c s A A' N ⟨e,y,e2,h3,h4,h5,h6,h7⟩ Q q;have R:=(lV (X:=λ_=>False) Q (λr e=>(q r e).2)).ck;exact⟨e,y,e2,(ownFrom_below (β:=Unit) (nlq _) (by omega)) () A A' N h3 Q q,R _ _ h4,R _ _ h5,R _ _ h6,R _ _ h7⟩
 case hAx=>
  rintro y U _ A A' N ⟨E,e1,e3⟩ Q q;exact⟨E,(lV (X:=λ_=>False) Q (λr e=>(q r e).2)).c _ _ (λe=>e) e1 rfl,e3⟩
 case assign=>
  rintro l2 g y a K ⟨rfl,u,C⟩ z;gi_wp2;have ha:aF a (a.alloc y.1.obj):=aB (br _ _) _;exact z _ _ ((KeepsOthers.alloc _ _).from _) (eQ.of_below ha) ⟨by first|exact trivial|rfl,aC u ha,C.trans (bF.of_below ha)⟩ ⟨a.heap.size,wnq a y.1.obj,rfl⟩
 case body=>
  rintro l2 g y U a hl2 ⟨r,q⟩ ⟨rfl,u,C⟩ ⟨E,e1,rfl⟩ hlt';have G:=C.c _ _ (λe=>e) R1 rfl;have I:=C.c _ _ (λe=>e) T rfl;obtain⟨c0,c1,c2⟩:=aM e1;obtain⟨r0,r1,r2⟩:=aM G;have s0:a.cell? ⟨w.heap.size+1+1+1,0,none⟩=some (.bool false):=aJ I rfl;have rf:=iQ G;have sf:=iQ I;have f:w.heap.size<=w.heap.size+1+1:=by omega
  have j:w.heap.size<=w.heap.size+1+1+1:=by omega
  gi_wp2;refine⟨((((KeepsOthers.setCell _ _ _).trans (KeepsOthers.setCell _ _ _)).trans (KeepsOthers.setCell _ _ _)).trans (KeepsOthers.setCell _ _ _)).from _,rfl,y,rfl,(((u.setCell (p:=⟨w.heap.size+1+1,0,none⟩) f _).setCell (p:=⟨w.heap.size+1+1,1,none⟩) f _).setCell (p:=⟨w.heap.size+1+1,2,none⟩) f _).setCell (p:=⟨w.heap.size+1+1+1,0,none⟩) j _,?_,?_,?_,?_⟩<;>simp[go_sem,r0,r1,r2,s0]
 case done=>
  rintro D zs a hD zc ⟨rfl,u,C⟩ z;have G:=C.c _ _ (λe=>e) R1 rfl;have I:=C.c _ _ (λe=>e) T rfl;obtain⟨r0,r1,r2⟩:=aM G;have s0:a.cell? ⟨w.heap.size+1+1+1,0,none⟩=some (.bool false):=aJ I rfl;have rf:=iQ G;have sf:=iQ I;have f:w.heap.size<=w.heap.size+1+1:=by omega
  have j:w.heap.size<=w.heap.size+1+1+1:=by omega
  have M:Hid ((IJ b x).map (·.1)=[]):=by rw[Hid,←zc];rfl
  gi_wp2;have J:=(((u.setCell (p:=⟨w.heap.size+1+1,0,none⟩) f (.int .i64 0)).setCell (p:=⟨w.heap.size+1+1,1,none⟩) f (.int .i64 0)).setCell (p:=⟨w.heap.size+1+1,2,none⟩) f (.int .i64 0)).setCell (p:=⟨w.heap.size+1+1+1,0,none⟩) j (.bool false);have m:=((((KeepsOthers.setCell a ⟨w.heap.size+1+1,0,none⟩ (.int .i64 0)).trans (KeepsOthers.setCell _ ⟨w.heap.size+1+1,1,none⟩ (.int .i64 0))).trans (KeepsOthers.setCell _ ⟨w.heap.size+1+1,2,none⟩ (.int .i64 0))).trans (KeepsOthers.setCell _ ⟨w.heap.size+1+1+1,0,none⟩ (.bool false))).same D _ z rfl;obtain⟨P,h⟩:=cK ((((a.setCell ⟨w.heap.size+1+1,0,none⟩ (.int .i64 0)).setCell ⟨w.heap.size+1+1,1,none⟩ (.int .i64 0)).setCell ⟨w.heap.size+1+1,2,none⟩ (.int .i64 0)).setCell ⟨w.heap.size+1+1+1,0,none⟩ (.bool false));have V:P.cell? ⟨w.heap.size+1+1,0,none⟩=some (.int .i64 0):=by rw[←h];simp[go_sem,r0]
  have W:P.cell? ⟨w.heap.size+1+1,1,none⟩=some (.int .i64 0):=by rw[←h];simp[go_sem,r1]
  have Y:P.cell? ⟨w.heap.size+1+1,2,none⟩=some (.int .i64 0):=by rw[←h];simp[go_sem,r2]
  have Z:P.cell? ⟨w.heap.size+1+1+1,0,none⟩=some (.bool false):=by rw[←h];simp[go_sem,s0]
  rw[h]at J m ⊢;have l:=(bF.putObj (X:=λ_=>False) (.deferred none) m rfl).ck;have f0:=l _ _ V;have f1:=l _ _ W;have f2:=l _ _ Y;have f3:=l _ _ Z;refine⟨by simp,.inl ⟨_,_,rfl,run_takeDeferred m,?_⟩⟩;refine⟨gM [],?_,by rw[M.out],J.trans (belowK_b (w:=w) (nlq _) _ D _ _ (by omega) m rfl rfl)⟩
  simp[results,Tryz.f141,go_sem,gM,f0,f1,f2,f3]
 case stop=>
  rintro D c g a hD hq ⟨rfl,y,rfl,u,V,W,Y,Z⟩ z
  have B:Hid (∃r,(IJ b x).map (·.1)=y.1::r):=by
   obtain⟨r,q⟩:=hq;exact⟨r.map (·.1),by rw[←q];rfl⟩
  gi_wp2;have l:=(bF.putObj (X:=λ_=>False) (.deferred none) z rfl).ck;have f0:=l _ _ V;have f1:=l _ _ W;have f2:=l _ _ Y;have f3:=l _ _ Z;refine⟨by simp,.inl ⟨_,_,rfl,run_takeDeferred z,?_⟩⟩;obtain⟨r,q⟩:=B.out;refine⟨gM (y.1::r),?_,by rw[q],u.trans (belowK_b (w:=w) (nlq _) _ D _ _ (by omega) z rfl rfl)⟩
  simp[results,Tryz.f141,go_sem,gM,f0,f1,f2,f3]
end Go.Proofs.YtcdbcliaepcpfaaGreatDoor
namespace Go.Proofs.YtcdbcliaepcpfaaGreatDoor
open Go.RowKit
theorem E8.all {l m:List Yx}(h:E8 l m)(p:List Cx->Bool):(m.all λy=>p y.l)=l.all λy=>p y.l:=by
 have e:m.map Yx.l=l.map Yx.l:=List.ext_getElem (by simp[h.len]) (λi h1 a=>by simp only[List.getElem_map];exact h.like i (by simpa using a));have g:∀k:List Yx,(k.all λy=>p y.l)=(k.map Yx.l).all p:=λk=>by rw[List.all_map];rfl
 rw[g,g,e]
theorem IC {nm:ByteArray}{t:List Bx}{l m:List Hx}(h:aU l m):jO nm t m=jO nm t l:=by
 have e:∀k:List Hx,jO nm t k=(k.map λh=>(h.n,h.tl,h.nl)).all (λp=>!(tC nm p.1&&(cW t p.2.1||cW t p.2.2))):=λk=>by rw[List.all_map];rfl
 have g:(m.map λh=>(h.n,h.tl,h.nl))=l.map λh=>(h.n,h.tl,h.nl):=List.ext_getElem (by simp[h.len]) (λi h1 b=>by
  simp only[List.getElem_map];have a:=h.like i (by simpa using b);rw[a.n,a.t,a.x])
 rw[e,e,g]
theorem K2 {l m:List Yx}(h:E8 l m)(j:Nat):(CA m j).l=(CA l j).l:=by
 by_cases a:j<l.length;·rw[yS _ _ a,yS _ _ (by rw[h.len];exact a)];exact h.like j a
 ·unfold CA;rw[List.getElem?_eq_none (by rw[h.len];omega),List.getElem?_eq_none (by omega)]
theorem DA (l:List Co):∃d i k f,gM l=.tuple #[fW d i k,.bool f]:=by
 cases l with
 |nil=>exact⟨0,0,0,false,rfl⟩
 |cons c r=>exact⟨c.d,c.i,c.k,true,rfl⟩
end Go.Proofs.YtcdbcliaepcpfaaGreatDoor
