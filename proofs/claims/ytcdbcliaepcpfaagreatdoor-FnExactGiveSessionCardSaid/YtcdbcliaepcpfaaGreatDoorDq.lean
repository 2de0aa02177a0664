import Derived.Test.YtcdbcliaepcpfaaGreatDoorSm
import Derived.Test.YtcdbcliaepcpfaaGreatDoorAs
namespace Go.Proofs.YtcdbcliaepcpfaaGreatDoor
set_option maxRecDepth 100000
set_option maxHeartbeats 4000000
open Go.RowKit Go.Shelf
attribute [local go_sem] Oper.semAt_some
abbrev ZY (b:Bk)(nm:ByteArray)(i:Nat)(f:Bool):Value:=.agg #[.int .i64 b.now,.slice b.fa b.fl.length b.fc,.slice b.ha b.hl.length b.hc,.string nm,.int .i64 (i:Int),.bool f]
abbrev NE (b:Bk)(nm:ByteArray)(i:Nat)(f:Bool):Obj:=.cells #[.int .i64 b.now,.slice b.fa b.fl.length b.fc,.slice b.ha b.hl.length b.hc,.string nm,.int .i64 (i:Int),.bool f] 178
structure kZ (b:Bk)(nm:ByteArray)(b':Bk)(i:Nat)(f:Bool):Prop where
 now:b'.now=b.now
 fl:b'.fl=b.fl
 lk:aU b.hl b'.hl
 at':FD b.hl nm i
 hd:f=true↔∃h:i<b.hl.length,b.hl[i].n.toList=nm.toList
theorem oW (b:Bk)(nm:ByteArray)(w:World)(P:Xs 3 Fx.cells w b.fa b.fl)(B:b.fl.length<=1048576)(L:Xs 3 Hx.cells w b.ha b.hl)(s:b.hl.length<=64)(K:∀h∈b.hl,h.In w/\h.Fit)(ha:kK Hx.n b.hl=true):
 aY 139 #[b.val,.string nm] w λe w'=>(∃(b':Bk) (i:Nat) (f:Bool),e=.returned (ZY b' nm i f)/\kZ b nm b' i f/\gY w.heap.size w' b')/\aF w w':=by
 have c:aF w ((w.alloc b.obj).alloc (.cells #[.int .i64 0,.slice none 0 0,.slice none 0 0,.string ⟨#[]⟩,.int .i64 0,.bool false] 178)):=aB (aB (br _ _) _) _;have t:=(halq (w.alloc b.obj) (.cells #[.int .i64 0,.slice none 0 0,.slice none 0 0,.string ⟨#[]⟩,.int .i64 0,.bool false] 178) w.heap.size (by simp)).trans (wnq w b.obj);have o:=wnq (w.alloc b.obj) (.cells #[.int .i64 0,.slice none 0 0,.slice none 0 0,.string ⟨#[]⟩,.int .i64 0,.bool false] 178);rw[wsa]at o;go_enter Tryz.func139,Tryz.ntmps139;go_wp2_with fail;obtain⟨F,p⟩:=cK ((w.alloc b.obj).alloc (.cells #[.int .i64 0,.slice none 0 0,.slice none 0 0,.string ⟨#[]⟩,.int .i64 0,.bool false] 178));rw[p]at c t o ⊢;have hz1:w.heap.size+1<F.heap.size:=(bU o);clear p;refine(MW b.hl b.ha b.hc nm F (L.zL c) s ha).mono ?_;rintro e Z ⟨⟨i,f,rfl,M,q⟩,a⟩;have l:=aC c a;have D:=bJ t a;have j:Hid _:=bJ o a;have HP:Hid _:=M;have E:Hid _:=q;obtain⟨Q,R,S⟩:=aM D;have hs1:=a.size;clear t o D a c M q ha;go_wp2_with fail;refine(LX b Z (P.zL l) B (L.zL l) s (λh m=>⟨(K h m).1.zL l,(K h m).2⟩)).mono ?_;rintro e C ⟨⟨b',rfl,G,H,r,I⟩,d⟩;have u:Hid (kZ b nm b' i f):=⟨G,H,r,HP.oQ,E.oQ⟩;have O:=aC l d;have x:=bJ j.oQ d;obtain⟨T,U,V,W,X,Y⟩:=vT x;have rf:=iQ x;have N:=aG I;clear Q R S G H r I HP E j x d l;go_wp2_with fail;have J:aT (λk=>k=w.heap.size+1) C ((((((C.setCell ⟨w.heap.size+1,0,none⟩ (.int .i64 b'.now)).setCell ⟨w.heap.size+1,1,none⟩ (.slice b'.fa b'.fl.length b'.fc)).setCell ⟨w.heap.size+1,2,none⟩ (.slice b'.ha b'.hl.length b'.hc)).setCell ⟨w.heap.size+1,3,none⟩ (.string nm)).setCell ⟨w.heap.size+1,4,none⟩ (.int .i64 (i:Int))).setCell ⟨w.heap.size+1,5,none⟩ (.bool f)):=((((((aT.refl (λk=>k=w.heap.size+1) C).set (g:=w.heap.size+1) rfl _ _).set (g:=w.heap.size+1) rfl _ _).set (g:=w.heap.size+1) rfl _ _).set (g:=w.heap.size+1) rfl _ _).set (g:=w.heap.size+1) rfl _ _).set (g:=w.heap.size+1) rfl _ _;have y:=(N.oQ.but J (λk A=>by rw[A];omega)).weak (z':=w.heap.size) (by omega);have z:=J.under O (nlq _) (λk A=>by rw[A];omega);exact bpr (v:=ZY b' nm i f) (by simp[results,Tryz.results139,go_sem,T,U,V,W,X,Y]) rfl ⟨⟨b',i,f,rfl,u.oQ,y⟩,z⟩
def pT (c:Int):Value:=if c=0 then .nilIface else .iface 176 (.int .i64 c)
theorem vG (c:Int)(w:World)(a:j9 w):
 aY 138 #[pT c] w λe w'=>e=.returned (.int .i64 c)/\aF w w':=by
 unfold pT;split;·rename_i h;subst h;exact TT w
 ·exact qF c w a
theorem VG (b:Bk)(nm:ByteArray)(i:Nat)(took:Bool)(P:Nat)(w:World)(a:w.heap[P]?=some (NE b nm i false)):
 aY 148 #[.pointer (some ⟨P,0,none⟩),.bool took] w λe w'=>e=.returned (pT 6)/\w'=w:=by
 have p5:w.cell? ⟨P,5,none⟩=some (.bool false):=aJ a rfl;clear a;go_enter Tryz.func148,Tryz.ntmps148;go_wp2;go_ret;exact⟨rfl,rfl⟩
theorem mT (w:World)(n:Nat):aF w (w.drewN n):=⟨rfl,rfl,rfl,nlq _,λ_ _=>rfl⟩
theorem tQ:∀(l:List Hx) (i:Nat) (b:Hx) (h:i<l.length),b.bs.Sublist l[i].bs->((l.set i b).flatMap Hx.bs).Sublist (l.flatMap Hx.bs)
 |[],_,_,h,_=>by simp at h
 |a::r,0,b,_,hs=>by
  simp only[List.set_cons_zero,List.flatMap_cons];exact List.Sublist.append hs (List.Sublist.refl _)
 |a::r,i+1,b,h,hs=>by
  simp only[List.set_cons_succ,List.flatMap_cons];exact List.Sublist.append (List.Sublist.refl _) (tQ r i b (by simpa using h) (by simpa using hs))
theorem gY.held {z:Nat}{w:World}{b:Bk}{i:Nat}(h:gY z w b)(a:i<b.hl.length):∃g,b.ha=some ⟨g,0,none⟩/\z<=g/\b.hl.length<=b.hc/\fP 90 3 Hx.cells w g b.hc b.hl b.hl.length:=by
 rcases h.h with⟨_,e⟩|⟨g,cap,e,d,f,j⟩;·rw[e]at a;simp at a
 ·simp only[Value.slice.injEq]at e;obtain⟨c,_,rfl⟩:=e;exact⟨g,c,d,f,j⟩
structure kR (z P:Nat)(w:World)(b:Bk)(nm:ByteArray)(i:Nat)(f:Bool):Prop where
 p:w.heap[P]?=some (NE b nm i f)
 a:gY z w b
 zp:z<=P
theorem kR.zL {z P:Nat}{w w':World}{b:Bk}{nm:ByteArray}{i:Nat}{f:Bool}(h:kR z P w b nm i f)(c:aF w w'):kR z P w' b nm i f:=⟨bJ h.p c,h.a.zL c,h.zp⟩
def j7 (took:Bool)(x:Hx):Hx:=if took then⟨x.n,x.na,x.nl,x.nc,none,[],0⟩else⟨x.n,x.ta,x.tl,x.tc,none,[],0⟩
def mW (b:Bk)(i:Nat)(f:Bool):Int:=if f then(match b.hl[i]? with|some x=>if x.nl=[]then 8 else 0|none=>6)else 6
def pL (b:Bk)(i:Nat)(f:Bool)(took:Bool):Bk:=if mW b i f=0 then(match b.hl[i]? with|some x=>⟨b.now,b.fa,b.fl,b.fc,b.ha,b.hl.set i (j7 took x),b.hc⟩|none=>b)else b
theorem QD {z:Nat}{w:World}{x:Hx}(took:Bool)(h:eS z w x):eS z w (j7 took x)/\(j7 took x).bs.Sublist x.bs:=by
 unfold j7;cases took with
 |true=>exact⟨⟨h.n,.inl ⟨rfl,rfl⟩⟩,by simp[Hx.bs]⟩
 |false=>exact⟨⟨h.t,.inl ⟨rfl,rfl⟩⟩,by simp[Hx.bs]⟩
theorem UU (z P:Nat)(b:Bk)(nm:ByteArray)(i:Nat)(f took:Bool)(w:World)(n:kR z P w b nm i f)(F:f=true->i<b.hl.length)(G:∀h∈b.hl,h.Fit):
 aY 148 #[.pointer (some ⟨P,0,none⟩),.bool took] w λe w'=>e=.returned (pT (mW b i f))/\kR z P w' (pL b i f took) nm i f/\aT (λk=>z<=k) w w':=by
 cases f with
 |false=>
  refine(VG b nm i took P w n.p).mono ?_;rintro e w' ⟨rfl,rfl⟩;exact⟨rfl,n,aT.refl _ _⟩
 |true=>
  have l:=F rfl;obtain⟨x,hx⟩:=bP (b.hl[i]);have u:b.hl[i]?=some x:=by rw[hx];exact lge l
  have I:=G x (by rw[hx];exact lgm l);obtain⟨g,ha,H,hcap,E⟩:=n.a.held l;have p2:w.cell? ⟨P,2,none⟩=some (.slice (some ⟨g,0,none⟩) b.hl.length b.hc):=by rw[←ha];exact aJ n.p rfl
  have p4:w.cell? ⟨P,4,none⟩=some (.int .i64 (i:Int)):=aJ n.p rfl;have p5:w.cell? ⟨P,5,none⟩=some (.bool true):=aJ n.p rfl;obtain⟨f,c,A⟩:=E;have R:=c.cell (i:=i*3+1) (by omega);have L:=c.cell (i:=i*3+2) (by omega);rw[show f (i*3+1)=.slice x.ta x.tl.length x.tc from by rw[hx];exact A i l l 1 _ rfl]at R;rw[show f (i*3+2)=.slice x.na x.nl.length x.nc from by rw[hx];exact A i l l 2 _ rfl]at L;have cf:=λi=>c.frozen i
  have D:P≠g:=λe=>by
   subst e;obtain⟨cs,s,_⟩:=c;rw[n.p]at s;cases s
  have hnn:=I.nn;have q:Hid _:=n;have C:=aG hx;have m:Hid _:=u;have r:Hid _:=c;have B:Hid _:=A;have Q:Hid _:=ha;clear A n hx u c ha;cases hnl:x.nl with
  |nil=>
   have o:Hid (mW b i true=8/\pL b i true took=b):=by
    have:mW b i true=8:=by unfold mW;rw[m.oQ];simp[hnl]
    refine⟨this,?_⟩;unfold pL;rw[this];rfl
   rw[hnl]at L;clear hnl;go_enter Tryz.func148,Tryz.ntmps148;go_wp2;go_quiet (fail);go_wp2;go_ret;rw[o.oQ.1,o.oQ.2];exact⟨rfl,q.oQ.zL (mT _ _),aT.below (mT _ _)⟩
  |cons y ys=>
   have hlen:0<x.nl.length:=by rw[hnl];simp
   have o:Hid (mW b i true=0/\pL b i true took=⟨b.now,b.fa,b.fl,b.fc,b.ha,b.hl.set i (j7 took x),b.hc⟩):=by
    have M:mW b i true=0:=by unfold mW;rw[m.oQ];simp[hnl]
    refine⟨M,?_⟩;unfold pL;rw[M,m.oQ];rfl
   have O:eS z w x:=q.oQ.a.t x (by rw[C.oQ];exact lgm l);have K:Hid _:=QD took O
   have J:Hid (∀(w':World),aT (λk=>k=g) w w'->fP 90 3 Hx.cells w' g b.hc (b.hl.set i (j7 took x)) b.hl.length->kR z P w' ⟨b.now,b.fa,b.fl,b.fc,b.ha,b.hl.set i (j7 took x),b.hc⟩ nm i true/\aT (λk=>z<=k) w w'):=λw' v E=>by
    refine⟨⟨?_,q.oQ.a.put Q.oQ l v E (K.oQ.1.butHeld r.oQ v) (q.oQ.a.d.sublist (tQ b.hl i _ l (by rw[←C.oQ];exact K.oQ.2))),q.oQ.zp⟩,v.wide (λk U=>by rw[U];exact H)⟩;have:=bE q.oQ.p v D;rw[this];simp
   have hz2:((x.nl.length:Int)==0)=false:=beq_false_of_ne (by omega);clear hnl O;cases took with
   |true=>
    go_enter Tryz.func148,Tryz.ntmps148;go_wp2;go_quiet (fail);go_wp2;go_ret;rw[o.oQ.1,o.oQ.2];refine⟨rfl,J.oQ _ (((aT.below (S:=λk=>k=g) (mT _ _)).set (g:=g) rfl _ _).set (g:=g) rfl _ _) ?_⟩;exact fP.lists (h:=x) ((((World.rowIs.of_block r.oQ ((mT w _).block _ (World.rowIs.lt r.oQ))).set _ _).set _ _)) B.oQ m.oQ rfl
   |false=>
    go_enter Tryz.func148,Tryz.ntmps148;go_wp2;go_quiet (fail);go_wp2;go_ret;rw[o.oQ.1,o.oQ.2];refine⟨rfl,J.oQ _ ((aT.below (S:=λk=>k=g) (mT _ _)).set (g:=g) rfl _ _) ?_⟩;have N:=(World.rowIs.of_block r.oQ ((mT w nq).block _ (World.rowIs.lt r.oQ))).set (i*3+2) (.slice none 0 0)
    have T:(λj=>if j=i*3+2 then Value.slice none 0 0 else f j)=(λj=>if j=i*3+2 then Value.slice none 0 0 else if j=i*3+1 then .slice x.ta x.tl.length x.tc else f j):=by
     funext j;by_cases e:j=i*3+1
     ·subst e;rw[if_neg (by omega),if_neg (by omega),if_pos rfl,C.oQ];exact B.oQ i l l 1 _ rfl
     ·simp[e]
    rw[T]at N;exact fP.lists (h:=x) N B.oQ m.oQ rfl
set_option maxHeartbeats 8000000
def oS (k:Nat)(fr:Array Value)(b:Bk)(nm:ByteArray)(R:Bk->Nat->Bool->Bk->Int->Prop)(w:World):Prop:=
 ∀(b':Bk) (i:Nat) (f:Bool) (P z:Nat) (W:World),aN b=true->kZ b nm b' i f->w.heap.size<=z->z<=W.heap.size->kR z P W b' nm i f->aF w W->
  aY k (#[.pointer (some ⟨P,0,none⟩)]++fr) W λe W'=>∃b'' c,e=.returned (pT c)/\R b' i f b'' c/\kR z P W' b'' nm i f/\aT (λq=>z<=q) W W'
def rG (b:Bk)(nm:ByteArray)(R:Bk->Nat->Bool->Bk->Int->Prop)(z:Nat)(e:Ending)(w':World):Prop:=
 (aN b=false/\e=.returned (.tuple #[Bk.val ⟨0,none,[],0,none,[],0⟩,.int .i64 1]))∨
 (aN b=true/\∃(b':Bk) (i:Nat) (f:Bool) (b'':Bk) (c:Int),kZ b nm b' i f/\R b' i f b'' c/\e=.returned (.tuple #[b''.val,.int .i64 c])/\gY z w' b'')
def D5 (B8:Nat)(b:Bk)(c:Int)(j:Nat)(v:Value)(_w:World):Prop:=
 match j with
 |0=>v=.pointer (some ⟨B8,0,none⟩)
 |1=>v=b.val
 |2=>v=pT c
 |3=>v=.int .i64 c
 |_=>True
theorem EX (v0:Value)(b:Bk)(nm:ByteArray)(R:Bk->Nat->Bool->Bk->Int->Prop)(w:World)(hC:oS 147 #[v0] b nm R w)(hL:j9 w)(hf:Xs 3 Fx.cells w b.fa b.fl)(Q:b.fl.length<=1048576)(zg:b.fl.length<=b.fc)(O:b.fc<=9223372036854775807)(zl:∀f∈b.fl,f.n.size<=9223372036854775807)(hh:Xs 3 Hx.cells w b.ha b.hl)(zi:b.hl.length<=1048576)(Y:∀h∈b.hl,h.In w/\h.Fit):
 aY 100 #[b.val,.string nm,.func (.func 147) #[] #[v0]] w λe w'=>rG b nm R w.heap.size e w'/\aF w w':=by
 have r:aF w ((w.alloc b.obj).alloc (.cells #[.int .i64 0,.slice none 0 0,.slice none 0 0] 30)):=aB (aB (br _ _) _) _;have A0:=(halq (w.alloc b.obj) (.cells #[.int .i64 0,.slice none 0 0,.slice none 0 0] 30) w.heap.size (by simp)).trans (wnq w b.obj);have L:=wnq (w.alloc b.obj) (.cells #[.int .i64 0,.slice none 0 0,.slice none 0 0] 30);rw[wsa]at L;go_enter Tryz.func100,Tryz.ntmps100;go_wp2_with fail;obtain⟨W0,N⟩:=cK ((w.alloc b.obj).alloc (.cells #[.int .i64 0,.slice none 0 0,.slice none 0 0] 30));rw[N]at r A0 L ⊢;have hz1:w.heap.size+1<W0.heap.size:=(bU L);clear N;refine(kO b W0 (hf.zL r) Q zg O zl (hh.zL r) zi (λh m=>⟨(Y h m).1.zL r,(Y h m).2⟩)).mono ?_;rintro e H ⟨rfl,u⟩;have B:=aC r u;have A1:=bJ A0 u;have X:=bJ L u;have hs1:=u.size;clear A0 L u r;cases hbk:aN b with
 |false=>
  have x:Hid _:=hbk;have t:Hid _:=X;clear A1 X hbk;go_wp2_with fail;refine(qF 1 H (hL.zL B)).mono ?_;rintro e s ⟨rfl,l⟩;have N2:=aC B l;have R2:=bJ t.oQ l;obtain⟨r0,r1,r2⟩:=aM R2;have rf:=iQ R2;clear R2 t l;go_wp2_with fail;have zd:=((N2.setCell (p:=⟨w.heap.size+1,0,none⟩) (by show w.heap.size<=w.heap.size+1;omega) (.int .i64 0)).setCell (p:=⟨w.heap.size+1,1,none⟩) (by show w.heap.size<=w.heap.size+1;omega) (.slice none 0 0)).setCell (p:=⟨w.heap.size+1,2,none⟩) (by show w.heap.size<=w.heap.size+1;omega) (.slice none 0 0);exact bpr (v:=.tuple #[Bk.val ⟨0,none,[],0,none,[],0⟩,.int .i64 1]) (by simp[results,Tryz.results100,go_sem,r0,r1,r2]) rfl ⟨.inl ⟨x.oQ,rfl⟩,zd⟩
 |true=>
  have x:Hid _:=hbk;obtain⟨k0,k1,k2⟩:=aM A1
  have P:b.hl.length<=64:=by
   have:=hbk;simp only[aN,gA,bat,dte]at this;omega
  have z:kK Hx.n b.hl=true:=by
   have:=hbk;simp only[aN,dN,bV,bat]at this;exact this.2.2.2.1.2
  have t:Hid _:=X;clear A1 X hbk;go_wp2_with fail;refine(oW b nm H (hf.zL B) Q (hh.zL B) P (λh m=>⟨(Y h m).1.zL B,(Y h m).2⟩) z).mono ?_;rintro e s ⟨⟨b',i,f,rfl,S,hA⟩,l⟩;have y:aF s (s.alloc (NE b' nm i f)):=aB (br _ _) _;have V:=wnq s (NE b' nm i f);have U:=aC (aC B l) y;have A:Hid _:=bJ (bJ t.oQ l) y;have C:=hA.zL y;have zk:=l.size;obtain⟨w3,T⟩:=cK (s.alloc (NE b' nm i f));rw[T]at V U A C;have hs3:s.heap.size<w3.heap.size:=(bU V);have HI:Hid (kR H.heap.size s.heap.size w3 b' nm i f):=⟨V,C,zk⟩;have J:Hid _:=S;clear k0 k1 k2 hA C V y l B t S z;go_wp2_with fail;clear T;refine(hC b' i f s.heap.size H.heap.size w3 x.oQ J.oQ (by omega) (by omega) HI.oQ U).mono ?_;rintro e w4 ⟨d,c,rfl,hR,M,E⟩;have N4:=E.under U (nlq _) (λq hq=>by have zj:H.heap.size<=q:=hq;omega);have K:Hid _:=bE A.oQ E (λhq=>by have zj:H.heap.size<=w.heap.size+1:=hq;omega);have I:Hid _:=M;have zb:Hid _:=hR;clear hC HI A U M E hR;go_wp2_with fail;refine pG 4 [some 21,some 22,some 23,some 24] (D5 s.heap.size d c) (λ_ _ _ _ h _=>h) ?step ?fin
  case step=>
   intro i o F w' zh G D hd;match i,zh with
   |0,_|2,_=>
    simp at G;subst G;simp only[aE,Act.put];gi_wp2;exact⟨_,by simp[aH],rfl,br _ _⟩
   |1,_=>
    simp at G;subst G;have d0:F 0=_:=Zq hd 0;have W:=bJ I.oQ.p D;have k0:w'.cell? ⟨s.heap.size,0,none⟩=some (.int .i64 d.now):=aJ W rfl;have k1:w'.cell? ⟨s.heap.size,1,none⟩=some (.slice d.fa d.fl.length d.fc):=aJ W rfl;have k2:w'.cell? ⟨s.heap.size,2,none⟩=some (.slice d.ha d.hl.length d.hc):=aJ W rfl;clear W;simp only[aE,Act.put];rw[d0];gi_wp2;exact⟨_,by simp[aH,d0],rfl,br _ _⟩
   |3,_=>
    simp at G;subst G;have d2:F 2=_:=Zq hd 2;simp only[aE,Act.put];rw[d2];gi_wp2_with fail;refine⟨trivial,rfl,?_⟩;refine(cw.2 (vG c w' (hL.zL (aC N4 D)))).mono ?_;rintro e Z ⟨rfl,zf⟩;gi_wp2;exact⟨_,by simp[aH,d2],rfl,zf⟩
   |j+4,h=>exact absurd h (by omega)
  case fin=>
   intro F Z D hp;have d1:F 1=_:=hp 1 (by decide);have d3:F 3=_:=hp 3 (by decide);have N5:=aC N4 D;have R5:=bJ K.oQ D;have za:Hid _:=I.oQ.a.zL D;obtain⟨r0,r1,r2⟩:=aM R5;have rf:=iQ R5;clear hp R5 K D N4;simp only[lds,List.drop_zero,aE,Act.put];rw[d1,d3];clear d1 d3;generalize F 0=v0;generalize F 2=v2;gi_wp2_with fail;go_wp2_with fail;have hS:aT (λk=>k=w.heap.size+1) Z (((Z.setCell ⟨w.heap.size+1,0,none⟩ (.int .i64 d.now)).setCell ⟨w.heap.size+1,1,none⟩ (.slice d.fa d.fl.length d.fc)).setCell ⟨w.heap.size+1,2,none⟩ (.slice d.ha d.hl.length d.hc)):=(((aT.refl (λk=>k=w.heap.size+1) Z).set (g:=w.heap.size+1) rfl _ _).set (g:=w.heap.size+1) rfl _ _).set (g:=w.heap.size+1) rfl _ _;have zc:=(za.oQ.but hS (λk hk=>by rw[hk];omega)).weak (z':=w.heap.size) (by omega);have ze:=hS.under N5 (nlq _) (λk hk=>by rw[hk];omega);exact bpr (v:=.tuple #[d.val,.int .i64 c]) (by simp[results,Tryz.results100,go_sem,r0,r1,r2]) rfl ⟨.inr ⟨x.oQ,b',i,f,d,c,J.oQ,zb.oQ,rfl,zc⟩,ze⟩
theorem J0 (v0:Value)(b:Bk)(nm:ByteArray)(R:Bk->Nat->Bool->Bk->Int->Prop)(w:World)(hC:oS 150 #[v0] b nm R w)(hL:j9 w)(hf:Xs 3 Fx.cells w b.fa b.fl)(Q:b.fl.length<=1048576)(zg:b.fl.length<=b.fc)(O:b.fc<=9223372036854775807)(zl:∀f∈b.fl,f.n.size<=9223372036854775807)(hh:Xs 3 Hx.cells w b.ha b.hl)(zi:b.hl.length<=1048576)(Y:∀h∈b.hl,h.In w/\h.Fit):
 aY 100 #[b.val,.string nm,.func (.func 150) #[] #[v0]] w λe w'=>rG b nm R w.heap.size e w'/\aF w w':=by
 have r:aF w ((w.alloc b.obj).alloc (.cells #[.int .i64 0,.slice none 0 0,.slice none 0 0] 30)):=aB (aB (br _ _) _) _;have A0:=(halq (w.alloc b.obj) (.cells #[.int .i64 0,.slice none 0 0,.slice none 0 0] 30) w.heap.size (by simp)).trans (wnq w b.obj);have L:=wnq (w.alloc b.obj) (.cells #[.int .i64 0,.slice none 0 0,.slice none 0 0] 30);rw[wsa]at L;go_enter Tryz.func100,Tryz.ntmps100;go_wp2_with fail;obtain⟨W0,N⟩:=cK ((w.alloc b.obj).alloc (.cells #[.int .i64 0,.slice none 0 0,.slice none 0 0] 30));rw[N]at r A0 L ⊢;have hz1:w.heap.size+1<W0.heap.size:=(bU L);clear N;refine(kO b W0 (hf.zL r) Q zg O zl (hh.zL r) zi (λh m=>⟨(Y h m).1.zL r,(Y h m).2⟩)).mono ?_;rintro e H ⟨rfl,u⟩;have B:=aC r u;have A1:=bJ A0 u;have X:=bJ L u;have hs1:=u.size;clear A0 L u r;cases hbk:aN b with
 |false=>
  have x:Hid _:=hbk;have t:Hid _:=X;clear A1 X hbk;go_wp2_with fail;refine(qF 1 H (hL.zL B)).mono ?_;rintro e s ⟨rfl,l⟩;have N2:=aC B l;have R2:=bJ t.oQ l;obtain⟨r0,r1,r2⟩:=aM R2;have rf:=iQ R2;clear R2 t l;go_wp2_with fail;have zd:=((N2.setCell (p:=⟨w.heap.size+1,0,none⟩) (by show w.heap.size<=w.heap.size+1;omega) (.int .i64 0)).setCell (p:=⟨w.heap.size+1,1,none⟩) (by show w.heap.size<=w.heap.size+1;omega) (.slice none 0 0)).setCell (p:=⟨w.heap.size+1,2,none⟩) (by show w.heap.size<=w.heap.size+1;omega) (.slice none 0 0);exact bpr (v:=.tuple #[Bk.val ⟨0,none,[],0,none,[],0⟩,.int .i64 1]) (by simp[results,Tryz.results100,go_sem,r0,r1,r2]) rfl ⟨.inl ⟨x.oQ,rfl⟩,zd⟩
 |true=>
  have x:Hid _:=hbk;obtain⟨k0,k1,k2⟩:=aM A1
  have P:b.hl.length<=64:=by
   have:=hbk;simp only[aN,gA,bat,dte]at this;omega
  have z:kK Hx.n b.hl=true:=by
   have:=hbk;simp only[aN,dN,bV,bat]at this;exact this.2.2.2.1.2
  have t:Hid _:=X;clear A1 X hbk;go_wp2_with fail;refine(oW b nm H (hf.zL B) Q (hh.zL B) P (λh m=>⟨(Y h m).1.zL B,(Y h m).2⟩) z).mono ?_;rintro e s ⟨⟨b',i,f,rfl,S,hA⟩,l⟩;have y:aF s (s.alloc (NE b' nm i f)):=aB (br _ _) _;have V:=wnq s (NE b' nm i f);have U:=aC (aC B l) y;have A:Hid _:=bJ (bJ t.oQ l) y;have C:=hA.zL y;have zk:=l.size;obtain⟨w3,T⟩:=cK (s.alloc (NE b' nm i f));rw[T]at V U A C;have hs3:s.heap.size<w3.heap.size:=(bU V);have HI:Hid (kR H.heap.size s.heap.size w3 b' nm i f):=⟨V,C,zk⟩;have J:Hid _:=S;clear k0 k1 k2 hA C V y l B t S z;go_wp2_with fail;clear T;refine(hC b' i f s.heap.size H.heap.size w3 x.oQ J.oQ (by omega) (by omega) HI.oQ U).mono ?_;rintro e w4 ⟨d,c,rfl,hR,M,E⟩;have N4:=E.under U (nlq _) (λq hq=>by have zj:H.heap.size<=q:=hq;omega);have K:Hid _:=bE A.oQ E (λhq=>by have zj:H.heap.size<=w.heap.size+1:=hq;omega);have I:Hid _:=M;have zb:Hid _:=hR;clear hC HI A U M E hR;go_wp2_with fail;refine pG 4 [some 21,some 22,some 23,some 24] (D5 s.heap.size d c) (λ_ _ _ _ h _=>h) ?step ?fin
  case step=>
   intro i o F w' zh G D hd;match i,zh with
   |0,_|2,_=>
    simp at G;subst G;simp only[aE,Act.put];gi_wp2;exact⟨_,by simp[aH],rfl,br _ _⟩
   |1,_=>
    simp at G;subst G;have d0:F 0=_:=Zq hd 0;have W:=bJ I.oQ.p D;have k0:w'.cell? ⟨s.heap.size,0,none⟩=some (.int .i64 d.now):=aJ W rfl;have k1:w'.cell? ⟨s.heap.size,1,none⟩=some (.slice d.fa d.fl.length d.fc):=aJ W rfl;have k2:w'.cell? ⟨s.heap.size,2,none⟩=some (.slice d.ha d.hl.length d.hc):=aJ W rfl;clear W;simp only[aE,Act.put];rw[d0];gi_wp2;exact⟨_,by simp[aH,d0],rfl,br _ _⟩
   |3,_=>
    simp at G;subst G;have d2:F 2=_:=Zq hd 2;simp only[aE,Act.put];rw[d2];gi_wp2_with fail;refine⟨trivial,rfl,?_⟩;refine(cw.2 (vG c w' (hL.zL (aC N4 D)))).mono ?_;rintro e Z ⟨rfl,zf⟩;gi_wp2;exact⟨_,by simp[aH,d2],rfl,zf⟩
   |j+4,h=>exact absurd h (by omega)
  case fin=>
   intro F Z D hp;have d1:F 1=_:=hp 1 (by decide);have d3:F 3=_:=hp 3 (by decide);have N5:=aC N4 D;have R5:=bJ K.oQ D;have za:Hid _:=I.oQ.a.zL D;obtain⟨r0,r1,r2⟩:=aM R5;have rf:=iQ R5;clear hp R5 K D N4;simp only[lds,List.drop_zero,aE,Act.put];rw[d1,d3];clear d1 d3;generalize F 0=v0;generalize F 2=v2;gi_wp2_with fail;go_wp2_with fail;have hS:aT (λk=>k=w.heap.size+1) Z (((Z.setCell ⟨w.heap.size+1,0,none⟩ (.int .i64 d.now)).setCell ⟨w.heap.size+1,1,none⟩ (.slice d.fa d.fl.length d.fc)).setCell ⟨w.heap.size+1,2,none⟩ (.slice d.ha d.hl.length d.hc)):=(((aT.refl (λk=>k=w.heap.size+1) Z).set (g:=w.heap.size+1) rfl _ _).set (g:=w.heap.size+1) rfl _ _).set (g:=w.heap.size+1) rfl _ _;have zc:=(za.oQ.but hS (λk hk=>by rw[hk];omega)).weak (z':=w.heap.size) (by omega);have ze:=hS.under N5 (nlq _) (λk hk=>by rw[hk];omega);exact bpr (v:=.tuple #[d.val,.int .i64 c]) (by simp[results,Tryz.results100,go_sem,r0,r1,r2]) rfl ⟨.inr ⟨x.oQ,b',i,f,d,c,J.oQ,zb.oQ,rfl,zc⟩,ze⟩
theorem CF (v0:Value)(b:Bk)(nm:ByteArray)(R:Bk->Nat->Bool->Bk->Int->Prop)(w:World)(hC:oS 104 #[v0] b nm R w)(hL:j9 w)(hf:Xs 3 Fx.cells w b.fa b.fl)(Q:b.fl.length<=1048576)(zg:b.fl.length<=b.fc)(O:b.fc<=9223372036854775807)(zl:∀f∈b.fl,f.n.size<=9223372036854775807)(hh:Xs 3 Hx.cells w b.ha b.hl)(zi:b.hl.length<=1048576)(Y:∀h∈b.hl,h.In w/\h.Fit):
 aY 100 #[b.val,.string nm,.func (.func 104) #[] #[v0]] w λe w'=>rG b nm R w.heap.size e w'/\aF w w':=by
 have r:aF w ((w.alloc b.obj).alloc (.cells #[.int .i64 0,.slice none 0 0,.slice none 0 0] 30)):=aB (aB (br _ _) _) _;have A0:=(halq (w.alloc b.obj) (.cells #[.int .i64 0,.slice none 0 0,.slice none 0 0] 30) w.heap.size (by simp)).trans (wnq w b.obj);have L:=wnq (w.alloc b.obj) (.cells #[.int .i64 0,.slice none 0 0,.slice none 0 0] 30);rw[wsa]at L;go_enter Tryz.func100,Tryz.ntmps100;go_wp2_with fail;obtain⟨W0,N⟩:=cK ((w.alloc b.obj).alloc (.cells #[.int .i64 0,.slice none 0 0,.slice none 0 0] 30));rw[N]at r A0 L ⊢;have hz1:w.heap.size+1<W0.heap.size:=(bU L);clear N;refine(kO b W0 (hf.zL r) Q zg O zl (hh.zL r) zi (λh m=>⟨(Y h m).1.zL r,(Y h m).2⟩)).mono ?_;rintro e H ⟨rfl,u⟩;have B:=aC r u;have A1:=bJ A0 u;have X:=bJ L u;have hs1:=u.size;clear A0 L u r;cases hbk:aN b with
 |false=>
  have x:Hid _:=hbk;have t:Hid _:=X;clear A1 X hbk;go_wp2_with fail;refine(qF 1 H (hL.zL B)).mono ?_;rintro e s ⟨rfl,l⟩;have N2:=aC B l;have R2:=bJ t.oQ l;obtain⟨r0,r1,r2⟩:=aM R2;have rf:=iQ R2;clear R2 t l;go_wp2_with fail;have zd:=((N2.setCell (p:=⟨w.heap.size+1,0,none⟩) (by show w.heap.size<=w.heap.size+1;omega) (.int .i64 0)).setCell (p:=⟨w.heap.size+1,1,none⟩) (by show w.heap.size<=w.heap.size+1;omega) (.slice none 0 0)).setCell (p:=⟨w.heap.size+1,2,none⟩) (by show w.heap.size<=w.heap.size+1;omega) (.slice none 0 0);exact bpr (v:=.tuple #[Bk.val ⟨0,none,[],0,none,[],0⟩,.int .i64 1]) (by simp[results,Tryz.results100,go_sem,r0,r1,r2]) rfl ⟨.inl ⟨x.oQ,rfl⟩,zd⟩
 |true=>
  have x:Hid _:=hbk;obtain⟨k0,k1,k2⟩:=aM A1
  have P:b.hl.length<=64:=by
   have:=hbk;simp only[aN,gA,bat,dte]at this;omega
  have z:kK Hx.n b.hl=true:=by
   have:=hbk;simp only[aN,dN,bV,bat]at this;exact this.2.2.2.1.2
  have t:Hid _:=X;clear A1 X hbk;go_wp2_with fail;refine(oW b nm H (hf.zL B) Q (hh.zL B) P (λh m=>⟨(Y h m).1.zL B,(Y h m).2⟩) z).mono ?_;rintro e s ⟨⟨b',i,f,rfl,S,hA⟩,l⟩;have y:aF s (s.alloc (NE b' nm i f)):=aB (br _ _) _;have V:=wnq s (NE b' nm i f);have U:=aC (aC B l) y;have A:Hid _:=bJ (bJ t.oQ l) y;have C:=hA.zL y;have zk:=l.size;obtain⟨w3,T⟩:=cK (s.alloc (NE b' nm i f));rw[T]at V U A C;have hs3:s.heap.size<w3.heap.size:=(bU V);have HI:Hid (kR H.heap.size s.heap.size w3 b' nm i f):=⟨V,C,zk⟩;have J:Hid _:=S;clear k0 k1 k2 hA C V y l B t S z;go_wp2_with fail;clear T;refine(hC b' i f s.heap.size H.heap.size w3 x.oQ J.oQ (by omega) (by omega) HI.oQ U).mono ?_;rintro e w4 ⟨d,c,rfl,hR,M,E⟩;have N4:=E.under U (nlq _) (λq hq=>by have zj:H.heap.size<=q:=hq;omega);have K:Hid _:=bE A.oQ E (λhq=>by have zj:H.heap.size<=w.heap.size+1:=hq;omega);have I:Hid _:=M;have zb:Hid _:=hR;clear hC HI A U M E hR;go_wp2_with fail;refine pG 4 [some 21,some 22,some 23,some 24] (D5 s.heap.size d c) (λ_ _ _ _ h _=>h) ?step ?fin
  case step=>
   intro i o F w' zh G D hd;match i,zh with
   |0,_|2,_=>
    simp at G;subst G;simp only[aE,Act.put];gi_wp2;exact⟨_,by simp[aH],rfl,br _ _⟩
   |1,_=>
    simp at G;subst G;have d0:F 0=_:=Zq hd 0;have W:=bJ I.oQ.p D;have k0:w'.cell? ⟨s.heap.size,0,none⟩=some (.int .i64 d.now):=aJ W rfl;have k1:w'.cell? ⟨s.heap.size,1,none⟩=some (.slice d.fa d.fl.length d.fc):=aJ W rfl;have k2:w'.cell? ⟨s.heap.size,2,none⟩=some (.slice d.ha d.hl.length d.hc):=aJ W rfl;clear W;simp only[aE,Act.put];rw[d0];gi_wp2;exact⟨_,by simp[aH,d0],rfl,br _ _⟩
   |3,_=>
    simp at G;subst G;have d2:F 2=_:=Zq hd 2;simp only[aE,Act.put];rw[d2];gi_wp2_with fail;refine⟨trivial,rfl,?_⟩;refine(cw.2 (vG c w' (hL.zL (aC N4 D)))).mono ?_;rintro e Z ⟨rfl,zf⟩;gi_wp2;exact⟨_,by simp[aH,d2],rfl,zf⟩
   |j+4,h=>exact absurd h (by omega)
  case fin=>
   intro F Z D hp;have d1:F 1=_:=hp 1 (by decide);have d3:F 3=_:=hp 3 (by decide);have N5:=aC N4 D;have R5:=bJ K.oQ D;have za:Hid _:=I.oQ.a.zL D;obtain⟨r0,r1,r2⟩:=aM R5;have rf:=iQ R5;clear hp R5 K D N4;simp only[lds,List.drop_zero,aE,Act.put];rw[d1,d3];clear d1 d3;generalize F 0=v0;generalize F 2=v2;gi_wp2_with fail;go_wp2_with fail;have hS:aT (λk=>k=w.heap.size+1) Z (((Z.setCell ⟨w.heap.size+1,0,none⟩ (.int .i64 d.now)).setCell ⟨w.heap.size+1,1,none⟩ (.slice d.fa d.fl.length d.fc)).setCell ⟨w.heap.size+1,2,none⟩ (.slice d.ha d.hl.length d.hc)):=(((aT.refl (λk=>k=w.heap.size+1) Z).set (g:=w.heap.size+1) rfl _ _).set (g:=w.heap.size+1) rfl _ _).set (g:=w.heap.size+1) rfl _ _;have zc:=(za.oQ.but hS (λk hk=>by rw[hk];omega)).weak (z':=w.heap.size) (by omega);have ze:=hS.under N5 (nlq _) (λk hk=>by rw[hk];omega);exact bpr (v:=.tuple #[d.val,.int .i64 c]) (by simp[results,Tryz.results100,go_sem,r0,r1,r2]) rfl ⟨.inr ⟨x.oQ,b',i,f,d,c,J.oQ,zb.oQ,rfl,zc⟩,ze⟩
def U6 (took:Bool)(b':Bk)(i:Nat)(f:Bool)(b'':Bk)(c:Int):Prop:=c=mW b' i f/\b''=pL b' i f took
theorem CW (took:Bool)(T:Nat)(b:Bk)(nm:ByteArray)(w:World)(j:w.cell? ⟨T,0,none⟩=some (.bool took))(g:∀h∈b.hl,h.Fit):
 oS 147 #[.pointer (some ⟨T,0,none⟩)] b nm (U6 took) w:=by
 intro b' i f P z W _ a hz hzW k l;have c0:W.cell? ⟨T,0,none⟩=some (.bool took):=(l.cell (aA j)).trans j;show aY 147 #[.pointer (some ⟨P,0,none⟩),.pointer (some ⟨T,0,none⟩)] W _;go_enter Tryz.func147,Tryz.ntmps147;go_wp2_with fail;refine(UU z P b' nm i f took W k (λe=>by obtain⟨h,_⟩:=a.hd.1 e;rw[a.lk.len];exact h) (a.lk.fit g)).mono ?_;rintro e w1 ⟨rfl,c,d⟩;go_wp2;go_ret;exact⟨_,_,rfl,⟨rfl,rfl⟩,c,d⟩
theorem GH (b:Bk)(nm:ByteArray)(took:Bool)(w:World)(S:j9 w)(T:Xs 3 Fx.cells w b.fa b.fl)(D:b.fl.length<=1048576)(A:b.fl.length<=b.fc)(s:b.fc<=9223372036854775807)(G:∀f∈b.fl,f.n.size<=9223372036854775807)(U:Xs 3 Hx.cells w b.ha b.hl)(E:b.hl.length<=1048576)(B:∀h∈b.hl,h.In w/\h.Fit):
 aY 106 #[b.val,.string nm,.bool took] w λe w'=>rG b nm (U6 took) w.heap.size e w'/\aF w w':=by
 have a:aF w (((w.alloc b.obj).alloc (.cells #[.bool took] 4)).alloc (.cells #[.int .i64 0,.slice none 0 0,.slice none 0 0] 30)):=aB (aB (aB (br _ _) _) _) _;have t:=(halq ((w.alloc b.obj).alloc (.cells #[.bool took] 4)) (.cells #[.int .i64 0,.slice none 0 0,.slice none 0 0] 30) (w.alloc b.obj).heap.size (by simp)).trans (wnq (w.alloc b.obj) (.cells #[.bool took] 4));have o:=wnq ((w.alloc b.obj).alloc (.cells #[.bool took] 4)) (.cells #[.int .i64 0,.slice none 0 0,.slice none 0 0] 30);simp only[wsa]at t o;go_enter Tryz.func106,Tryz.ntmps106;go_wp2_with fail;obtain⟨y,r⟩:=cK (((w.alloc b.obj).alloc (.cells #[.bool took] 4)).alloc (.cells #[.int .i64 0,.slice none 0 0,.slice none 0 0] 30));rw[r]at a t o ⊢;have hz1:w.heap.size+1+1<y.heap.size:=(bU o);have N:y.cell? ⟨w.heap.size+1,0,none⟩=some (.bool took):=aJ t rfl;clear r;refine(EX (.pointer (some ⟨w.heap.size+1,0,none⟩)) b nm (U6 took) y (CW took (w.heap.size+1) b nm y N (λh m=>(B h m).2)) (S.zL a) (T.zL a) D A s G (U.zL a) E (λh m=>⟨(B h m).1.zL a,(B h m).2⟩)).mono ?_;rintro e H ⟨R,j⟩;have P:=aC a j;have z:=bJ o j;obtain⟨K,L,M⟩:=aM z;have rf:=iQ z;have hs1:=j.size;clear t o z j a N;have J:∀u v x:Value,aT (λk=>k=w.heap.size+1+1) H (((H.setCell ⟨w.heap.size+1+1,0,none⟩ u).setCell ⟨w.heap.size+1+1,1,none⟩ v).setCell ⟨w.heap.size+1+1,2,none⟩ x):=λu v x=>(((aT.refl (λk=>k=w.heap.size+1+1) H).set (g:=w.heap.size+1+1) rfl _ _).set (g:=w.heap.size+1+1) rfl _ _).set (g:=w.heap.size+1+1) rfl _ _;have q:=λu v x=>(J u v x).under P (nlq _) (λk C=>by rw[C];omega);rcases R with⟨d,rfl⟩|⟨d,b',i,f,p,c,F,I,rfl,Q⟩
 ·have l:Hid _:=d;clear d;go_wp2_with fail;exact bpr (v:=.tuple #[Bk.val ⟨0,none,[],0,none,[],0⟩,.int .i64 1]) (by simp[results,Tryz.results106,go_sem,K,L,M]) rfl ⟨.inl ⟨l.oQ,rfl⟩,q _ _ _⟩
 ·have l:Hid _:=d;have O:Hid _:=I;clear d I;go_wp2_with fail;exact bpr (v:=.tuple #[p.val,.int .i64 c]) (by simp[results,Tryz.results106,go_sem,K,L,M]) rfl ⟨.inr ⟨l.oQ,b',i,f,p,c,F,O.oQ,rfl,(Q.but (J _ _ _) (λk C=>by rw[C];omega)).weak (by omega)⟩,q _ _ _⟩
end Go.Proofs.YtcdbcliaepcpfaaGreatDoor
