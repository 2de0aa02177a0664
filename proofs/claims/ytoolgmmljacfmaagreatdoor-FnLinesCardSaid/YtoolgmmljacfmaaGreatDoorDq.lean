import Derived.Test.YtoolgmmljacfmaaGreatDoorLeast
import Derived.Test.YtoolgmmljacfmaaGreatDoorAs
import Derived.ArgAppend
set_option maxRecDepth 100000
set_option maxHeartbeats 8000000
open List renaming length → ln
open Go.Proofs.Tryz Go.RowKit
namespace Go.Proofs.YtoolgmmljacfmaaGreatDoor
open Go.Shelf
attribute [local go_sem] Oper.semAt_some
variable {z i P:Nat}{w:Wd}{b:Bk}{nm:Ba}{f:Bool}{x:Hx}
abbrev pgv (b:Bk)(nm:ByteArray)(i:Nat)(f:Bool):Value:=.agg #[I b.now,.slice b.fa b.fl.length b.fc,.slice b.ha b.hl.length b.hc,.string nm,I (i:Int),.bool f]
abbrev ZJ (b:Bk)(nm:ByteArray)(i:Nat)(f:Bool):Obj:=.cells #[I b.now,.slice b.fa b.fl.length b.fc,.slice b.ha b.hl.length b.hc,.string nm,I (i:Int),.bool f] 198
structure lY (b:Bk)(nm:ByteArray)(b':Bk)(i:Nat)(f:Bool):Prop where
 now:b'.now=b.now
 fl:b'.fl=b.fl
 lk:aT b.hl b'.hl
 at':GX b.hl nm i
 hd:f=true↔∃h:i<b.hl.length,b.hl[i].n.toList=nm.toList
theorem DN (b:Bk)(nm:Ba)(w:Wd)(Q:Xs 3 Fx.cells w b.fa b.fl)(B:ln b.fl<=1048576)(M:Xs 3 Hx.cells w b.ha b.hl)(s:ln b.hl<=64)(L:∀h∈b.hl,h.In w/\h.Fit)(ha:kR Hx.n b.hl=true):
 aW 156 #[b.val,.string nm] w λe w'=>(∃(b':Bk) (i:Nat) (f:Bool),e=rt (pgv b' nm i f)/\lY b nm b' i f/\iI w.heap.size w' b')/\aG w w':=by
 have c:aG w ((w.alloc b.obj).alloc (.cells #[I 0,ms,ms,.string ⟨#[]⟩,I 0,.bool false] 198)):=aC (aC (br _ _) _) _;have t:=(halq (w.alloc b.obj) (.cells #[I 0,ms,ms,.string ⟨#[]⟩,I 0,.bool false] 198) w.heap.size sm).trans (wnq w b.obj);have o:=wnq (w.alloc b.obj) (.cells #[I 0,ms,ms,.string ⟨#[]⟩,I 0,.bool false] 198);rw[wsa]at o;go_enter func156,ntmps156;go_wp2_with fail;obtain⟨W0,p⟩:=cI ((w.alloc b.obj).alloc (.cells #[I 0,ms,ms,.string ⟨#[]⟩,I 0,.bool false] 198));rw[p]at c t o ⊢;have hz1:w.heap.size+1<W0.heap.size:=(cE o);clear p;refine(OU b.hl b.ha b.hc nm W0 (M.zL c) s ha).mono ?_;rintro e w1 ⟨⟨i,f,rfl,N,q⟩,a⟩;have l:=aE c a;have D:=bJ t a;have j:Hid _:=bJ o a;have HP:Hid _:=N;have F:Hid _:=q;obtain⟨R,S,T⟩:=aM D;have hs1:=a.size;clear t o D a c N q ha;go_wp2_with fail;refine(QN b w1 (Q.zL l) B (M.zL l) s (λh m=>⟨(L h m).1.zL l,(L h m).2⟩)).mono ?_;rintro e C ⟨⟨b',rfl,G,H,r,J⟩,d⟩;have u:Hid (lY b nm b' i f):=⟨G,H,r,HP.oQ,F.oQ⟩;have P:=aE l d;have x:=bJ j.oQ d;obtain⟨U,V,W,X,Z,r5⟩:=rG x;have rf:=jS x;have O:=aI J;clear R S T G H r J HP F j x d l;go_wp2_with fail;have K:aU (λk=>k=w.heap.size+1) C ((((((C.setCell (Y (w.heap.size+1) 0) (I b'.now)).setCell (Y (w.heap.size+1) 1) (fs b')).setCell (Y (w.heap.size+1) 2) (hs b')).setCell (Y (w.heap.size+1) 3) (.string nm)).setCell (Y (w.heap.size+1) 4) (I (i:Int))).setCell (Y (w.heap.size+1) 5) (.bool f)):=((((((aU.refl (λk=>k=w.heap.size+1) C).set (g:=w.heap.size+1) rfl _ _).set (g:=w.heap.size+1) rfl _ _).set (g:=w.heap.size+1) rfl _ _).set (g:=w.heap.size+1) rfl _ _).set (g:=w.heap.size+1) rfl _ _).set (g:=w.heap.size+1) rfl _ _;have y:=(O.oQ.but K (λk A=>by rw[A];omega)).weak (z':=w.heap.size) om;have z:=K.under P (nlq _) (λk A=>by rw[A];omega);exact bpr (v:=pgv b' nm i f) (by simp[results,results156,go_sem,U,V,W,X,Z,r5]) rfl ⟨⟨b',i,f,rfl,u.oQ,y⟩,z⟩
def rB (c:Int):Value:=if c=0 then .nilIface else .iface 196 (I c)
theorem J9 (c:Int)(w:Wd)(a:l8 w):
 aW 155 #[rB c] w λe w'=>e=rt (I c)/\aG w w':=by
 unfold rB;split;·rename_i h;subst h;exact WH w
 ·exact BK c w a
theorem aAJ (b:Bk)(nm:Ba)(i:Nat)(took:Bool)(P:Nat)(w:Wd)(a:w.heap[P]?=some (ZJ b nm i false)):
 aW 165 #[E P 0,.bool took] w λe w'=>e=rt (rB 6)/\w'=w:=by
 have p5:w.cell? (Y P 5)=some (.bool false):=aB a rfl;clear a;go_enter func165,ntmps165;go_wp2;go_ret;exact⟨rfl,rfl⟩
theorem nP (w:Wd)(n:Nat):aG w (w.drewN n):=⟨rfl,rfl,rfl,nlq _,λ_ _=>rfl⟩
theorem wG:∀(l:List Hx) (i:Nat) (b:Hx) (h:i<ln l),b.bs.Sublist l[i].bs->((l.set i b).flatMap Hx.bs).Sublist (l.flatMap Hx.bs)
 |[],_,_,h,_=>by simp at h
 |a::r,0,b,_,hs=>by
  simp only[lcz,lfc];exact List.Sublist.append hs (List.Sublist.refl _)
 |a::r,i+1,b,h,hs=>by
  simp only[lcs,lfc];exact List.Sublist.append (List.Sublist.refl _) (wG r i b (by simpa using h) (by simpa using hs))
theorem iI.held (h:iI z w b)(a:i<ln b.hl):∃g,b.ha=some (Y g 0)/\z<=g/\(ln b.hl)<=b.hc/\gD 74 3 Hx.cells w g b.hc b.hl (ln b.hl):=by
 rcases h.h with⟨_,e⟩|⟨g,cap,e,d,f,j⟩;·rw[e]at a;simp at a
 ·simp only[vsi]at e;obtain⟨c,_,rfl⟩:=e;exact⟨g,c,d,f,j⟩
structure mP (z P:Nat)(w:World)(b:Bk)(nm:ByteArray)(i:Nat)(f:Bool):Prop where
 p:w.heap[P]?=some (ZJ b nm i f)
 a:iI z w b
 zp:z<=P
theorem mP.zL {w w':Wd}(h:mP z P w b nm i f)(c:aG w w'):mP z P w' b nm i f:=⟨bJ h.p c,h.a.zL c,h.zp⟩
def kO (took:Bool)(x:Hx):Hx:=if took then⟨x.n,x.na,x.nl,x.nc,none,[],0⟩else⟨x.n,x.ta,x.tl,x.tc,none,[],0⟩
def nU (b:Bk)(i:Nat)(f:Bool):Int:=if f then(match b.hl[i]? with|some x=>if x.nl=[]then 8 else 0|none=>6)else 6
def qS (b:Bk)(i:Nat)(f:Bool)(took:Bool):Bk:=if nU b i f=0 then(match b.hl[i]? with|some x=>⟨b.now,b.fa,b.fl,b.fc,b.ha,b.hl.set i (kO took x),b.hc⟩|none=>b)else b
theorem TG (took:Bool)(h:fF z w x):fF z w (kO took x)/\(kO took x).bs.Sublist x.bs:=by
 unfold kO;cases took with
 |true=>exact⟨⟨h.n,.inl ⟨rfl,rfl⟩⟩,by simp[Hx.bs]⟩
 |false=>exact⟨⟨h.t,.inl ⟨rfl,rfl⟩⟩,by simp[Hx.bs]⟩
theorem ZB (z P:Nat)(b:Bk)(nm:Ba)(i:Nat)(f took:Bool)(w:Wd)(n:mP z P w b nm i f)(G:f=true->i<ln b.hl)(H:∀h∈b.hl,h.Fit):
 aW 165 #[E P 0,.bool took] w λe w'=>e=rt (rB (nU b i f))/\mP z P w' (qS b i f took) nm i f/\aU (λk=>z<=k) w w':=by
 cases f with
 |false=>
  refine(aAJ b nm i took P w n.p).mono ?_;rintro e w' ⟨rfl,rfl⟩;exact⟨rfl,n,aU.refl _ _⟩
 |true=>
  have l:=G rfl;obtain⟨x,hx⟩:=bQ (b.hl[i]);have u:b.hl[i]?=some x:=by rw[hx];exact lge l
  have K:=H x (by rw[hx];exact lgm l);obtain⟨g,ha,J,hcap,F⟩:=n.a.held l;have p2:w.cell? (Y P 2)=some (.slice (some (Y g 0)) (ln b.hl) b.hc):=by rw[←ha];exact aB n.p rfl
  have p4:w.cell? (Y P 4)=some (I (i:Int)):=aB n.p rfl;have p5:w.cell? (Y P 5)=some (.bool true):=aB n.p rfl;obtain⟨f,c,A⟩:=F;have U:=c.cell (i:=i*3+1) om;have N:=c.cell (i:=i*3+2) om;rw[show f (i*3+1)=.slice x.ta (ln x.tl) x.tc from by rw[hx];exact A i l l 1 _ rfl]at U;rw[show f (i*3+2)=.slice x.na (ln x.nl) x.nc from by rw[hx];exact A i l l 2 _ rfl]at N;have cf:=λi=>c.frozen i
  have D:P≠g:=λe=>by
   subst e;obtain⟨cs,s,_⟩:=c;rw[n.p]at s;cases s
  have hnn:=K.nn;have q:Hid _:=n;have C:=aI hx;have m:Hid _:=u;have r:Hid _:=c;have B:Hid _:=A;have T:Hid _:=ha;clear A n hx u c ha;cases hnl:x.nl with
  |nil=>
   have o:Hid (nU b i true=8/\qS b i true took=b):=by
    have:nU b i true=8:=by unfold nU;rw[m.oQ];simp[hnl]
    refine⟨this,?_⟩;unfold qS;rw[this];rfl
   rw[hnl]at N;clear hnl;go_enter func165,ntmps165;go_wp2;go_quiet (fail);go_wp2;go_ret;rw[o.oQ.1,o.oQ.2];exact⟨rfl,q.oQ.zL (nP _ _),aU.below (nP _ _)⟩
  |cons y ys=>
   have hlen:0<ln x.nl:=by rw[hnl];simp
   have o:Hid (nU b i true=0/\qS b i true took=⟨b.now,b.fa,b.fl,b.fc,b.ha,b.hl.set i (kO took x),b.hc⟩):=by
    have O:nU b i true=0:=by unfold nU;rw[m.oQ];simp[hnl]
    refine⟨O,?_⟩;unfold qS;rw[O,m.oQ];rfl
   have R:fF z w x:=q.oQ.a.t x (by rw[C.oQ];exact lgm l);have M:Hid _:=TG took R
   have L:Hid (∀(w':Wd),aU (λk=>k=g) w w'->gD 74 3 Hx.cells w' g b.hc (b.hl.set i (kO took x)) (ln b.hl)->mP z P w' ⟨b.now,b.fa,b.fl,b.fc,b.ha,b.hl.set i (kO took x),b.hc⟩ nm i true/\aU (λk=>z<=k) w w'):=λw' v F=>by
    refine⟨⟨?_,q.oQ.a.put T.oQ l v F (M.oQ.1.butHeld r.oQ v) (q.oQ.a.d.sublist (wG b.hl i _ l (by rw[←C.oQ];exact M.oQ.2))),q.oQ.zp⟩,v.wide (λk W=>by rw[W];exact J)⟩;have:=bF q.oQ.p v D;rw[this];simp
   have hz2:((ln x.nl:Int)==0)=false:=beq_false_of_ne om;clear hnl R;cases took with
   |true=>
    go_enter func165,ntmps165;go_wp2;go_quiet (fail);go_wp2;go_ret;rw[o.oQ.1,o.oQ.2];refine⟨rfl,L.oQ _ (((aU.below (S:=λk=>k=g) (nP _ _)).set (g:=g) rfl _ _).set (g:=g) rfl _ _) ?_⟩;exact gD.lists (h:=x) ((((World.rowIs.of_block r.oQ ((nP w _).block _ (World.rowIs.lt r.oQ))).set _ _).set _ _)) B.oQ m.oQ rfl
   |false=>
    go_enter func165,ntmps165;go_wp2;go_quiet (fail);go_wp2;go_ret;rw[o.oQ.1,o.oQ.2];refine⟨rfl,L.oQ _ ((aU.below (S:=λk=>k=g) (nP _ _)).set (g:=g) rfl _ _) ?_⟩;have Q:=(World.rowIs.of_block r.oQ ((nP w nq).block _ (World.rowIs.lt r.oQ))).set (i*3+2) (ms)
    have V:(λj=>if j=i*3+2 then Value.slice none 0 0 else f j)=(λj=>if j=i*3+2 then Value.slice none 0 0 else if j=i*3+1 then .slice x.ta (ln x.tl) x.tc else f j):=by
     funext j;by_cases e:j=i*3+1
     ·subst e;rw[if_neg om,if_neg om,if_pos rfl,C.oQ];exact B.oQ i l l 1 _ rfl
     ·simp[e]
    rw[V]at Q;exact gD.lists (h:=x) Q B.oQ m.oQ rfl
def wK (k:Nat)(fr:Array Value)(b:Bk)(nm:ByteArray)(R:Bk->Nat->Bool->Bk->Int->Prop)(w:World):Prop:=
 ∀(b':Bk) (i:Nat) (f:Bool) (P z:Nat) (W:World),aO b=true->lY b nm b' i f->w.heap.size<=z->z<=W.heap.size->mP z P W b' nm i f->aG w W->
  aW k (#[E P 0]++fr) W λe W'=>∃b'' c,e=rt (rB c)/\R b' i f b'' c/\mP z P W' b'' nm i f/\aU (λq=>z<=q) W W'
def zT (b:Bk)(nm:ByteArray)(R:Bk->Nat->Bool->Bk->Int->Prop)(z:Nat)(e:Ending)(w':World):Prop:=
 (aO b=false/\e=rt (.tuple #[Bk.val ⟨0,none,[],0,none,[],0⟩,I 1]))∨
 (aO b=true/\∃(b':Bk) (i:Nat) (f:Bool) (b'':Bk) (c:Int),lY b nm b' i f/\R b' i f b'' c/\e=rt (.tuple #[b''.val,I c])/\iI z w' b'')
def D5 (B8:Nat)(b:Bk)(c:Int)(j:Nat)(v:Value)(_w:World):Prop:=
 match j with
 |0=>v=(E B8 0)
 |1=>v=b.val
 |2=>v=rB c
 |3=>v=I c
 |_=>True
theorem tZ (c:Nat)(hE:∀(args:Array Va)(w:Wd),(callFunc c args).run prog w=.ok (.enter c args) w)(v0:Va)(b:Bk)(nm:Ba)(R:Bk->Nat->Bool->Bk->Int->Prop)(w:Wd)(hC:wK c #[v0] b nm R w)(hL:l8 w)(hf:Xs 3 Fx.cells w b.fa b.fl)(Q:ln b.fl<=1048576)(zg:ln b.fl<=b.fc)(O:b.fc<=9223372036854775807)(zm:∀f∈b.fl,f.n.size<=9223372036854775807)(hh:Xs 3 Hx.cells w b.ha b.hl)(zi:ln b.hl<=1048576)(Z:∀h∈b.hl,h.In w/\h.Fit):
 aW 121 #[b.val,.string nm,.func (.func c) #[] #[v0]] w λe w'=>zT b nm R w.heap.size e w'/\aG w w':=by
 have r:aG w ((w.alloc b.obj).alloc (zo)):=aC (aC (br _ _) _) _;have A0:=(halq (w.alloc b.obj) (zo) w.heap.size sm).trans (wnq w b.obj);have L:=wnq (w.alloc b.obj) (zo);rw[wsa]at L;go_enter func121,ntmps121;go_wp2_with fail;obtain⟨W0,N⟩:=cI ((w.alloc b.obj).alloc (zo));rw[N]at r A0 L ⊢;have hz1:w.heap.size+1<W0.heap.size:=(cE L);clear N;refine(qA b W0 (hf.zL r) Q zg O zm (hh.zL r) zi (λh m=>⟨(Z h m).1.zL r,(Z h m).2⟩)).mono ?_;rintro e w1 ⟨rfl,u⟩;have B:=aE r u;have A1:=bJ A0 u;have X:=bJ L u;have hs1:=u.size;clear A0 L u r;cases hbk:aO b with
 |false=>
  have x:Hid _:=hbk;have t:Hid _:=X;clear A1 X hbk;go_wp2_with fail;refine(BK 1 w1 (hL.zL B)).mono ?_;rintro e s ⟨rfl,l⟩;have N2:=aE B l;have R2:=bJ t.oQ l;obtain⟨r0,r1,r2⟩:=aM R2;have rf:=jS R2;clear R2 t l;go_wp2_with fail;have zd:=((N2.setCell (p:=(Y (w.heap.size+1) 0)) (by show w.heap.size<=w.heap.size+1;omega) (I 0)).setCell (p:=(Y (w.heap.size+1) 1)) (by show w.heap.size<=w.heap.size+1;omega) (ms)).setCell (p:=(Y (w.heap.size+1) 2)) (by show w.heap.size<=w.heap.size+1;omega) (ms);exact bpr (v:=.tuple #[Bk.val ⟨0,none,[],0,none,[],0⟩,I 1]) (by simp[results,results121,go_sem,r0,r1,r2]) rfl ⟨.inl ⟨x.oQ,rfl⟩,zd⟩
 |true=>
  have x:Hid _:=hbk;obtain⟨k0,k1,k2⟩:=aM A1
  have P:ln b.hl<=64:=by
   have:=hbk;simp only[aO,iD,bat,dte]at this;omega
  have z:kR Hx.n b.hl=true:=by
   have:=hbk;simp only[aO,dU,bX,bat]at this;exact this.2.2.2.1.2
  have t:Hid _:=X;clear A1 X hbk;go_wp2_with fail;refine(DN b nm w1 (hf.zL B) Q (hh.zL B) P (λh m=>⟨(Z h m).1.zL B,(Z h m).2⟩) z).mono ?_;rintro e s ⟨⟨b',i,f,rfl,S,hA⟩,l⟩;have y:aG s (s.alloc (ZJ b' nm i f)):=aC (br _ _) _;have V:=wnq s (ZJ b' nm i f);have U:=aE (aE B l) y;have A:Hid _:=bJ (bJ t.oQ l) y;have C:=hA.zL y;have zl:=l.size;obtain⟨w3,T⟩:=cI (s.alloc (ZJ b' nm i f));rw[T]at V U A C;have hs3:s.heap.size<w3.heap.size:=(cE V);have HI:Hid (mP w1.heap.size s.heap.size w3 b' nm i f):=⟨V,C,zl⟩;have J:Hid _:=S;clear k0 k1 k2 hA C V y l B t S z;go_wp2_with fail;clear T;refine(hC b' i f s.heap.size w1.heap.size w3 x.oQ J.oQ om om HI.oQ U).mono ?_;rintro e w4 ⟨d,c,rfl,hR,M,F⟩;have N4:=F.under U (nlq _) (λq hq=>by have zk:w1.heap.size<=q:=hq;omega);have K:Hid _:=bF A.oQ F (λhq=>by have zk:w1.heap.size<=w.heap.size+1:=hq;omega);have H:Hid _:=M;have zb:Hid _:=hR;clear hC HI A U M F hR;go_wp2_with fail;refine pG 4 [some 21,some 22,some 23,some 24] (D5 s.heap.size d c) (λ_ _ _ _ h _=>h) ?step ?fin
  case step=>
   intro i o G w' zh zj D hd;match i,zh with
   |0,_|2,_=>
    cases zj;gi_wp2;exact⟨_,uhx,rfl,br _ _⟩
   |1,_=>
    cases zj;have d0:G 0=_:=Zq hd 0;have W:=bJ H.oQ.p D;have k0:w'.cell? (ya s 0)=some (I d.now):=aB W rfl;have k1:w'.cell? (ya s 1)=some (fs d):=aB W rfl;have k2:w'.cell? (ya s 2)=some (hs d):=aB W rfl;clear W;gi_wp2;exact⟨_,by simp[aH,d0],rfl,br _ _⟩
   |3,_=>
    cases zj;have d2:G 2=_:=Zq hd 2;simp only[aD,Act.put];rw[d2];gi_wp2_with fail;refine tqx ?_;refine(cw.2 (J9 c w' (hL.zL (aE N4 D)))).mono ?_;rintro e w5 ⟨rfl,zf⟩;gi_wp2;exact⟨_,by simp[aH,d2],rfl,zf⟩
   |j+4,h=>omega
  case fin=>
   intro G w5 D hp;have d1:G 1=_:=hp 1 dz;have d3:G 3=_:=hp 3 dz;have N5:=aE N4 D;have R5:=bJ K.oQ D;have za:Hid _:=H.oQ.a.zL D;obtain⟨r0,r1,r2⟩:=aM R5;have rf:=jS R5;clear hp R5 K D N4;simp only[lds,ldz,aD,Act.put];rw[d1,d3];clear d1 d3;generalize G 0=v0,G 2=v2;gi_wp2_with fail;go_wp2_with fail;have hS:aU (λk=>k=w.heap.size+1) w5 (((w5.setCell (Y (w.heap.size+1) 0) (I d.now)).setCell (Y (w.heap.size+1) 1) (fs d)).setCell (Y (w.heap.size+1) 2) (hs d)):=(((aU.refl (λk=>k=w.heap.size+1) w5).set (g:=w.heap.size+1) rfl _ _).set (g:=w.heap.size+1) rfl _ _).set (g:=w.heap.size+1) rfl _ _;have zc:=(za.oQ.but hS (λk hk=>by rw[hk];omega)).weak (z':=w.heap.size) om;have ze:=hS.under N5 (nlq _) (λk hk=>by rw[hk];omega);exact bpr (v:=.tuple #[d.val,I c]) (by simp[results,results121,go_sem,r0,r1,r2]) rfl ⟨.inr ⟨x.oQ,b',i,f,d,c,J.oQ,zb.oQ,rfl,zc⟩,ze⟩
abbrev I5:=@tZ 164 (enters_of func164 kr rfl)
abbrev LW:=@tZ 167 (enters_of Tryz.func167 kr rfl)
abbrev DY:=@tZ 125 (enters_of Tryz.func125 kr rfl)
def XN (took:Bool)(b':Bk)(i:Nat)(f:Bool)(b'':Bk)(c:Int):Prop:=c=nU b' i f/\b''=qS b' i f took
theorem EG (took:Bool)(T:Nat)(b:Bk)(nm:Ba)(w:Wd)(l:w.cell? (Y T 0)=some (.bool took))(g:∀h∈b.hl,h.Fit):
 wK 164 #[E T 0] b nm (XN took) w:=by
 intro b' i f P z W _ a hz hzW j k;have c0:W.cell? (Y T 0)=some (.bool took):=ctq k l;show aW 164 #[E P 0,E T 0] W _;go_enter func164,ntmps164;go_wp2_with fail;refine(ZB z P b' nm i f took W j (λe=>by obtain⟨h,_⟩:=a.hd.1 e;rw[a.lk.len];exact h) (a.lk.fit g)).mono ?_;rintro e w1 ⟨rfl,c,d⟩;go_wp2;go_ret;exact⟨_,_,rfl,⟨rfl,rfl⟩,c,d⟩
theorem I2 (b:Bk)(nm:Ba)(took:Bool)(w:Wd)(S:l8 w)(T:Xs 3 Fx.cells w b.fa b.fl)(C:ln b.fl<=1048576)(z:ln b.fl<=b.fc)(s:b.fc<=9223372036854775807)(G:∀f∈b.fl,f.n.size<=9223372036854775807)(U:Xs 3 Hx.cells w b.ha b.hl)(D:ln b.hl<=1048576)(A:∀h∈b.hl,h.In w/\h.Fit):
 aW 127 #[b.val,.string nm,.bool took] w λe w'=>zT b nm (XN took) w.heap.size e w'/\aG w w':=by
 have a:aG w (((w.alloc b.obj).alloc (.cells #[.bool took] 4)).alloc (zo)):=aC (aC (aC (br _ _) _) _) _;have t:=(halq ((w.alloc b.obj).alloc (.cells #[.bool took] 4)) (zo) (w.alloc b.obj).heap.size sm).trans (wnq (w.alloc b.obj) (.cells #[.bool took] 4));have o:=wnq ((w.alloc b.obj).alloc (.cells #[.bool took] 4)) (zo);simp only[wsa]at t o;go_enter func127,ntmps127;go_wp2_with fail;obtain⟨W0,r⟩:=cI (((w.alloc b.obj).alloc (.cells #[.bool took] 4)).alloc (zo));rw[r]at a t o ⊢;have hz1:w.heap.size+1+1<W0.heap.size:=(cE o);have N:W0.cell? (Y (w.heap.size+1) 0)=some (.bool took):=aB t rfl;clear r;refine(I5 (E (w.heap.size+1) 0) b nm (XN took) W0 (EG took (w.heap.size+1) b nm W0 N (λh m=>(A h m).2)) (S.zL a) (T.zL a) C z s G (U.zL a) D (λh m=>⟨(A h m).1.zL a,(A h m).2⟩)).mono ?_;rintro e w1 ⟨R,l⟩;have P:=aE a l;have y:=bJ o l;obtain⟨K,L,M⟩:=aM y;have rf:=jS y;clear t o y l a N;have J:∀u v x:Va,aU (λk=>k=w.heap.size+1+1) w1 (((w1.setCell (Y (w.heap.size+1+1) 0) u).setCell (Y (w.heap.size+1+1) 1) v).setCell (Y (w.heap.size+1+1) 2) x):=λu v x=>(((aU.refl (λk=>k=w.heap.size+1+1) w1).set (g:=w.heap.size+1+1) rfl _ _).set (g:=w.heap.size+1+1) rfl _ _).set (g:=w.heap.size+1+1) rfl _ _;have q:=λu v x=>(J u v x).under P (nlq _) (λk B=>by rw[B];omega);rcases R with⟨d,rfl⟩|⟨d,b',i,f,p,c,F,H,rfl,Q⟩
 ·have j:Hid _:=d;clear d;go_wp2_with fail;exact bpr (v:=.tuple #[Bk.val ⟨0,none,[],0,none,[],0⟩,I 1]) (by simp[results,results127,go_sem,K,L,M]) rfl ⟨.inl ⟨j.oQ,rfl⟩,q _ _ _⟩
 ·have j:Hid _:=d;have O:Hid _:=H;clear d H;go_wp2_with fail;exact bpr (v:=.tuple #[p.val,I c]) (by simp[results,results127,go_sem,K,L,M]) rfl ⟨.inr ⟨j.oQ,b',i,f,p,c,F,O.oQ,rfl,(Q.but (J _ _ _) (λk B=>by rw[B];omega)).weak om⟩,q _ _ _⟩
variable {l:List Hx}{k n:Nat}{P:Program}{F:Fence}{f:List Oper}{o:Oper}{a:Act}{Q:Exit → Act → Wd → Prop}{h:Array Oper}
def kK (l:List Hx)(nm:ByteArray):Int:=match l.findIdx? (λh=>h.n.toList==nm.toList)with|some i=>(i:Int)|none=>-1
theorem LT (h:k<ln l)(c:(l[k].n.toList==nm.toList)=true)(a:∀j (h:j<ln l),j<k->(l[j].n.toList==nm.toList)=false):kK l nm=k:=by
 have:l.findIdx? (λh=>h.n.toList==nm.toList)=some k:=by
  rw[List.findIdx?_eq_some_iff_getElem];exact⟨h,c,λj b=>by simpa using a j om b⟩
 unfold kK;rw[this]
theorem KM (h:∀j (h:j<ln l),(l[j].n.toList==nm.toList)=false):kK l nm=-1:=by
 have:l.findIdx? (λh=>h.n.toList==nm.toList)=none:=by
  rw[List.findIdx?_eq_none_iff];intro x hx;obtain⟨j,a,rfl⟩:=lgo hx;exact h j a
 unfold kK;rw[this]
theorem BT (b:Bk)(nm:Ba)(w:Wd)(u:Xs 3 Hx.cells w b.ha b.hl)(hn:ln b.hl<=1048576):
 aW 62 #[b.val,.string nm] w λe w'=>e=rt (I (kK b.hl nm))/\aG w w':=by
 have c:aG w (w.alloc b.obj):=aC (br _ _) _;have p:=wnq w b.obj;have s:(w.alloc b.obj).cell? (Y w.heap.size 2)=some (.slice b.ha (ln b.hl) b.hc):=aB p rfl;obtain⟨W0,m⟩:=cI (w.alloc b.obj);rw[m]at c s;have t:=u.zL c;clear p
 go_enter func62,ntmps62
 go_wp2
 go_loop [5] (λi=>∃k:Nat,k<=ln b.hl/\i=I k/\Hid (∀j (h:j<ln b.hl),j<k->(b.hl[j].n.toList==nm.toList)=false)) (λi=>ln b.hl-(intOf i).toNat)
 case atStart=>exact⟨0,nz _,rfl,λj _ h=>absurd h om⟩
 case round=>
  obtain⟨k,hk,rfl,a⟩:=hrel
  by_cases d:k<ln b.hl
  ·rcases t with h|⟨bl,off,l,o⟩
   ·rw[h]at d;simp at d
   obtain⟨c0,q,r⟩:=gN (o k d);rw[l]at s
   cases hq:(b.hl[k].n.toList==nm.toList)with
   |true=>
    have f:=aI (LT d hq a.out);clear o a l q r;go_wp2
    go_ret;exact⟨by rw[f.oQ];rfl,c⟩
   |false=>
    have g:Hid (∀j (h:j<ln b.hl),j<k+1->(b.hl[j].n.toList==nm.toList)=false):=λj h hj=>by
     by_cases e:j=k
     ·subst e;exact hq
     ·exact a.out j h om
    clear o a l q r;go_wp2
    go_round
    case rel=>exact⟨k+1,om,gn,g⟩
    case measure=>simp[intOf];omega
  ·have f:Hid (kK b.hl nm=-1):=KM (λj h=>a.out j h om)
   clear a;go_wp2
   go_ret;exact⟨by rw[f.oQ];rfl,c⟩
theorem DB {base p e size:Nat}(b:w.heap[p]?=some (.cells #[] e))(a:base<=p):w.ownsRow base e size (.slice (some (Y p 0)) 0 0) 0 []:=by
 refine⟨sm,.inr ⟨p,0,#[],rfl,a,b,nlq _,nz _,sm,sm⟩⟩
theorem yT (w:Wd)(T t:TypeId)
 (e:TypeId)(i:TypeInfo)(z:Va)(size b:Nat)(s:P.underlying t=some (.slice e))(v:P.info? e=some i)(G:i.zero=some z)(x:i.size=size)(H:i.bytes=b)(J:z.cells.size=size)(K:0<size)
 (p:Nat)(B:w.heap[p]?=some (.cells #[] e))(n:Oa)(m c:Nat)(a:List Va)(y:n=none->m=0)(A:ln a=m*size)
 (L:∀d,n=some d->∀j u,a[j]?=some u->w.cell? (d.add j)=some u)(h1c:∀u∈a,u.oneCell'=true)(b1:m<=maxLen)(F:m*b<=140737488355328)(base:Nat)(D:base<=p):
 ∃o w',(Builtin.append_ #[t,t] T #[.slice (some (Y p 0)) 0 0,.slice n m c]).run P w=.ok o w'/\w'.ownsRow base e size o m a/\aG w w':=by
 have hlt:p<w.heap.size:=(cE B)
 cases n with
 |none=>
  obtain rfl:=y rfl;obtain rfl:a=[]:=enl (by simpa using A);refine⟨(sl p 0 0 0),w,?_,DB B D,br _ _⟩;subst x
  simp[Builtin.append_,run_underlying s,sizeOf,typeInfo,v,Builtin.lenOf,Builtin.firstCells,storeCells]
 |some d=>
  rcases Nat.eq_zero_or_pos m with rfl|hm
  ·obtain rfl:a=[]:=enl (by simpa using A)
   subst x;refine⟨_,_,run_append_room_cells (P:=P) w t T e i s v p 0 0 0 d 0 c [] sm (λj u h=>by simp at h) (λu h=>by simp at h) (nlq _) (λj h=>by simp at h) (λj h=>by simp at h),?_,?_⟩
   ·simpa[World.setCells]using DB (size:=i.size) B D
   ·simpa[World.setCells]using br w.heap.size w
  ·obtain⟨o,w',f,O,l⟩:=run_append_arg_grows (P:=P) w t T e i z size b s v G x H J K (Y p 0) 0 0 [] sm (λj u h=>by simp at h) d m c a A (L d rfl) om om (by simpa using F)
   refine⟨o,w',f,?_,⟨l.os,l.tape,l.output,l.size,λk M=>l.block k M sm⟩⟩;have:=O;simp only[nza,lna]at this;obtain⟨q1,C|⟨g,q,r,C,q3,N⟩⟩:=this
   ·exact⟨q1,.inl C⟩
   ·exact⟨q1,.inr ⟨g,q,r,C,om,N⟩⟩
theorem lN (w:Wd){k:Array Oper}
 (T:o.guard=none)(s x:Operand)(t:TypeId)(g:o.op=Op.call { callee:=Callee.builtin Builtin.append,args:=#[s,x],argTypes:=#[t,t]})
 (e:TypeId)(i:TypeInfo)(z:Va)(size d:Nat)(D:P.underlying t=some (.slice e))(G:P.info? e=some i)(H:i.zero=some z)(J:i.size=size)(L:i.bytes=d)(M:z.cells.size=size)(N:0<size)
 (p:Nat)(W:a.eval s=.slice (some (Y p 0)) 0 0)(V:w.heap[p]?=some (.cells #[] e))(l:Oa)(m c:Nat)(b:List Va)(hx:a.eval x=.slice l m c)(y:l=none->m=0)(U:ln b=m*size)
 (S:∀B,l=some B->∀j u,b[j]?=some u->w.cell? (B.add j)=some u)(r:∀u∈b,u.oneCell'=true)(b1:m<=maxLen)(C:m*d<=140737488355328)(base:Nat)(R:base<=p)
 (O:∀q w',w'.ownsRow base e size q m b->aG w w'->wpListIn F n P k Q f (a.put o.dst q) w'):
 wpListIn F n P k Q (o::f) a w:=by
 refine wpListIn_plain T λK v=>?_;obtain⟨q,w',h,X,Z⟩:=yT w o.type t e i z size d D G H J L M N p V l m c b y U S r b1 C base R;unfold Oper.wpIn;refine⟨?_,?_⟩
 ·simp[Oper.about,g,resolve,Target.leads,Sem.run_pure]
 ·rw[Oper.semAt_plain F _ _ (by rw[g];intro c A;cases A)]
  simp[execOp,g,resolve,invoke,builtin,W,hx,h,Result.andThen]
  exact v _ _ (O q w' X Z)
theorem AH (w:Wd)
 (O:o.guard=none)(s x:Operand)(t:TypeId)(v:o.op=Op.call { callee:=Callee.builtin Builtin.append,args:=#[s,x],argTypes:=#[t,t]})
 (e:TypeId)(i:TypeInfo)(z:Va)(size d:Nat)(B:P.underlying t=some (.slice e))(C:P.info? e=some i)(D:i.zero=some z)(F:i.size=size)(G:i.bytes=d)(H:z.cells.size=size)(J:0<size)
 (p:Nat)(T:a.eval s=.slice (some (Y p 0)) 0 0)(S:w.heap[p]?=some (.cells #[] e))(k:Oa)(m c:Nat)(b:List Va)(hx:a.eval x=.slice k m c)(r:k=none->m=0)(R:ln b=m*size)
 (N:∀y,k=some y->∀j u,b[j]?=some u->w.cell? (y.add j)=some u)(n:∀u∈b,u.oneCell'=true)(b1:m<=maxLen)(A:m*d<=140737488355328)(base:Nat)(M:base<=p)
 (L:∀l w',w'.ownsRow base e size l m b->Below w.heap.size w w'->wpList P h Q f (a.put o.dst l) w'):
 wpList P h Q (o::f) a w:=by
 refine wpList_plain O λK q=>?_;obtain⟨l,w',g,U,V⟩:=yT w o.type t e i z size d B C D F G H J p S k m c b r R N n b1 A base M;unfold Oper.wp
 simp[execOp,v,resolve,invoke,builtin,T,hx,g,Result.andThen]
 exact q _ _ (L l w' U V)
theorem uN (l:List Bx)(f:Oa)(g:Nat)(w:Wd)(t:jG w f l)(hn:ln l<=1048576):
 aW 49 #[.slice f (ln l) g] w λe w'=>(∃v,e=rt v/\w'.ownsRow w.heap.size 91 6 v (ln l) (fG l))/\aG w w':=by
 obtain⟨C,B,o,p,q⟩:=info_parts Tryz.info91;have d:aG w (w.alloc (.cells #[] 91)):=aC (br _ _) _;have s:=wnq w (.cells #[] 91);have k:=t.zL d
 have n:f=none->ln l=0:=λe=>by
  rcases t with h|⟨y,r,i,_⟩
  ·rw[h];rfl
  ·rw[e]at i;cases i
 have b:∀m,f=some m->∀j u,(fG l)[j]?=some u->(w.alloc (.cells #[] 91)).cell? (m.add j)=some u:=λm e=>by
  rcases k with h|⟨y,r,i,A⟩
  ·rw[h];intro j u h;simp[fG]at h
  ·rw[e]at i;cases i;exact CM A
 go_enter func49,ntmps49
 go_wp2_with (at_builtin;refine AH _ rfl (.tmp 3) (.tmp 4) 41 rfl 91 C _ 6 48 underlying41 B o p q rfl dz w.heap.size rfl s f (ln l) g (fG l) rfl n (mR l) b (CX l) ?qc3 ?qc4 w.heap.size (nlq _) ?_)
 case qc3=>unfold maxLen;omega
 case qc4=>omega
 intro v' w1 c a;have z:aG w w1:=d.trans (a.mono (Nat.le_succ _));have x:=aI (c);clear c a d s k b;go_wp2
 go_ret;exact⟨⟨_,rfl,x.oQ⟩,z⟩
theorem sH (l:List Bx)(c:Oa)(a:Nat)(w:Wd)(d:jG w c l)(f:ln l<=1048576):
 aW 49 #[.slice c (ln l) a] w λe w'=>(∃v,e=rt v/\aN w' w.heap.size v l)/\aG w w':=
 (uN l c a w d f).mono λ_ _ ⟨⟨v,e,h⟩,b⟩=>⟨⟨v,e,aN.of_owns h⟩,b⟩
variable {t sz y g t' M c:Nat}{w' G:Wd}{v n f p i F:Va}{j d:Array Va}{a W:Oa}{S:Nat → Prop}{u:Hx}{m o T U:List Hx}{l:List Bx}{s:List Fx}
theorem bW.setObj {α:Type}{c:α->List Va}{l:List α}(h:bW t sz c w y v l)(r:w.heap[g]?=some (.cells j t'))(s:t'≠t)(o:Nat)(u:Va):bW t sz c (w.setCell (Y g o) u) y v l:=by
 rcases h with h|⟨i,d,n,p,q,m,b,x⟩;·exact .inl h
 ·refine .inr ⟨i,d,n,p,q,m,b.setOther (a:=(Y g o)) (λe=>s ?_) u,x⟩;have k:i=g:=e;subst k;obtain⟨c1,f,_⟩:=b;rw[r]at f;cases f;rfl
structure dS (z:Nat)(w:World)(b:Bk):Prop where
 f:bW 34 3 Fx.cells w z (.slice b.fa b.fl.length b.fc) b.fl
 h:bW 74 3 Hx.cells w z (.slice b.ha b.hl.length b.hc) b.hl
 t:∀x∈b.hl,fF z w x
 c:nQ (.slice b.fa b.fl.length b.fc)
theorem dS.zL {w w':Wd}(h:dS sz w b)(a:aG w w'):dS sz w' b:=⟨h.f.zL a,h.h.zL a,λx hx=>(h.t x hx).zL a,h.c⟩
theorem bW.xs {α:Type}{t sz:Nat}{c:α->List Va}(i:∀a,ln (c a)=sz){l:List α}(h:bW t sz c w y (.slice a t' k) l):Xs sz c w a l:=by
 rcases h with⟨_,e⟩|⟨g,cap,e,_,d,f⟩;·exact .inl e
 ·cases e;exact f.xs i (nlq _) d
theorem dS.inn (h:dS sz w b):∀x∈b.hl,x.In w:=λx hx=>⟨(h.t x hx).t.xs,(h.t x hx).n.xs⟩
theorem dS.weak {z z':Nat}(h:dS z w b)(a:z'<=z):dS z' w b:=⟨h.f.weak a,h.h.weak a,λx hx=>(h.t x hx).weak a,h.c⟩
theorem bW.but {α:Type}{c:α->List Va}{l:List α}(h:bW t sz c w y v l)(j:aU S w w')(m:∀k,S k->k<y):bW t sz c w' y v l:=by
 rcases h with h|⟨g,a,b,d,f,i⟩;·exact .inl h
 ·exact .inr ⟨g,a,b,d,f,i.but j (λe=>by have:=m g e;omega)⟩
theorem dS.but (h:dS sz w b)(a:aU S w w')(d:∀k,S k->k<sz):dS sz w' b:=
 ⟨h.f.but a d,h.h.but a d,λx hx=>(h.t x hx).but a (λq g e=>by have:=((h.t x hx).bs_in q g).1;have:=d q e;omega),h.c⟩
def L1 (B:Nat)(b:Bk)(Z:Nat)(j:Nat)(v:Value)(w:World):Prop:=
 match j with
 |0=>v=(E B 0)
 |1=>v=I b.now
 |2=>∃p,v=.slice (some (Y p 0)) 0 0/\Z<=p/\w.heap[p]?=some (.cells #[] 34)
 |3=>v=(E B 1)
 |4=>v=.slice b.fa b.fl.length b.fc
 |5=>bW 34 3 Fx.cells w Z v b.fl/\nQ v
 |6=>∃a c,v=.agg #[I b.now,.slice a b.fl.length c,ms]/\bW 34 3 Fx.cells w Z (.slice a b.fl.length c) b.fl/\nQ (.slice a b.fl.length c)
 |7=>∃q,v=(E q 0)/\Z<=q/\w.heap[q]?=some (zo)
 |_=>True
theorem L1.zL (j:Nat)(v:Va)(w w':Wd)(h:L1 t b sz j v w)(d:aG w w'):L1 t b sz j v w':=by
 unfold L1 at h ⊢;split
 all_goals first
  |exact h
  |exact⟨bW.zL h.1 d,h.2⟩
  |(obtain⟨p,e,g,f⟩:=h;exact⟨p,e,g,bJ f d⟩)
  |(obtain⟨a,c,e,f,k⟩:=h;exact⟨a,c,e,bW.zL f d,k⟩)
  |trivial
def L5 (B q:Nat)(vH sl:Value)(k:Nat)(p:Addr)(x:Hx)(Z:Nat)(j:Nat)(v:Value)(w:World):Prop:=
 match j with
 |0=>v=(E q 2)
 |1=>v=vH
 |2=>v=(E B 2)
 |3=>v=sl
 |4=>v=I (k:Int)
 |5=>v=.pointer (some p)
 |6=>v=.pointer (some p)
 |7=>v=.string x.n
 |8=>v=(E B 2)
 |9=>v=sl
 |10=>v=I (k:Int)
 |11=>v=.pointer (some p)
 |12=>v=(E p.block (p.off+1))
 |13=>v=.slice x.ta x.tl.length x.tc
 |14=>aN w Z v x.tl
 |15=>v=(E B 2)
 |16=>v=sl
 |17=>v=I (k:Int)
 |18=>v=.pointer (some p)
 |19=>v=(E p.block (p.off+2))
 |20=>v=.slice x.na x.nl.length x.nc
 |21=>aN w Z v x.nl
 |22=>∃x',v=Hx.val x'/\x.Like x'/\fF Z w x'
 |23=>∃s x',v=.slice (some (Y s 0)) 1 1/\w.heap[s]?=some (.cells #[.string x'.n,.slice x'.ta x'.tl.length x'.tc,.slice x'.na x'.nl.length x'.nc] 74)/\x.Like x'/\fF Z w x'
 |_=>True
theorem L5.zL {p:Addr}(j:Nat)(v:Va)(w w':Wd)(h:L5 t sz n f k p x y j v w)(a:aG w w'):L5 t sz n f k p x y j v w':=by
 unfold L5 at h ⊢;split
 all_goals first
  |exact h
  |exact aN.zL h a
  |(obtain⟨d,e,b,c⟩:=h;exact⟨d,e,b,fF.zL c a⟩)
  |(obtain⟨s,d,e,i,b,c⟩:=h;exact⟨s,d,e,bJ i a,b,fF.zL c a⟩)
  |trivial
structure CpM (w:World)(b:Bk)(Z q:Nat)(a2:Option Addr)(c2:Nat)(d0 dn:List Hx)(vH:Value)(wr:World):Prop where
 n:aG w wr
 z:Z<=wr.heap.size
 a:wr.heap[w.heap.size]?=some b.obj
 r:wr.heap[w.heap.size+1]?=some (.cells #[.int .i64 0,.slice none 0 0,.slice none 0 0] 32)
 q:wr.heap[q]?=some (.cells #[.int .i64 b.now,.slice a2 b.fl.length c2,vH] 32)
 f:bW 34 3 Fx.cells wr Z (.slice a2 b.fl.length c2) b.fl
 h:wr.ownsRow Z 74 3 vH d0.length (aJ Hx.cells dn)
 k:aT d0 dn
 t:∀x∈dn,fF Z wr x
theorem CpM.zL {wr w':Wd}(h:CpM w b sz y W t' m o p wr)(c:aG wr w'):CpM w b sz y W t' m o p w':=by
 refine⟨aE h.n c,nlt h.z c.size,bJ h.a c,bJ h.r c,bJ h.q c,h.f.zL c,?_,h.k,λx hx=>(h.t x hx).zL c⟩;obtain⟨q1,i|⟨g,d,e,i,s,u,v⟩⟩:=h.h;·exact⟨q1,.inl i⟩
 ·exact⟨q1,.inr ⟨g,d,e,i,s,bJ u c,v⟩⟩
theorem ZD (j:w.grownBy w' v.ownBlock)(c:∀g,v.ownBlock=some g->∃a,w.heap[g]?=some (.cells a 74))(b:w.heap[k]?=some (.cells d t))(l:t≠74):w'.heap[k]?=some (.cells d t):=by
 refine(j.block k (cE b) (λe=>l ?_)).trans b;obtain⟨a,f⟩:=c k e.symm;rw[b]at f;cases f;rfl
theorem aN.gkeep (h:aN w t v l)(o:w.grownBy w' i.ownBlock)(d:∀g,i.ownBlock=some g->∃b,w.heap[g]?=some (.cells b 74)):aN w' t v l:=by
 rcases h with h|⟨g,a,k,m,n,f,p,q⟩;·exact .inl h
 ·refine .inr ⟨g,a,k,m,n,f,?_,q⟩;obtain⟨c,e,r⟩:=p;exact⟨c,Go.Proofs.YtoolgmmljacfmaaGreatDoor.ZD o d e dz,r⟩
theorem bW.gkeep (h:bW 34 3 Fx.cells w t v s)(o:w.grownBy w' i.ownBlock)(d:∀g,i.ownBlock=some g->∃b,w.heap[g]?=some (.cells b 74)):bW 34 3 Fx.cells w' t v s:=by
 rcases h with h|⟨g,a,k,m,n,f,p,q⟩;·exact .inl h
 ·refine .inr ⟨g,a,k,m,n,f,?_,q⟩;obtain⟨c,e,r⟩:=p;exact⟨c,Go.Proofs.YtoolgmmljacfmaaGreatDoor.ZD o d e dz,r⟩
theorem aN.setBook (h:aN w t v l)(r:w.heap[sz]?=some (.cells j 32))(o:Nat)(u:Va):aN (w.setCell (Y sz o) u) t v l:=by
 rcases h with h|⟨g,b,m,n,p,f,i,s⟩;·exact .inl h
 ·refine .inr ⟨g,b,m,n,p,f,i.setOther (a:=(Y sz o)) (λe=>?_) u,s⟩;have k:g=sz:=e;subst k;obtain⟨c,d,_⟩:=i;rw[r]at d;cases d
theorem CpM.grow (h:CpM w b sz t' W M T U F w') (hzw:w.heap.size+1<sz) (hqZ:sz<=t')
 (B:G.ownsRow sz 74 3 (.slice (some (Y g 0)) (ln T+1) c) (ln T+1) (aJ Hx.cells U++u.cells)) (p:w'.grownBy G F.ownBlock) (P:x.Like u) (Q:fF sz w' u):
 CpM w b sz t' W M (T++[x]) (U++[u]) (.slice (some (Y g 0)) (ln T+1) c) (G.setCell (Y t' 2) (.slice (some (Y g 0)) (ln T+1) c)):=by
 have j:∀k,F.ownBlock=some k->∃d,w'.heap[k]?=some (.cells d 74):=λk l=>by
  obtain⟨_,⟨rfl,_⟩|⟨g,c,d,rfl,_,e,_⟩⟩:=h.h;·simp[Value.ownBlock]at l
  ·simp[Value.ownBlock]at l;subst l;exact⟨d,e⟩
 have A:∀k,F.ownBlock=some k->sz<=k:=λk l=>eH h.h l;have i:=ZD p j h.q dz;have m:∀k o,k<sz->w'.heap[k]?=some o->G.heap[k]?=some o:=λk o l e=>(p.block k (cE e) (λN=>by have:=A k N.symm;omega)).trans e;refine⟨?_,?_,?_,?_,?_,?_,?_,h.k.snoc P,?_⟩;·refine Below.setCell (h.n.grown p (nlt (by have:=h.n.size;omega) (nlq _)) (λk l=>by have:=A k l;omega)) (by show w.heap.size<=t';omega) _
 ·have:=h.z;have:=p.size;simp;omega
 ·exact bM (m _ _ om h.a) (by show w.heap.size≠t';omega) _
 ·exact bM (m _ _ om h.r) (by show w.heap.size+1≠t';omega) _
 ·exact aP i 2 _
 ·exact(h.f.gkeep p j).setObj i dz 2 _
 ·obtain⟨q1,⟨J,_⟩|⟨g',cp,d,J,R,K,S⟩⟩:=B;·cases J
  ·cases J
   have H:g≠t':=λe=>by
    subst e;rw[i]at K;cases K
   have O:aJ Hx.cells (U++[u])=aJ Hx.cells U++u.cells:=by rw[eL,lL]
   rw[O];refine⟨by simpa using q1,.inr ⟨g,c,d,sm,R,bM K (by show g≠t';exact H) _,by simpa using S⟩⟩
 ·intro y D;simp only[lma,lms]at D
  have C:fF sz w' y:=by
   rcases D with D|rfl;·exact h.t y D
   ·exact Q
  exact⟨(C.t.gkeep p j).setBook i _ _,(C.n.gkeep p j).setBook i _ _⟩
theorem jR (b:Bk)(w:Wd)(hf:Xs 3 Fx.cells w b.fa b.fl)(hnf:ln b.fl<=1048576)(hh:Xs 3 Hx.cells w b.ha b.hl)(hnh:ln b.hl<=1048576)(hg:∀h∈b.hl,h.In w/\h.Fit):
 aW 31 #[b.val] w λe w'=>(∃b':Bk,e=rt b'.val/\b'.now=b.now/\b'.fl=b.fl/\aT b.hl b'.hl/\dS w.heap.size w' b')/\aG w w':=by
 obtain⟨i0,ys,yx,yy,yz⟩:=info_parts Tryz.info34;obtain⟨j0,yt,yu,yv,yw⟩:=info_parts Tryz.info74;have zf:aG w ((w.alloc b.obj).alloc (zo)):=aC (aC (br _ _) _) _;have A0:=(halq (w.alloc b.obj) (zo) w.heap.size sm).trans (wnq w b.obj);have R0:=wnq (w.alloc b.obj) (zo);rw[wsa]at R0
 go_enter func31,ntmps31
 go_wp2_with fail
 obtain⟨W0,zw⟩:=cI ((w.alloc b.obj).alloc (zo));rw[zw]at zf A0 R0 ⊢;have HA:Hid _:=A0;have HR:Hid _:=R0;have yf:w.heap.size+1<W0.heap.size:=(cE R0);clear zw A0 R0;refine pG 8 [some 5,some 6,some 7,some 8,some 9,some 10,some 11,some 3] (L1 w.heap.size b W0.heap.size) L1.zL ?step ?fin
 case step=>
  intro i o d w' zk A B y;have T:=aE zf B
  match i,zk with
  |0,_|3,_=>
   cases A
   gi_wp2;exact⟨_,uhx,rfl,br _ _⟩
  |1,_=>
   cases A
   have m:d 0=_:=Zq y 0;have k0:w'.cell? (Y w.heap.size 0)=some (I b.now):=aB (bJ HA.oQ B) rfl;gi_wp2;exact⟨_,by simp[aH,m],rfl,br _ _⟩
  |2,_|7,_=>
   cases A
   gi_wp2;exact⟨_,uhx,⟨_,rfl,B.size,wnq _ _⟩,aC (br _ _) _⟩
  |4,_=>
   cases A
   have d3:d 3=_:=Zq y 3;have k1:w'.cell? (Y w.heap.size 1)=some (.slice b.fa (ln b.fl) b.fc):=aB (bJ HA.oQ B) rfl;gi_wp2;exact⟨_,by simp[aH,d3],rfl,br _ _⟩
  |5,_=>
   cases A
   obtain⟨p,d2,W,yc⟩:∃p,d 2=.slice (some (Y p 0)) 0 0/\W0.heap.size<=p/\w'.heap[p]?=some (.cells #[] 34):=Zq y 2;have d4:d 4=_:=Zq y 4;have hX:=hf.zL T
   have zy:b.fa=none->ln b.fl=0:=λe=>by
    rcases hX with h|⟨M,l,e',_⟩
    ·rw[h];rfl
    ·rw[e]at e';cases e'
   have C:∀ad,b.fa=some ad->∀j u,(aJ Fx.cells b.fl)[j]?=some u->w'.cell? (ad.add j)=some u:=λad e=>by
    rcases hX with h|⟨M,l,e',hc⟩
    ·rw[h];intro j u h;simp[aJ]at h
    ·rw[e]at e';cases e';exact nA Fx.cells_length dz hc
   simp only[aD,Act.put,sit,lcs,lcz];rw[d2,d4];refine lN w' rfl (.tmp 7) (.tmp 9) 28 rfl 34 i0 _ 3 32 underlying28 ys yx yy yz rfl dz p rfl yc b.fa (ln b.fl) b.fc (aJ Fx.cells b.fl) rfl zy (cP Fx.cells_length b.fl) C (iP oK b.fl) (by unfold maxLen;omega) om W0.heap.size W (λv' w1 D hb=>?_);have HO:Hid (bW 34 3 Fx.cells w1 W0.heap.size v' b.fl/\nQ v'):=⟨iV Fx.cells_length D,jY D⟩;clear D hX zy C y yc;gi_wp2;exact⟨v',by simp[aH,d2,d4,Act.put],HO.oQ,hb⟩
  |6,_=>
   cases A
   have d1:d 1=_:=Zq y 1;have h5:bW 34 3 Fx.cells w' W0.heap.size (d 5) b.fl/\nQ (d 5):=Zq y 5;obtain⟨a5,c5,d5⟩:=h5.1.slice;rw[d5]at h5;have HO:Hid _:=h5;clear h5;gi_wp2;exact⟨_,by simp[aH,d1,d5],⟨a5,c5,rfl,HO.oQ⟩,br _ _⟩
  |j+8,h=>omega
 case fin=>
  intro d w' B W;obtain⟨L,N,d6,h2,zz⟩:∃a c,d 6=.agg #[I b.now,.slice a (ln b.fl) c,ms]/\bW 34 3 Fx.cells w' W0.heap.size (.slice a (ln b.fl) c) b.fl/\nQ (.slice a (ln b.fl) c):=W 6 dz;have yg:=aI zz;clear zz;obtain⟨q,d7,hq,F⟩:∃q,d 7=(E q 0)/\W0.heap.size<=q/\w'.heap[q]?=some (zo):=W 7 dz;clear W;simp only[lds,ldz,aD,Act.put];rw[d6,d7];clear d6 d7;generalize d 0=v0,d 1=v1,d 2=v2,d 3=v3,d 4=v4,d 5=v5;have c0:w'.cell? (Y q 0)=some (I 0):=aB F rfl;have c1:w'.cell? (Y q 1)=some (ms):=aB F rfl;have yi:w'.cell? (Y q 2)=some (ms):=aB F rfl;have cf:=jS F;have Q2:=aP (aP (aP F 0 (I b.now)) 1 (.slice L (ln b.fl) N)) 2 (ms);have Z:∀(X:Wd) (o:Nat) (u:Va),(∃cs,X.heap[q]?=some (.cells cs 32))->bW 34 3 Fx.cells X W0.heap.size (.slice L (ln b.fl) N) b.fl->bW 34 3 Fx.cells (X.setCell (Y q o) u) W0.heap.size (.slice L (ln b.fl) N) b.fl:=λX o u ⟨cs,yr⟩ h=>h.setObj yr dz o u;have ze:=Z _ 2 (ms) ⟨_,aP (aP F 0 (I b.now)) 1 (.slice L (ln b.fl) N)⟩ (Z _ 1 (.slice L (ln b.fl) N) ⟨_,aP F 0 (I b.now)⟩ (Z _ 0 (I b.now) ⟨_,F⟩ h2));have zg:=(((aE zf B).setCell (p:=(Y q 0)) (by show w.heap.size<=q;omega) (I b.now)).setCell (p:=(Y q 1)) (by show w.heap.size<=q;omega) (.slice L (ln b.fl) N)).setCell (p:=(Y q 2)) (by show w.heap.size<=q;omega) (ms);have A2:=bM (bM (bM (bJ HA.oQ B) (p:=(Y q 0)) (by show w.heap.size≠q;omega) (I b.now)) (p:=(Y q 1)) (by show w.heap.size≠q;omega) (.slice L (ln b.fl) N)) (p:=(Y q 2)) (by show w.heap.size≠q;omega) (ms);have R2:=bM (bM (bM (bJ HR.oQ B) (p:=(Y q 0)) (by show w.heap.size+1≠q;omega) (I b.now)) (p:=(Y q 1)) (by show w.heap.size+1≠q;omega) (.slice L (ln b.fl) N)) (p:=(Y q 2)) (by show w.heap.size+1≠q;omega) (ms);have yp:=B.size;obtain⟨W1,zh⟩:=cI (((w'.setCell (Y q 0) (I b.now)).setCell (Y q 1) (.slice L (ln b.fl) N)).setCell (Y q 2) (ms));have xa:W0.heap.size<=W1.heap.size:=by rw[←zh];simp;exact yp
  rw[zh]at Q2 ze zg A2 R2;have zp:=aI Q2;have zn:Hid _:=A2;have zq:Hid _:=R2;have H2:Hid _:=ze;clear h2 F Q2 A2 R2 ze Z B HA HR;gi_wp2_with fail
  clear zh c0 c1 yi cf;go_wp2_with fail
  go_loopw [4] (λi wr=>∃(m rs Q:List Hx) (vH:Va),Hid (b.hl=m++rs)/\i=I (ln m:Int)/\CpM w b W0.heap.size q L N m Q vH wr) (λi _=>ln b.hl-(intOf i).toNat)
  case atStart=>exact⟨[],b.hl,[],ms,rfl,rfl,⟨zg,xa,zn.oQ,zq.oQ,zp.oQ,H2.oQ,won _ _ _ _,⟨rfl,λk h=>absurd h sm⟩,λx h=>by simp at h⟩⟩
  case round=>
   clear zn zq zp H2 zg;obtain⟨m,rs,Q,vH,hm,rfl,H⟩:=hrel;have V:ln b.hl=ln m+ln rs:=by rw[hm.out];simp
   have HS:Hid _:=H;have zb:=aI H.a
   cases rs with
   |cons x rs=>
    have zl:ln m<ln b.hl:=by rw[V];simp
    obtain⟨ye,yd⟩:=hg x (by rw[hm.out];simp)
    obtain⟨M,l,yn,hc⟩:∃M l,b.ha=some (Y M l)/\∀k (h:k<ln b.hl),bC w M (l+k*3) b.hl[k].cells:=by
     rcases hh with h|h
     ·rw[h]at zl;simp at zl
     ·exact h
    have hx:b.hl[ln m]=x:=by
     have:b.hl[ln m]?=some x:=by rw[hm.out,lgr (nlq _),nss];rfl
     exact(lgs.1 this).2
    have zj:=(hc (ln m) zl).zL H.n;rw[hx]at zj;obtain⟨e0,e1,e2⟩:=gN zj;have zc:Hid _:=yn;have k2:wr.cell? (Y w.heap.size 2)=some (.slice (some (Y M l)) (ln b.hl) b.hc):=by rw[←yn];exact aB H.a rfl
    clear hc hx zj V yn H;go_wp2_with fail
    clear k2;refine pG 24 [some 19,some 20,some 21,some 22,some 23,some 24,some 25,some 26,some 27,some 28,some 29,some 30,some 31,some 32,some 33,some 34,some 35,some 36,some 37,some 38,some 39,some 40,some 41,some 42] (L5 w.heap.size q vH (.slice (some (Y M l)) (ln b.hl) b.hc) (ln m) (Y M (l+ln m*3)) x wr.heap.size) L5.zL ?step ?fin
    case step=>
     intro i o d w' zk A B y;have T:=aE HS.oQ.n B
     match i,zk with
     |0,_|2,_|4,_=>
      cases A
      gi_wp2;exact⟨_,uhx,rfl,br _ _⟩
     |1,_=>
      cases A
      have m:d 0=_:=Zq y 0;have kq:w'.cell? (Y q 2)=some vH:=aB (bJ HS.oQ.q B) rfl;gi_wp2;exact⟨_,by simp[aH,m],rfl,br _ _⟩
     |3,_=>
      cases A
      have d2:d 2=_:=Zq y 2;have k2:w'.cell? (Y w.heap.size 2)=some (.slice (some (Y M l)) (ln b.hl) b.hc):=by rw[←zc.oQ];exact aB (bJ zb.oQ B) rfl
      gi_wp2;exact⟨_,by simp[aH,d2],rfl,br _ _⟩
     |5,_|6,_|11,_|12,_|18,_|19,_=>
      cases A
      simp[Region.binds,L5]at y
      simp only[aD,Act.put,y];gi_wp2;exact⟨_,by simp[aH,y],rfl,br _ _⟩
     |7,_=>
      cases A
      have d6:d 6=_:=Zq y 6;have kx:w'.cell? (Y M (l+ln m*3))=some (.string x.n):=ctq B e0;gi_wp2;exact⟨_,by simp[aH,d6],rfl,br _ _⟩
     |8,_|10,_|15,_|17,_=>
      cases A
      gi_wp2;exact⟨_,uhx,rfl,br _ _⟩
     |9,_=>
      cases A
      have d8:d 8=_:=Zq y 8;have k2:w'.cell? (Y w.heap.size 2)=some (.slice (some (Y M l)) (ln b.hl) b.hc):=by rw[←zc.oQ];exact aB (bJ zb.oQ B) rfl
      gi_wp2;exact⟨_,by simp[aH,d8],rfl,br _ _⟩
     |13,_=>
      cases A
      have yj:d 12=_:=Zq y 12;have kx:w'.cell? (Y M (l+ln m*3+1))=some (.slice x.ta (ln x.tl) x.tc):=ctq B e1;gi_wp2;exact⟨_,by simp[aH,yj],rfl,br _ _⟩
     |14,_=>
      cases A
      have zr:d 13=_:=Zq y 13;simp only[aD,Act.put];rw[zr];gi_wp2_with fail
      refine tqx ?_;refine(cw.2 (sH x.tl x.ta x.tc w' (ye.1.zL T) yd.tn)).mono ?_;rintro e w3 ⟨⟨v,rfl,P⟩,zi⟩;have HP:Hid _:=P;clear P;gi_wp2;exact⟨_,by simp[aH,zr],aN.weak HP.oQ B.size,zi⟩
     |16,_=>
      cases A
      have yk:d 15=_:=Zq y 15;have k2:w'.cell? (Y w.heap.size 2)=some (.slice (some (Y M l)) (ln b.hl) b.hc):=by rw[←zc.oQ];exact aB (bJ zb.oQ B) rfl
      gi_wp2;exact⟨_,by simp[aH,yk],rfl,br _ _⟩
     |20,_=>
      cases A
      have yl:d 19=_:=Zq y 19;have kx:w'.cell? (Y M (l+ln m*3+2))=some (.slice x.na (ln x.nl) x.nc):=ctq B e2;gi_wp2;exact⟨_,by simp[aH,yl],rfl,br _ _⟩
     |21,_=>
      cases A
      have zt:d 20=_:=Zq y 20;simp only[aD,Act.put];rw[zt];gi_wp2_with fail
      refine tqx ?_;refine(cw.2 (sH x.nl x.na x.nc w' (ye.2.zL T) yd.nn)).mono ?_;rintro e w3 ⟨⟨v,rfl,P⟩,zi⟩;have HP:Hid _:=P;clear P;gi_wp2;exact⟨_,by simp[aH,zt],aN.weak HP.oQ B.size,zi⟩
     |22,_=>
      cases A
      have d7:d 7=_:=Zq y 7;have R:aN w' wr.heap.size (d 14) x.tl:=Zq y 14;have S:aN w' wr.heap.size (d 21) x.nl:=Zq y 21;obtain⟨a1,c1,zs,_⟩:=R.slice;obtain⟨a3,c3,zu,_⟩:=S.slice;rw[zs]at R;rw[zu]at S;have HO:Hid (fF wr.heap.size w' ⟨x.n,a1,x.tl,c1,a3,x.nl,c3⟩):=⟨R,S⟩;clear R S;gi_wp2;exact⟨_,by simp[aH,d7,zs,zu],⟨⟨x.n,a1,x.tl,c1,a3,x.nl,c3⟩,rfl,⟨rfl,rfl,rfl⟩,HO.oQ⟩,br _ _⟩
     |23,_=>
      cases A
      obtain⟨G,ym,hl,ht⟩:∃G,d 22=Hx.val G/\x.Like G/\fF wr.heap.size w' G:=Zq y 22;have HL:Hid _:=hl;have HT:Hid _:=ht;clear hl ht;gi_wp2;exact⟨_,by simp[aH,ym],⟨_,G,rfl,wnq _ _,HL.oQ,fF.zL HT.oQ (aC (br _ _) _)⟩,aC (br _ _) _⟩
     |j+24,h=>omega
    case fin=>
     intro d w' B W;have d1:d 1=vH:=W 1 dz;obtain⟨s,G,zv,za,hl,ht⟩:∃(s:Nat) (G:Hx),d 23=.slice (some (Y s 0)) 1 1/\w'.heap[s]?=some (.cells #[.string G.n,.slice G.ta (ln G.tl) G.tc,.slice G.na (ln G.nl) G.nc] 74)/\x.Like G/\fF wr.heap.size w' G:=W 23 dz;have J:Hid _:=HS.oQ.zL B
     have C:∀j u,(G.cells)[j]?=some u->w'.cell? (((Y s 0):Addr).add j)=some u:=λj u h=>by
      rw[aal,nza]
      match j,h with
      |0,h=>simp[Hx.cells]at h;subst h;exact aB za rfl
      |1,h=>simp[Hx.cells]at h;subst h;exact aB za rfl
      |2,h=>simp[Hx.cells]at h;subst h;exact aB za rfl
     have HL:Hid _:=hl;have HT:Hid _:=ht.weak HS.oQ.z;clear W hl ht;simp only[lds,ldz,aD,Act.put,sit,lcs,lcz];rw[d1,zv];clear d1 zv;refine wpListIn_append_own w' rfl (.tmp 20) (.tmp 42) 30 rfl W0.heap.size 74 j0 _ 3 64 underlying30 yt yu yv yw rfl dz vH (ln m) (aJ Hx.cells Q) rfl J.oQ.h (Y s 0) 1 1 G.cells rfl rfl C (lQ G) (by unfold maxLen;omega) om J.oQ.z (λv' w2 D U _=>?_)
     obtain⟨g,O,rfl⟩:∃g O,v'=.slice (some (Y g 0)) (ln m+1) O:=by
      obtain⟨_,⟨_,e⟩|⟨g,O,_,e,_⟩⟩:=D
      ·omega
      ·exact⟨g,O,e⟩
     have hN:=J.oQ.grow yf hq D U HL.oQ HT.oQ;have HN:Hid _:=hN
     have kq:w2.cell? (Y q 2)=some vH:=aB (ZD U (λk K=>by
      obtain⟨_,⟨e,_⟩|⟨g,O,zd,e,_,e2,_⟩⟩:=J.oQ.h
      ·rw[e]at K;simp[Value.ownBlock]at K
      ·rw[e]at K;simp[Value.ownBlock]at K;subst K;exact⟨zd,e2⟩) J.oQ.q dz) rfl
     have kf:∀i,w2.frozen? (Y q i)=false:=λi=>by
      have:=ZD U (λk K=>by
       obtain⟨_,⟨e,_⟩|⟨g,O,zd,e,_,e2,_⟩⟩:=J.oQ.h
       ·rw[e]at K;simp[Value.ownBlock]at K
       ·rw[e]at K;simp[Value.ownBlock]at K;subst K;exact⟨zd,e2⟩) J.oQ.q dz
      simp[World.frozen?,this]
     have yh:Hid (b.hl=(m++[x])++rs):=by rw[Hid,hm.out];simp
     clear D U C hN za J;gi_wp2_with fail
     go_wp2
     go_roundw
     case rel=>exact⟨m++[x],rs,_,_,yh,sm,HN.oQ⟩
     case measure=>simp[intOf];omega
   |nil=>
    have hjn:ln b.hl<=ln m:=by simp at V;omega
    have yb:b.hl=m:=by simpa using hm.out
    have k2:wr.cell? (Y w.heap.size 2)=some (.slice b.ha (ln b.hl) b.hc):=aB H.a rfl
    obtain⟨ah,ch,zm,zx⟩:∃ah ch,vH=.slice ah (ln Q) ch/\bW 74 3 Hx.cells wr W0.heap.size vH Q:=by
     have A:=H.h;rw[←H.k.len]at A;have:=iV Hx.cells_length A;obtain⟨a,c,e⟩:=bW.slice this;exact⟨a,c,e,this⟩
    have HL:Hid (aT b.hl Q):=by rw[Hid,yb];exact H.k
    have HX:Hid _:=zx;have q0:wr.cell? (Y q 0)=some (I b.now):=aB H.q rfl;have q1:wr.cell? (Y q 1)=some (.slice L (ln b.fl) N):=aB H.q rfl;have q2:wr.cell? (Y q 2)=some (.slice ah (ln Q) ch):=by rw[←zm];exact aB H.q rfl
    obtain⟨r0,r1,r2⟩:=aM H.r;have rf:=jS H.r;have HV:=aI zm;clear V yb hm zm zx H;go_wp2_with fail
    have hA:dS W0.heap.size wr ⟨b.now,L,b.fl,N,ah,Q,ch⟩:=⟨HS.oQ.f,by have:=HX.oQ;rw[HV.oQ]at this;exact this,HS.oQ.t,yg.oQ⟩;have H:aU (λk=>k=w.heap.size+1) wr (((wr.setCell (Y (w.heap.size+1) 0) (I b.now)).setCell (Y (w.heap.size+1) 1) (.slice L (ln b.fl) N)).setCell (Y (w.heap.size+1) 2) (.slice ah (ln Q) ch)):=(((aU.refl (λk=>k=w.heap.size+1) wr).set (g:=w.heap.size+1) rfl _ _).set (g:=w.heap.size+1) rfl _ _).set (g:=w.heap.size+1) rfl _ _;have yo:=(hA.but H (λk K=>by rw[K];exact yf)).weak (z':=w.heap.size) om;have yq:=H.under HS.oQ.n (nlq _) (λk K=>by rw[K];omega);exact bpr (v:=Bk.val ⟨b.now,L,b.fl,N,ah,Q,ch⟩) (by simp[results,results31,go_sem,r0,r1,r2]) rfl ⟨⟨_,rfl,rfl,rfl,HL.oQ,yo⟩,yq⟩
end Go.Proofs.YtoolgmmljacfmaaGreatDoor
namespace Go.Proofs.YtoolgmmljacfmaaGreatDoor
theorem yF (l:List Bx)(D:Oa)(A:Nat)(a:Int)(w:Wd)(J:jG w D l)(hn:ln l<=1048576):
 aW 284 #[.slice D (ln l) A,I a] w λe w'=>∃v,e=rt v/\aN w' w.heap.size v (bH a l)/\aG w w':=by
 obtain⟨H,G,t,u,x⟩:=info_parts Tryz.info91
 go_enter func284,ntmps284
 go_wp2
 go_loopw [5,10] (λv i wr=>∃k:Nat,k<=ln l/\i=I k/\wr.ownsRow w.heap.size 91 6 v (ln (bH a (l.take k))) (fG (bH a (l.take k)))/\aG w wr) (λ_ i _=>ln l-(intOf i).toNat)
 case atStart=>exact⟨0,nz _,rfl,won _ _ _ _,br _ _⟩
 case round=>
  obtain⟨k,hk,rfl,c,g⟩:=hrel
  by_cases n:k<ln l
  ·rcases J with h|⟨bl,off,rfl,F⟩
   ·subst h;simp at n
   ·have s:=(F k n).zL g
    have hlen:=fW a (l.take k);have hlt2:ln (l.take k)<=k:=List.length_take_le _ _;have p:=FZ l k n;obtain⟨b,r⟩:=bQ (l[k]);rw[←r]at s p;have z:=aI p;clear r F p;obtain⟨c0,c1,c2,c3,c4,c5⟩:=s
    by_cases j:a<=b.o
    ·by_cases hin:b.i<a
     ·go_wp2_with (at_builtin;refine wpList_append_own _ rfl (.tmp 23) (.tmp 25) 41 rfl w.heap.size 91 H _ 6 48 underlying41 G t u x rfl dz _ _ _ rfl ((c.alloc _).alloc _) (Y (wr.heap.size+1) 0) 1 1 (aR { b with i:=a}) rfl rfl ?qc1 ?qc2 ?qc3 ?qc4 ?qc5 ?_)
      case qc1=>first|exact λ_ _ h=>h|exact vD _ _ sm { b with i:=a}
      case qc2=>exact m9 _
      case qc3=>unfold maxLen;omega
      case qc4=>omega
      case qc5=>have:=g.size;(try simp);omega
      intro C w1 f d _
      have hcut:bH a (l.take (k+1))=bH a (l.take k)++[{ b with i:=a}]:=by
       rw[z.oQ,kF _ _ _ j,iF,show max b.i a=a from by omega]
      have y:Hid (w1.ownsRow w.heap.size 91 6 C (ln (bH a (l.take (k+1)))) (fG (bH a (l.take (k+1))))):=by
       rw[hcut,jV,lla];exact f
      have m:aG w w1:=((g.alloc g.size _).alloc (by have:=g.size;simp;omega) _).grown d (by have:=g.size;simp;omega) (λq B=>eH c B);clear hcut c f d g;go_wp2
      go_roundw
      case rel=>exact⟨k+1,om,gn,y.oQ,m⟩
      case measure=>simp[intOf];omega
     ·go_wp2_with (at_builtin;refine wpList_append_own _ rfl (.tmp 23) (.tmp 25) 41 rfl w.heap.size 91 H _ 6 48 underlying41 G t u x rfl dz _ _ _ rfl ((c.alloc _).alloc _) (Y (wr.heap.size+1) 0) 1 1 (aR b) rfl rfl ?qc1 ?qc2 ?qc3 ?qc4 ?qc5 ?_)
      case qc1=>first|exact λ_ _ h=>h|exact vD _ _ sm b
      case qc2=>exact m9 _
      case qc3=>unfold maxLen;omega
      case qc4=>omega
      case qc5=>have:=g.size;(try simp);omega
      intro C w1 f d _
      have hcut:bH a (l.take (k+1))=bH a (l.take k)++[b]:=by
       rw[z.oQ,kF _ _ _ j,iF,show max b.i a=b.i from by omega]
      have y:Hid (w1.ownsRow w.heap.size 91 6 C (ln (bH a (l.take (k+1)))) (fG (bH a (l.take (k+1))))):=by
       rw[hcut,jV,lla];exact f
      have m:aG w w1:=((g.alloc g.size _).alloc (by have:=g.size;simp;omega) _).grown d (by have:=g.size;simp;omega) (λq B=>eH c B);clear hcut c f d g;go_wp2
      go_roundw
      case rel=>exact⟨k+1,om,gn,y.oQ,m⟩
      case measure=>simp[intOf];omega
    ·go_wp2
     go_roundw
     case rel=>exact⟨k+1,om,gn,by rw[z.oQ,pP _ _ _ j];exact c.alloc _,g.alloc g.size _⟩
     case measure=>simp[intOf];omega
  ·go_wp2
   go_ret;refine⟨_,rfl,aN.of_owns ?_,g⟩;rw[ltl om]at c;exact c
theorem yR (l:List Bx)(D:Oa)(A:Nat)(a:Int)(w:Wd)(J:jG w D l)(hn:ln l<=1048576):
 aW 68 #[.slice D (ln l) A,I a] w λe w'=>∃v,e=rt v/\aN w' w.heap.size v (bH a l)/\aG w w':=by
 obtain⟨H,G,t,u,x⟩:=info_parts Tryz.info91
 go_enter func68,ntmps68
 go_wp2
 go_loopw [5,6] (λv i wr=>∃k:Nat,k<=ln l/\i=I k/\wr.ownsRow w.heap.size 91 6 v (ln (bH a (l.take k))) (fG (bH a (l.take k)))/\aG w wr) (λ_ i _=>ln l-(intOf i).toNat)
 case atStart=>exact⟨0,nz _,rfl,by simpa[bH,fG]using World.ownsRow_lit (base:=w.heap.size) (e:=91) (size:=6) w #[] 0 (nlq _) (nz _) rfl,aC (br _ _) _⟩
 case round=>
  obtain⟨k,hk,rfl,c,g⟩:=hrel
  by_cases n:k<ln l
  ·rcases J with h|⟨bl,off,rfl,F⟩
   ·subst h;simp at n
   ·have s:=(F k n).zL g
    have hlen:=fW a (l.take k);have hlt2:ln (l.take k)<=k:=List.length_take_le _ _;have p:=FZ l k n;obtain⟨b,r⟩:=bQ (l[k]);rw[←r]at s p;have z:=aI p;clear r F p;obtain⟨c0,c1,c2,c3,c4,c5⟩:=s
    by_cases j:a<=b.o
    ·by_cases hin:b.i<a
     ·go_wp2_with (at_builtin;refine wpList_append_own _ rfl (.tmp 29) (.tmp 31) 41 rfl w.heap.size 91 H _ 6 48 underlying41 G t u x rfl dz _ _ _ rfl ((c.alloc _).alloc _) (Y (wr.heap.size+1) 0) 1 1 (aR { b with i:=a}) rfl rfl ?qc1 ?qc2 ?qc3 ?qc4 ?qc5 ?_)
      case qc1=>first|exact λ_ _ h=>h|exact vD _ _ sm { b with i:=a}
      case qc2=>exact m9 _
      case qc3=>unfold maxLen;omega
      case qc4=>omega
      case qc5=>have:=g.size;(try simp);omega
      intro C w1 f d _
      have hcut:bH a (l.take (k+1))=bH a (l.take k)++[{ b with i:=a}]:=by
       rw[z.oQ,kF _ _ _ j,iF,show max b.i a=a from by omega]
      have y:Hid (w1.ownsRow w.heap.size 91 6 C (ln (bH a (l.take (k+1)))) (fG (bH a (l.take (k+1))))):=by
       rw[hcut,jV,lla];exact f
      have m:aG w w1:=((g.alloc g.size _).alloc (by have:=g.size;simp;omega) _).grown d (by have:=g.size;simp;omega) (λq B=>eH c B);clear hcut c f d g;go_wp2
      go_roundw
      case rel=>exact⟨k+1,om,gn,y.oQ,m⟩
      case measure=>simp[intOf];omega
     ·go_wp2_with (at_builtin;refine wpList_append_own _ rfl (.tmp 29) (.tmp 31) 41 rfl w.heap.size 91 H _ 6 48 underlying41 G t u x rfl dz _ _ _ rfl ((c.alloc _).alloc _) (Y (wr.heap.size+1) 0) 1 1 (aR b) rfl rfl ?qc1 ?qc2 ?qc3 ?qc4 ?qc5 ?_)
      case qc1=>first|exact λ_ _ h=>h|exact vD _ _ sm b
      case qc2=>exact m9 _
      case qc3=>unfold maxLen;omega
      case qc4=>omega
      case qc5=>have:=g.size;(try simp);omega
      intro C w1 f d _
      have hcut:bH a (l.take (k+1))=bH a (l.take k)++[b]:=by
       rw[z.oQ,kF _ _ _ j,iF,show max b.i a=b.i from by omega]
      have y:Hid (w1.ownsRow w.heap.size 91 6 C (ln (bH a (l.take (k+1)))) (fG (bH a (l.take (k+1))))):=by
       rw[hcut,jV,lla];exact f
      have m:aG w w1:=((g.alloc g.size _).alloc (by have:=g.size;simp;omega) _).grown d (by have:=g.size;simp;omega) (λq B=>eH c B);clear hcut c f d g;go_wp2
      go_roundw
      case rel=>exact⟨k+1,om,gn,y.oQ,m⟩
      case measure=>simp[intOf];omega
    ·go_wp2
     go_roundw
     case rel=>exact⟨k+1,om,gn,by rw[z.oQ,pP _ _ _ j];exact c.alloc _,g.alloc g.size _⟩
     case measure=>simp[intOf];omega
  ·go_wp2
   go_ret;refine⟨_,rfl,aN.of_owns ?_,g⟩;rw[ltl om]at c;exact c
