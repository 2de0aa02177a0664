import Derived.Test.YtoolgmmljacfmaaGreatDoorDq
set_option maxRecDepth 100000
set_option maxHeartbeats 16000000
open List renaming length → ln
open Go.Proofs.Tryz Go.RowKit
namespace Go.Proofs.YtoolgmmljacfmaaGreatDoor
open Go.Shelf
attribute [local go_sem] Oper.semAt_some
variable {H Z:Nat}{x:Hx}{a:Int}
def jZ (frm:Int)(x:Hx):Hx:=if bH frm x.tl=[]then⟨x.n,none,bH frm x.nl,0,none,[],0⟩else⟨x.n,none,bH frm x.tl,0,none,bH frm x.nl,0⟩
def F8 (H:Nat)(x:Hx)(frm:Int)(Z:Nat)(j:Nat)(vs:Nat->Value)(w:World):Prop:=
 match j with
 |0=>vs 0=(E H 1)
 |1=>vs 1=.slice x.ta x.tl.length x.tc
 |2=>vs 2=I frm
 |3=>aN w Z (vs 3) (bH frm x.tl)
 |4=>vs 4=(E H 2)
 |5=>vs 5=.slice x.na x.nl.length x.nc
 |6=>vs 6=I frm
 |7=>aN w Z (vs 7) (bH frm x.nl)/\∀q,(vs 3).ownBlock=some q->(vs 7).ownBlock≠some q
 |8=>vs 8=(E H 1)
 |_=>True
def dp8 (j:Nat):List Nat:=if j=7 then[7,3]else[j]
def fr8 (_:Nat):Bool:=false
def Pf8 (_:Nat)(_:Value):Prop:=True
theorem F8.zL (j:Nat)(c:Nat->Va)(w w':Wd)(h:F8 H x a Z j c w)(b:aG w w'):F8 H x a Z j c w':=by
 unfold F8 at h ⊢;split
 all_goals first
  |exact h
  |exact aN.zL h b
  |exact⟨aN.zL h.1 b,h.2⟩
  |trivial
theorem F8.loc (j:Nat)(d b:Nat->Va)(w:Wd)(c:∀q∈dp8 j,d q=b q)(h:F8 H x a Z j d w):F8 H x a Z j b w:=by
 unfold F8 at h ⊢;split at h
 all_goals first
  |(rw[←c _ (by simp[dp8])];exact h)
  |(rw[←c 7 (by simp[dp8]),←c 3 (by simp[dp8])];exact h)
  |trivial
theorem F8.free (j:Nat)(b:Nat->Va)(w:Wd)(_:fr8 j=true)(_:F8 H x a Z j b w):Pf8 j (b j):=trivial
def GB8 (W0:World)(H:Nat)(x:Hx)(frm:Int)(vs:Nat->Value)(w':World):Prop:=
 aG W0 w'/\aN w' W0.heap.size (vs 3) (bH frm x.tl)/\aN w' W0.heap.size (vs 7) (bH frm x.nl)/\(∀q,(vs 3).ownBlock=some q->(vs 7).ownBlock≠some q)/\vs 8=(E H 1)
def G8 (W0:World)(H:Nat)(x:Hx)(frm:Int)(t:Nat)(vs:Nat->Value)(w':World):Prop:=
 ∃w0,GB8 W0 H x frm vs w0/\w'=if t=10 then w0.setCell (Y H 1) (vs 3)else w0
theorem M7 (x:Hx)(a:Int)(w:Wd)(hx:x.In w)(hf:x.Fit):
 aW 265 #[x.val,I a] w λe w'=>(∃x':Hx,e=rt x'.val/\(jZ a x).Like x'/\fF w.heap.size w' x'/\x'.bs.Nodup)/\aG w w':=by
 have N0:aG w ((w.alloc (ho x)).alloc (.cells #[.string ⟨#[]⟩,ms,ms] 74)):=aC (aC (br _ _) _) _;have T:=(halq (w.alloc (ho x)) (.cells #[.string ⟨#[]⟩,ms,ms] 74) w.heap.size sm).trans (wnq w (ho x));have W:=wnq (w.alloc (ho x)) (.cells #[.string ⟨#[]⟩,ms,ms] 74);rw[wsa]at W;go_enter Tryz.func265,Tryz.ntmps265;go_wp2_with fail;obtain⟨W0,Z⟩:=cI ((w.alloc (ho x)).alloc (.cells #[.string ⟨#[]⟩,ms,ms] 74));rw[Z]at N0 T W ⊢;have hz1:w.heap.size+1<W0.heap.size:=(cE W);have k1:W0.cell? (ya w 1)=some (ts x):=aB T rfl;have k2:W0.cell? (ya w 2)=some (ns x):=aB T rfl;have U:Hid _:=T;have zg:Hid _:=W;clear Z T W;refine ZC 4 9 10 [some 5,some 6,some 7,some 8,some 9,some 10,some 11,some 12,some 13] fr8 dp8 (F8 w.heap.size x a W0.heap.size) Pf8 (G8 W0 w.heap.size x a) F8.zL F8.loc F8.free ?step ?free ?g0 ?gf ?store ?fin
 case step=>
  intro ii o c w' zx O j l;match ii,zx with
  |0,_|2,_|4,_|6,_|8,_=>
   cases O;gi_wp2;exact⟨_,uhx,rfl,br _ _⟩
  |1,_=>
   cases O;have d0:c 0=_:=Zq l 0;have yb:=ctq j k1;gi_wp2;exact⟨_,by simp[aH,d0],rfl,br _ _⟩
  |3,_=>
   cases O;have d1:c 1=_:=Zq l 1;have d2:c 2=_:=Zq l 2;simp only[aD,Act.put];rw[d1,d2];gi_wp2_with fail;refine tqx ?_;refine(cw.2 (yF x.tl x.ta x.tc a w' (hx.1.zL (aE N0 j)) hf.tn)).mono ?_;rintro e w5 ⟨v5,rfl,m,K⟩;have H:Hid _:=aN.weak m (base':=W0.heap.size) j.size;clear m;gi_wp2;exact⟨_,by simp[aH,d1,d2],H.oQ,K⟩
  |5,_=>
   cases O;have d4:c 4=_:=Zq l 4;have k2':=ctq j k2;gi_wp2;exact⟨_,by simp[aH,d4],rfl,br _ _⟩
  |7,_=>
   cases O;have d5:c 5=_:=Zq l 5;have d6:c 6=_:=Zq l 6;have s:aN w' W0.heap.size (c 3) (bH a x.tl):=l { on:=3,ground:=Ground.chain} sm rfl;have zf:Hid (∀q,(c 3).ownBlock=some q->q<w'.heap.size):=λq Q=>s.blkLt Q;clear s;simp only[aD,Act.put];rw[d5,d6];gi_wp2_with fail;refine tqx ?_;refine(cw.2 (yF x.nl x.na x.nc a w' (hx.2.zL (aE N0 j)) hf.nn)).mono ?_;rintro e w5 ⟨v5,rfl,m,K⟩;have H:Hid _:=aN.weak m (base':=W0.heap.size) j.size;have ze:Hid (∀q,(c 3).ownBlock=some q->v5.ownBlock≠some q):=λq Q zz=>Nat.lt_irrefl _ (nll (zf.oQ q Q) (aN.blkGe m zz));clear m;gi_wp2;exact⟨_,by simp[aH,d5,d6],⟨H.oQ,ze.oQ⟩,K⟩
  |q+9,h=>omega
 case free=>
  intro i o c w' t _ L;cases L
 case g0=>
  intro c w' j hp;exact⟨w',⟨j,hp 3 dz rfl,(hp 7 dz rfl).1,(hp 7 dz rfl).2,hp 8 dz rfl⟩,rfl⟩
 case gf=>
  intro t c w' i v L;cases L
 case store=>
  intro t o c w' h12 h15 O hG l;obtain rfl:t=9:=om;obtain⟨w0,za,zc⟩:=hG;cases O;rw[if_neg dz]at zc;subst zc;have HG:Hid _:=za;obtain⟨j,s,_,_,X⟩:=za;obtain⟨u,z,D,_⟩:=s.slice;have P:=bJ U.oQ j;have yb:w'.cell? (ya w 1)=some (ts x):=aB P rfl;have kf:=jS P;clear s j P;simp only[aD,Act.put];rw[X,D];gi_wp2;exact⟨undef,by simp[aH,X,D],w',HG.oQ,by rw[if_pos rfl];show _=w'.setCell _ (c 3);rw[D]⟩
 case fin=>
  intro c w1' hG _;obtain⟨w1,⟨j,s,h7,l,X⟩,zd⟩:=hG;rw[if_pos rfl]at zd;subst zd;obtain⟨u,z,D,_⟩:=s.slice;obtain⟨d,f,e7,_⟩:=h7.slice;rw[D,e7]at l;rw[D]at s;rw[e7]at h7;have N1:=aE N0 j;have P:=bJ U.oQ j;have R1:=bJ zg.oQ j;clear k1 k2 j;have H3:=aI s;have H7:=aI h7;have HD:=aI l;have zy:=fW a x.tl
  have C:Hid (∀w2,aU (λk=>k=w.heap.size∨k=w.heap.size+1) w1 w2->aN w2 w.heap.size (.slice u (ln (bH a x.tl)) z) (bH a x.tl)/\aN w2 w.heap.size (.slice d (ln (bH a x.nl)) f) (bH a x.nl)/\aG w w2):=λw2 hb=>
   ⟨aN.weak (aN.but H3.oQ hb (λy e p=>by have:=H3.oQ.blkGe (q:=y.block) (by rw[H3.oQ.adr,e];rfl);rcases p with p|p<;>omega)) om,aN.weak (aN.but H7.oQ hb (λy e p=>by have:=H7.oQ.blkGe (q:=y.block) (by rw[H7.oQ.adr,e];rfl);rcases p with p|p<;>omega)) om,hb.under N1 (nlq _) (λk p=>by rcases p with rfl|rfl<;>omega)⟩
  have rH:w1.rowIs w.heap.size 74 3 (λi=>(#[.string x.n,ts x,ns x]:Array Va).getD i undef):=⟨_,P,rfl,λi hi=>by match i,hi with|0,_=>rfl|1,_=>rfl|2,_=>rfl⟩;have S:w1.rowIs (w.heap.size+1) 74 3 (λi=>(#[.string ⟨#[]⟩,ms,ms]:Array Va).getD i undef):=⟨_,R1,rfl,λi hi=>by match i,hi with|0,_=>rfl|1,_=>rfl|2,_=>rfl⟩;simp only[lds,ldz,aD,Act.put];rw[D,e7,X];clear D e7 X s h7 l P R1;obtain⟨A,M⟩:=cI (ln (bH a x.tl));obtain⟨lb,N⟩:=cI (ln (bH a x.nl));have V:=aI N;have G:=aI M;rw[M]at zy ⊢;rw[N]at⊢;clear M N;have ra:=rH.set 1 (.slice u A z);have B:=ra.set 2 (.slice d lb f);have zb:w.heap.size+1≠w.heap.size:=om;have ba:aU (λk=>k=w.heap.size) w1 (w1.setCell (ya w 1) (.slice u A z)):=(aU.refl (λk=>k=w.heap.size) w1).set (g:=w.heap.size) rfl _ _;have J:=ba.set (g:=w.heap.size) rfl 2 (.slice d lb f);have zh:(w1.setCell (ya w 1) (.slice u A z)).cell? (ya w 2)=some (ns x):=ra.cell (i:=2) dz;have zi:=λi=>ra.frozen i;obtain⟨Wa,zt⟩:=cI (w1.setCell (ya w 1) (.slice u A z));rw[zt]at B J zh zi ⊢;have zk:(Wa.setCell (ya w 2) (.slice d lb f)).cell? (ya w 1)=some (.slice u A z):=B.cell (i:=1) dz;have zl:(Wa.setCell (ya w 2) (.slice d lb f)).cell? (ya w 2)=some (.slice d lb f):=B.cell (i:=2) dz;have zj:(Wa.setCell (ya w 2) (.slice d lb f)).cell? (ya w 0)=some (.string x.n):=B.cell (i:=0) dz;have zm:=λi=>B.frozen i;obtain⟨Wb,zu⟩:=cI (Wa.setCell (ya w 2) (.slice d lb f));rw[zu]at B J zj zk zl zm;clear ra ba rH;generalize c 0=v0,c 1=v1,c 2=v2,c 4=v4,c 5=v5,c 6=v6;by_cases R:bH a x.tl=[]
  ·have HC:Hid (jZ a x=⟨x.n,none,bH a x.nl,0,none,[],0⟩):=by
    have:jZ a x=⟨x.n,none,bH a x.nl,0,none,[],0⟩:=by unfold jZ;rw[if_pos R]
    exact this
   obtain rfl:A=0:=by rw[←G.oQ,R];rfl
   clear R;have rc:=B.set 1 (.slice d lb f);have bc:=J.set (g:=w.heap.size) rfl 1 (.slice d lb f);have zn:(Wb.setCell (ya w 1) (.slice d lb f)).cell? (ya w 2)=some (.slice d lb f):=rc.cell (i:=2) dz;have zp:=λi=>rc.frozen i;obtain⟨Wc,zv⟩:=cI (Wb.setCell (ya w 1) (.slice d lb f));rw[zv]at rc bc zn zp;have rd:=rc.set 2 (ms);have bd:=bc.set (g:=w.heap.size) rfl 2 (ms);have zq:(Wc.setCell (ya w 2) (ms)).cell? (ya w 0)=some (.string x.n):=rd.cell (i:=0) dz;have zr:(Wc.setCell (ya w 2) (ms)).cell? (ya w 1)=some (.slice d lb f):=rd.cell (i:=1) dz;have zs:(Wc.setCell (ya w 2) (ms)).cell? (ya w 2)=some (ms):=rd.cell (i:=2) dz;have b:=S.of_block (bd.block _ S.lt zb);have r0:=b.cell (i:=0) dz;have r1:=b.cell (i:=1) dz;have r2:=b.cell (i:=2) dz;have rf:=λi=>b.frozen i;obtain⟨Wd,zw⟩:=cI (Wc.setCell (ya w 2) (ms));rw[zw]at bd zq zr zs r0 r1 r2 rf;clear B J rc bc rd S b;have F:Hid _:=bd;clear bd;gi_wp2_with fail;go_wp2_with fail
   exact bpr (v:=Hx.val ⟨x.n,d,bH a x.nl,f,none,[],0⟩) (by simp[results,Tryz.results265,go_sem,r0,r1,r2,V.oQ]) rfl (by
    obtain⟨o3,o7,hN⟩:=C.oQ _ ((((F.oQ.wide (S':=λk=>k=w.heap.size∨k=w.heap.size+1) (λk p=>.inl p)).set (g:=w.heap.size+1) (.inr rfl) 0 (.string x.n)).set (g:=w.heap.size+1) (.inr rfl) 1 (.slice d lb f)).set (g:=w.heap.size+1) (.inr rfl) 2 (ms));exact⟨⟨_,rfl,by rw[HC.oQ];exact⟨rfl,rfl,rfl⟩,⟨o7,.inl ⟨rfl,rfl⟩⟩,by simp only[Hx.bs,Option.map_none,Option.toList_none,List.append_nil];exact iE _⟩,hN⟩)
  ·have HC:Hid (jZ a x=⟨x.n,none,bH a x.tl,0,none,bH a x.nl,0⟩):=by
    have:jZ a x=⟨x.n,none,bH a x.tl,0,none,bH a x.nl,0⟩:=by unfold jZ;rw[if_neg R]
    exact this
   have hpos:0<A:=by rw[←G.oQ];exact lpi.2 R
   have hz0:((A:Int)==0)=false:=beq_false_of_ne om;clear R;have b:=S.of_block (J.block _ S.lt zb);have r0:=b.cell (i:=0) dz;have r1:=b.cell (i:=1) dz;have r2:=b.cell (i:=2) dz;have rf:=λi=>b.frozen i;have F:Hid _:=J;clear J B S b;gi_wp2_with fail;go_wp2_with fail
   exact bpr (v:=Hx.val ⟨x.n,u,bH a x.tl,z,d,bH a x.nl,f⟩) (by simp[results,Tryz.results265,go_sem,r0,r1,r2,V.oQ,G.oQ]) rfl (by
    obtain⟨o3,o7,hN⟩:=C.oQ _ ((((F.oQ.wide (S':=λk=>k=w.heap.size∨k=w.heap.size+1) (λk p=>.inl p)).set (g:=w.heap.size+1) (.inr rfl) 0 (.string x.n)).set (g:=w.heap.size+1) (.inr rfl) 1 (.slice u A z)).set (g:=w.heap.size+1) (.inr rfl) 2 (.slice d lb f));refine⟨⟨_,rfl,by rw[HC.oQ];exact⟨rfl,rfl,rfl⟩,⟨o3,o7⟩,?_⟩,hN⟩;have l:=HD.oQ;rw[H3.oQ.adr,H7.oQ.adr]at l;simp only[Hx.bs];rw[lnd];refine⟨iE _,iE _,λq Q r hr e=>?_⟩;subst e;simp only[Option.mem_toList]at Q hr;exact l q Q hr)
variable {a b:Hx}{P g i:Nat}{n:Bk}{c:Va}{k:List Bx}
theorem tM:∀(l:List Hx) (i:Nat) (b:Hx) (s r:List Nat) (h:i<ln l),b.bs=s++r->s.Sublist l[i].bs->∃m,m.Sublist (l.flatMap Hx.bs)/\((l.set i b).flatMap Hx.bs).Perm (m++r)
 |[],_,_,_,_,h,_,_=>by simp at h
 |a::q,0,b,s,r,_,e,hs=>by
  refine⟨s++q.flatMap Hx.bs,?_,?_⟩
  ·simp only[lfc];exact List.Sublist.append hs (List.Sublist.refl _)
  ·simp only[lcz,lfc,e,las];exact List.Perm.append_left s List.perm_append_comm
 |a::q,i+1,b,s,r,h,e,hs=>by
  obtain⟨m,c,d⟩:=tM q i b s r (by simpa using h) e (by simpa using hs);refine⟨a.bs++m,?_,?_⟩
  ·simp only[lfc];exact List.Sublist.append (List.Sublist.refl _) c
  ·simp only[lcs,lfc,las];exact List.Perm.append_left _ d
theorem II (l:List Hx)(i:Nat)(b:Hx)(s r:List Nat)(h:i<ln l)(e:b.bs=s++r)(o:s.Sublist l[i].bs)(j:(l.flatMap Hx.bs).Nodup)(n:r.Nodup)(k:∀q∈r,q∉l.flatMap Hx.bs):((l.set i b).flatMap Hx.bs).Nodup:=by
 obtain⟨m,d,f⟩:=tM l i b s r h e o;rw[f.nodup_iff,lnd];exact⟨j.sublist d,n,λa ha c g e=>k c g (e▸d.subset ha)⟩
theorem aT.refl (l:List Hx):aT l l:=⟨rfl,λ_ _=>⟨rfl,rfl,rfl⟩⟩
theorem aT.set {l m:List Hx}(h:aT l m)(i:Nat)(g:a.Like b):aT (l.set i a) (m.set i b):=by
 refine⟨by simp[h.len],λk c=>?_⟩;by_cases e:i=k
 ·subst e;rw[List.getElem_set_self,List.getElem_set_self];exact g
 ·rw[List.getElem_set_ne e,List.getElem_set_ne e];exact h.like k (by simpa using c)
def IE (tl:List Bx)(x:Hx):Hx:=⟨x.n,x.ta,x.tl,x.tc,none,tl,0⟩
def j8 (b:Bk)(nm:ByteArray)(i:Nat)(f:Bool)(tl:List Bx):Int:=
 if(aQ b.fl tl&&fY b.now tl)=false then 2 else if f then(match b.hl[i]? with|some x=>if x.nl=[]then(if kC nm tl b.hl then 0 else 5)else 7|none=>6)else 6
def lU (b:Bk)(nm:ByteArray)(i:Nat)(f:Bool)(tl:List Bx):List Hx:=if j8 b nm i f tl=0 then(match b.hl[i]? with|some x=>b.hl.set i (IE tl x)|none=>b.hl)else b.hl
def A7 (P:Nat)(b:Bk)(nm:ByteArray)(tv:Value)(fr:Bool)(j:Nat)(v:Value)(_w:World):Prop:=
 match j with
 |0=>v=(E P 0)
 |1=>v=(E P 0)
 |2=>v=(E P 0)
 |3=>v=b.val
 |4=>v=(E P 0)
 |5=>v=(E P 0)
 |6=>v=(E P 3)
 |7=>v=.string nm
 |8=>v=tv
 |9=>v=.bool fr
 |_=>True
def A9 (P:Nat)(b:Bk)(g i:Nat)(tv:Value)(Z:Nat)(tl:List Bx)(j:Nat)(v:Value)(w:World):Prop:=
 match j with
 |0=>v=(E P 0)
 |1=>v=(E P 0)
 |2=>v=(E P 0)
 |3=>v=(E P 2)
 |4=>v=.slice (some (Y g 0)) b.hl.length b.hc
 |5=>v=(E P 0)
 |6=>v=(E P 0)
 |7=>v=(E P 4)
 |8=>v=I (i:Int)
 |9=>v=tv
 |10=>aN w Z v tl
 |_=>True
theorem A9.zL (j:Nat)(v:Va)(w w':Wd)(h:A9 P n g i c Z k j v w)(d:aG w w'):A9 P n g i c Z k j v w':=by
 unfold A9 at h ⊢;split
 all_goals first
  |exact h
  |exact aN.zL h d
  |trivial
theorem S7 (z P:Nat)(b:Bk)(nm:Ba)(i:Nat)(f:Bool)(c:List Bx)(ta:Oa)(tc:Nat)(w:Wd)(hI:mP z P w b nm i f)(hzw:z<=w.heap.size)(zq:f=true->i<ln b.hl)(zi:∀h∈b.hl,h.Fit)(zu:ln b.fl<=1048576)(hnh:ln b.hl<=64)(ht:jG w ta c)(hnt:ln c<=1048576):
 aW 126 #[E P 0,.slice ta (ln c) tc] w λe w'=>∃M:Bk,e=rt (rB (j8 b nm i f c))/\M.now=b.now/\M.fl=b.fl/\aT (lU b nm i f c) M.hl/\mP z P w' M nm i f/\aU (λk=>z<=k) w w':=by
 have p0:w.cell? (Y P 0)=some (I b.now):=aB hI.p rfl;have p1:w.cell? (Y P 1)=some (.slice b.fa (ln b.fl) b.fc):=aB hI.p rfl;have K:w.cell? (Y P 2)=some (.slice b.ha (ln b.hl) b.hc):=aB hI.p rfl;have u:Hid _:=hI;have zb:Hid _:=zi;clear hI zi;go_enter Tryz.func126,Tryz.ntmps126;go_wp2_with fail;refine(wF b c ta tc w u.oQ.a.ans.fs zu ht hnt).mono ?_;rintro e w1 ⟨rfl,zf⟩;obtain⟨v1,za⟩:∃v,(aQ b.fl c&&fY b.now c)=v:=⟨_,rfl⟩;rw[za];have F:Hid _:=za;have A:=zf;clear zf za p0 p1 K;cases v1 with
 |false=>
  go_wp2_with fail;go_ret;have C:j8 b nm i f c=2:=by unfold j8;rw[F.oQ];rfl
  have L:lU b nm i f c=b.hl:=by unfold lU;rw[C];rfl
  rw[C];exact⟨b,rfl,rfl,rfl,by rw[L];exact aT.refl _,u.oQ.zL A,aU.below A⟩
 |true=>
 have P1:=bJ u.oQ.p A;obtain⟨p0,p1,K,p3,p4,p5⟩:=rG P1;clear P1;cases f with
 |false=>
  go_wp2_with fail;go_ret;have C:j8 b nm i false c=6:=by unfold j8;rw[F.oQ];rfl
  have L:lU b nm i false c=b.hl:=by unfold lU;rw[C];rfl
  rw[C];exact⟨b,rfl,rfl,rfl,by rw[L];exact aT.refl _,u.oQ.zL A,aU.below A⟩
 |true=>
 have J:=zq rfl;obtain⟨x,hx⟩:=bQ (b.hl[i]);have zj:b.hl[i]?=some x:=by rw[hx];exact lge J
 have hxf:=zb.oQ x (by rw[hx];exact lgm J);obtain⟨g,ha,zr,hcap,fv,s,hf⟩:=u.oQ.a.held J;rw[ha]at K;have T:=s.of_block (A.block _ s.lt);have e2:=T.cell (i:=i*3+2) om;rw[show fv (i*3+2)=.slice x.na (ln x.nl) x.nc from by rw[hx];exact hf i J J 2 _ rfl]at e2
 have zl:P≠g:=λe=>by
  subst e;obtain⟨cs,zg,_⟩:=s;rw[u.oQ.p]at zg;cases zg
 have HX:=aI hx;have G:Hid _:=zj;have HR:=aI s;have HF:Hid _:=hf;have HA:Hid _:=ha;clear hf hx zj s T ha;cases hnl:x.nl with
 |cons y ys=>
  have hlen:0<ln x.nl:=by rw[hnl];simp
  have C:Hid (j8 b nm i true c=7):=by
   have:j8 b nm i true c=7:=by unfold j8;rw[F.oQ,G.oQ];simp[hnl]
   exact this
  clear hnl;go_wp2_with fail;go_quiet (fail);go_wp2_with fail;go_ret;have L:lU b nm i true c=b.hl:=by unfold lU;rw[C.oQ];rfl
  rw[C.oQ];exact⟨b,rfl,rfl,rfl,by rw[L];exact aT.refl _,u.oQ.zL (aE A (nP _ _)),aU.below (aE A (nP _ _))⟩
 |nil=>
 have zc:=aI hnl;rw[hnl]at e2;clear hnl;go_wp2_with fail;go_quiet (fail);obtain⟨fr,zh⟩:=cI (kC nm c b.hl);have U:Hid _:=zh;have A:=aE A (nP w1 nq);have p0:=((nP w1 nq).cell (aA p0)).trans p0;have p1:=((nP w1 nq).cell (aA p1)).trans p1;have K:=((nP w1 nq).cell (aA K)).trans K;rw[←HA.oQ]at K;have p3:=((nP w1 nq).cell (aA p3)).trans p3;have p4:=((nP w1 nq).cell (aA p4)).trans p4;have p5:=((nP w1 nq).cell (aA p5)).trans p5;clear zh e2;go_wp2_with fail;refine pG 10 [some 34,some 35,some 36,some 37,some 38,some 39,some 40,some 41,some 42,some 43] (A7 P b nm (.slice ta (ln c) tc) fr) (λ_ _ _ _ h _=>h) ?step ?fin
 case step=>
  intro ii o l w' W D r B;match ii,W with
  |0,_=>
   cases D;gi_wp2;exact⟨_,uhx,rfl,br _ _⟩
  |1,_|2,_|5,_|6,_=>
   cases D;simp[Region.binds,A7]at B;simp only[aD,Act.put,B];gi_wp2;exact⟨_,by simp[aH,B],rfl,br _ _⟩
  |3,_=>
   cases D;have d2:l 2=_:=Zq B 2;have k0:=ctq r p0;have k1:=ctq r p1;have k2:=ctq r K;gi_wp2;exact⟨_,by simp[aH,d2],rfl,br _ _⟩
  |4,_|8,_=>
   cases D;gi_wp2;exact⟨_,uhx,rfl,br _ _⟩
  |7,_=>
   cases D;have d6:l 6=_:=Zq B 6;have k3:=ctq r p3;gi_wp2;exact⟨_,by simp[aH,d6],rfl,br _ _⟩
  |9,_=>
   cases D;have d3:l 3=_:=Zq B 3;have d7:l 7=_:=Zq B 7;have d8:l 8=_:=Zq B 8;simp only[aD,Act.put];rw[d3,d7,d8];gi_wp2_with fail;refine tqx ?_;refine(cw.2 (DL b nm c ta tc w' (u.oQ.a.ans.hs.zL (aE A r)) om (λh m=>⟨(u.oQ.a.ans.inn h m).zL (aE A r),zb.oQ h m⟩) (ht.zL (aE A r)) hnt)).mono ?_;rintro e w5 ⟨rfl,V⟩;rw[U.oQ];gi_wp2;exact⟨_,by simp[aH,d3,d7,d8],rfl,V⟩
  |q+10,h=>omega
 case fin=>
  intro l w2 r X;have d9:l 9=_:=X 9 dz;have N2:=aE A r;have q2:=ctq r K;rw[HA.oQ]at q2;have q4:=ctq r p4;clear X r A p0 p1 K p3 p4 p5;simp only[lds,ldz,aD,Act.put];rw[d9];clear d9;generalize l 0=v0,l 1=v1,l 2=v2,l 3=v3,l 4=v4,l 5=v5,l 6=v6,l 7=v7,l 8=v8;cases fr with
  |false=>
   gi_wp2_with fail;go_wp2_with fail;go_ret;have C:j8 b nm i true c=5:=by unfold j8;rw[F.oQ,G.oQ,U.oQ];simp[zc.oQ]
   have L:lU b nm i true c=b.hl:=by unfold lU;rw[C];rfl
   rw[C];exact⟨b,rfl,rfl,rfl,by rw[L];exact aT.refl _,u.oQ.zL N2,aU.below N2⟩
  |true=>
   gi_wp2_with fail;go_wp2_with fail;refine pG 11 [some 46,some 47,some 48,some 49,some 50,some 51,some 52,some 53,some 54,some 55,some 56] (A9 P b g i (.slice ta (ln c) tc) w2.heap.size c) A9.zL ?step ?fin
   case step=>
    intro ii o l w' W D r B;match ii,W with
    |0,_=>
     cases D;gi_wp2;exact⟨_,uhx,rfl,br _ _⟩
    |1,_|2,_|3,_|6,_|7,_=>
     cases D;simp[Region.binds,A9]at B;simp only[aD,Act.put,B];gi_wp2;exact⟨_,by simp[aH,B],rfl,br _ _⟩
    |4,_=>
     cases D;have d3:l 3=_:=Zq B 3;have k2:=ctq r q2;gi_wp2;exact⟨_,by simp[aH,d3],rfl,br _ _⟩
    |5,_|9,_=>
     cases D;gi_wp2;exact⟨_,uhx,rfl,br _ _⟩
    |8,_=>
     cases D;have d7:l 7=_:=Zq B 7;have k4:=ctq r q4;gi_wp2;exact⟨_,by simp[aH,d7],rfl,br _ _⟩
    |10,_=>
     cases D;have d9:l 9=_:=Zq B 9;simp only[aD,Act.put];rw[d9];gi_wp2_with fail;refine tqx ?_;refine(cw.2 (uL c ta tc w' (ht.zL (aE N2 r)) hnt)).mono ?_;rintro e w5 ⟨⟨v5,rfl,ze⟩,V⟩;have zk:Hid _:=ze.weak (base':=w2.heap.size) r.size;clear ze;gi_wp2;exact⟨_,by simp[aH,d9],zk.oQ,V⟩
    |q+11,h=>omega
   case fin=>
    intro l w3 r X;have d4:l 4=_:=X 4 dz;have d8:l 8=_:=X 8 dz;have N:aN w3 w2.heap.size (l 10) c:=X 10 dz;obtain⟨H,R,hv,_⟩:=N.slice;rw[hv]at N;have HO:=aI N;have N3:=aE N2 r;have Q:=HR.oQ.of_block (N3.block _ HR.oQ.lt);have c3:=Q.cell (i:=i*3+2) om;have cf:=λi=>Q.frozen i;have hsN:=N2.size;clear X r N q2 q4;simp only[lds,ldz,aD,Act.put];rw[d4,d8,hv];clear d4 d8 hv;generalize l 0=v0,l 1=v1,l 2=v2,l 3=v3,l 5=v5,l 6=v6,l 7=v7,l 9=v9;have zd:=aI Q;clear Q;gi_wp2_with fail;go_wp2_with fail;go_ret;have C:j8 b nm i true c=0:=by unfold j8;rw[F.oQ,G.oQ,U.oQ];simp[zc.oQ]
    have L:lU b nm i true c=b.hl.set i (IE c x):=by unfold lU;rw[C,G.oQ];rfl
    rw[C];have O:aU (λk=>k=g) w (w3.setCell (Y g (i*3+2)) (.slice H (ln c) R)):=(aU.below (S:=λk=>k=g) N3).set (g:=g) rfl _ _;have h1:=zd.oQ.set (i*3+2) (.slice H (ln c) R)
    have h2:(λj=>if j=i*3+2 then Value.slice H (ln c) R else fv j)=(λj=>if j=i*3+2 then Value.slice H (ln c) R else if j=i*3+1 then .slice x.ta (ln x.tl) x.tc else fv j):=by
     funext j;by_cases e:j=i*3+1
     ·subst e;rw[if_neg om,if_neg om,if_pos rfl,HX.oQ];exact HF.oQ i J J 1 _ rfl
     ·simp[e]
    rw[h2]at h1;have hR:=gD.lists (h:=x) (h':=⟨x.n,x.ta,x.tl,x.tc,H,c,R⟩) h1 HF.oQ G.oQ rfl;have zn:fF z w x:=u.oQ.a.t x (by rw[HX.oQ];exact lgm J);have zm:fF z (w3.setCell (Y g (i*3+2)) (.slice H (ln c) R)) ⟨x.n,x.ta,x.tl,x.tc,H,c,R⟩:=⟨(zn.butHeld HR.oQ O).t,((HO.oQ.weak (base':=z) om).setRow zd.oQ dz _ _)⟩
    have zs:∀q∈(H.map Addr.block).toList,w2.heap.size<=q:=λq hq=>by
     rcases HO.oQ with⟨e,_⟩|⟨g',cap',e,h1',_⟩;·simp only[vsi]at e;rw[e.1]at hq;simp at hq
     ·simp only[vsi]at e;rw[e.1]at hq;simp at hq;omega
    have zt:((b.hl.set i ⟨x.n,x.ta,x.tl,x.tc,H,c,R⟩).flatMap Hx.bs).Nodup:=II b.hl i _ ((x.ta.map Addr.block).toList) ((H.map Addr.block).toList) J rfl (by rw[←HX.oQ];simp[Hx.bs]) u.oQ.a.d (iE _) (λq hq Z=>by
     obtain⟨y,hy,Z⟩:=List.mem_flatMap.1 Z;have h1:=((u.oQ.a.t y hy).bs_in q Z).2;have h2:=zs q hq;omega)
    refine⟨⟨b.now,b.fa,b.fl,b.fc,b.ha,b.hl.set i ⟨x.n,x.ta,x.tl,x.tc,H,c,R⟩,b.hc⟩,rfl,rfl,rfl,?_,⟨?_,u.oQ.a.put HA.oQ J O hR zm zt,u.oQ.zp⟩,O.wide (λk hk=>by rw[hk];exact zr)⟩
    ·rw[L];exact(aT.refl b.hl).set i ⟨rfl,rfl,rfl⟩
    ·have:=bF u.oQ.p O zl;rw[this];simp
variable {a:Int}{l f z c:List Hx}{W:Hx}{w w' j:Wd}{b:Bk}{m:Array Va}{v D:Va}{B:Nat}
def kM (frm:Int)(l:List Hx):List Hx:=(l.map (jZ frm)).filter (λx=>!x.tl.isEmpty)
theorem TU (h:(jZ a x).tl≠[]):kM a (l++[x])=kM a l++[jZ a x]:=by
 unfold kM;rw[lmp,lfa];simp[h]
theorem XK (h:(jZ a x).tl=[]):kM a (l++[x])=kM a l:=by
 unfold kM;rw[lmp,lfa];simp[h]
theorem VR (a:Int)(l:List Hx):ln (kM a l)<=ln l:=by
 unfold kM;exact nlt (List.length_filter_le _ _) sm
theorem KK (a:Int)(h:x.Fit):(jZ a x).Fit:=by
 unfold jZ;split;·exact⟨nlt (fW a x.nl) h.nn,sm,h.sn⟩
 ·exact⟨nlt (fW a x.tl) h.tn,nlt (fW a x.nl) h.nn,h.sn⟩
def cX (b:Bk)(n:Int):Int:=if n<0∨10000-b.now<n then 2 else 0
def fK (b:Bk)(n:Int):Int:=if cX b n=0 then b.now+n else b.now
def eU (b:Bk)(n:Int):List Hx:=if cX b n=0 then kM (b.now+n) b.hl else b.hl
theorem iI.butPage {z P:Nat}(h:iI z w b)(i:aU (λk=>k=P) w w')(o:w.heap[P]?=some (.cells m 198)):iI z w' b:=by
 have j:∀{t n:Nat} {f:Nat->Va},t≠198->w.rowIs P t n f->False:=λs g=>by
  obtain⟨c,l,_⟩:=g;rw[o]at l;cases l;exact s rfl
 refine⟨h.f.butRow i (λk _ _ _ g e=>by have a:k=P:=e;subst a;exact j dz g),h.h.butRow i (λk _ _ _ g e=>by have a:k=P:=e;subst a;exact j dz g),λx hx=>(h.t x hx).but i (λq p e=>?_),h.d,h.c,h.cf⟩;have a:q=P:=e;subst a;obtain⟨_,_,r⟩:=(h.t x hx).bs_row q p;exact j dz r
structure PM (Wn:World)(frm:Int)(d0 dn:List Hx)(v:Value)(wr:World):Prop where
 n:aG Wn wr
 h:wr.ownsRow Wn.heap.size 74 3 v dn.length (aJ Hx.cells dn)
 k:aT (kM frm d0) dn
 t:∀x∈dn,fF Wn.heap.size wr x
 d:(dn.flatMap Hx.bs).Nodup
theorem PM.zL {wr w':Wd}(h:PM w a l f v wr)(b:aG wr w'):PM w a l f v w':=
 ⟨aE h.n b,dC h.h b,h.k,λx hx=>(h.t x hx).zL b,h.d⟩
theorem PM.len (h:PM w a l f v w'):ln f<=ln l:=by
 rw[h.k.len];exact VR a l
theorem PM.skip (h:PM w a l f v w')(hx:(jZ a x).tl=[]):PM w a (l++[x]) f v w':=
 ⟨h.n,h.h,by rw[XK hx];exact h.k,h.t,h.d⟩
theorem PM.grow (h:PM j a z c v w') (H:(jZ a x).Like W) (hx:(jZ a x).tl≠[]) (C:fF B w' W) (F:W.bs.Nodup) (A:j.heap.size<=B/\∀y∈c,∀q∈y.bs,q<B)
 (m:w.ownsRow j.heap.size 74 3 D (ln c+1) (aJ Hx.cells c++W.cells)) (s:w'.grownBy w v.ownBlock):
 PM j a (z++[x]) (c++[W]) D w:=by
 have o:∀k,v.ownBlock=some k->∃b,w'.heap[k]?=some (.cells b 74):=λk l=>by
  obtain⟨_,⟨rfl,_⟩|⟨g,cap,b,rfl,_,e,_⟩⟩:=h.h;·simp[Value.ownBlock]at l
  ·simp[Value.ownBlock]at l;subst l;exact⟨b,e⟩
 have G:aJ Hx.cells (c++[W])=aJ Hx.cells c++W.cells:=by rw[eL,lL]
 refine⟨h.n.grown s h.n.size (λk l=>eH h.h l),by rw[G,lla];exact m,by rw[TU hx];exact h.k.snoc H,λy i=>?_,?_⟩
 ·simp only[lma,lms]at i
  have p:fF j.heap.size w' y:=by
   rcases i with i|rfl;·exact h.t y i
   ·exact C.weak A.1
  exact⟨p.t.gkeep s o,p.n.gkeep s o⟩
 ·rw[lfm,lnd];refine⟨h.d,by simpa using F,λq u r J e=>?_⟩;subst e;obtain⟨y,i,u⟩:=List.mem_flatMap.1 u;have h1:=A.2 y i q u;have h2:=(C.bs_in q (by simpa using J)).1;omega
def P8 (P:Nat)(frm:Int)(x:Hx)(Z:Nat)(j:Nat)(v:Value)(w:World):Prop:=
 match j with
 |0=>v=x.val
 |1=>v=(E P 0)
 |2=>v=(E P 0)
 |3=>v=(E P 0)
 |4=>v=(E P 0)
 |5=>v=I frm
 |6=>∃x':Hx,v=x'.val/\(jZ frm x).Like x'/\fF Z w x'/\x'.bs.Nodup
 |_=>True
theorem P8.zL (j:Nat)(v:Va)(w w':Wd)(h:P8 B a x Z j v w)(f:aG w w'):P8 B a x Z j v w':=by
 unfold P8 at h ⊢;split
 all_goals first
  |exact h
  |(obtain⟨g,e,b,c,d⟩:=h;exact⟨g,e,b,c.zL f,d⟩)
  |trivial
theorem V8 (z P:Nat)(b:Bk)(nm:Ba)(i:Nat)(f:Bool)(n:Int)(w:Wd)(hI:mP z P w b nm i f)(yn:z<=w.heap.size)(zl:∀h∈b.hl,h.Fit)(hnh:ln b.hl<=64)(hn0:0<=b.now)(hn1:b.now<=10000):
 aW 223 #[E P 0,I n] w λe w'=>∃l:Bk,e=rt (rB (cX b n))/\l.now=fK b n/\l.fl=b.fl/\aT (eU b n) l.hl/\mP z P w' l nm i f/\aU (λk=>z<=k) w w':=by
 have p0:w.cell? (Y P 0)=some (I b.now):=aB hI.p rfl;have V:Hid _:=hI;have yb:Hid _:=zl;clear hI zl;have zr:cX b n=2->∃l:Bk,Ending.returned (rB 2)=rt (rB (cX b n))/\l.now=fK b n/\l.fl=b.fl/\aT (eU b n) l.hl/\mP z P w l nm i f/\aU (λk=>z<=k) w w:=λh=>⟨b,by rw[h],by unfold fK;rw[h];rfl,rfl,by unfold eU;rw[h];exact aT.refl _,V.oQ,aU.refl _ _⟩;have G:Hid _:=zr;clear zr
 by_cases h1:n<0
 · have zi:decide (n<0)=true:=by simp[h1]
   have N:Hid (cX b n=2):=by
    have:cX b n=2:=by unfold cX;rw[if_pos (.inl h1)]
    exact this
   clear h1
   go_enter func223,ntmps223
   go_wp2_with fail
   go_ret
   first
    |exact G.oQ N.oQ
    |(obtain⟨l,h1,h2⟩:=G.oQ N.oQ;exact⟨h1,l,h2⟩)
 have zi:decide (n<0)=false:=by simp;omega
 by_cases h2:10000-b.now<n
 · have zj:decide (10000-b.now<n)=true:=by simp[h2]
   have N:Hid (cX b n=2):=by
    have:cX b n=2:=by unfold cX;rw[if_pos (.inr h2)]
    exact this
   clear h2
   go_enter func223,ntmps223
   go_wp2_with fail
   go_ret
   first
    |exact G.oQ N.oQ
    |(obtain⟨l,h1,h2⟩:=G.oQ N.oQ;exact⟨h1,l,h2⟩)
 have zj:decide (10000-b.now<n)=false:=by simp;omega
 have N:Hid (cX b n=0):=by
  have:cX b n=0:=by unfold cX;rw[if_neg om]
  exact this
 clear G;obtain⟨j0,yi,yk,yl,ym⟩:=info_parts Tryz.info74;have pf:=jS V.oQ.p;have Pn:=aP V.oQ.p 0 (I (b.now+n));have bN:aU (λk=>k=P) w (w.setCell (Y P 0) (I (b.now+n))):=(aU.refl (λk=>k=P) w).set (g:=P) rfl _ _;have F:Hid _:=V.oQ.a.butPage bN V.oQ.p;have p2:(w.setCell (Y P 0) (I (b.now+n))).cell? (Y P 2)=some (.slice b.ha (ln b.hl) b.hc):=aB Pn rfl;have K:(w.setCell (Y P 0) (I (b.now+n))).heap.size=w.heap.size:=by simp
 obtain⟨X,zh⟩:=cI (w.setCell (Y P 0) (I (b.now+n)));rw[zh]at Pn bN F p2 K;have ze:=aI Pn;have zw:Hid _:=bN;have hzn:z<=X.heap.size:=by rw[K];exact yn
 clear Pn bN K
 go_enter func223,ntmps223
 go_wp2_with fail
 clear zh p0 pf zi zj
 go_loopw [5,37] (λv iv wr=>∃(m T A:List Hx) (vv:Va),Hid (b.hl=m++T)/\v=vv/\iv=I (ln m:Int)/\PM X (b.now+n) m A vv wr) (λ_ iv _=>ln b.hl-(intOf iv).toNat)
 case atStart=>exact⟨[],b.hl,[],_,rfl,rfl,rfl,⟨br _ _,won _ _ _ _,⟨rfl,λk h=>by simp[kM]at h⟩,λx hx=>by simp at hx,sm⟩⟩
 case round=>
  obtain⟨m,T,A,v,hm,rfl,rfl,s⟩:=hrel;have zb:ln b.hl=ln m+ln T:=by rw[hm.out];simp
  have HS:=aI s
  cases T with
  |cons x T=>
   have r:ln m<ln b.hl:=by rw[zb];simp
   have L:b.hl[ln m]=x:=by
    have:b.hl[ln m]?=some x:=by rw[hm.out,lgr (nlq _),nss];rfl
    rw[lge r]at this;exact osi this
   have H:x∈b.hl:=by rw[←L];exact lgm r
   have yj:=yb.oQ x H;obtain⟨g,ha,hgz,hcap,fv,J,hf⟩:=iI.held F.oQ r;have Q:=J.of_block (s.n.block _ J.lt);have e0:=Q.cell (i:=ln m*3+0) om;have e1:=Q.cell (i:=ln m*3+1) om;have e2:=Q.cell (i:=ln m*3+2) om;rw[show fv (ln m*3+0)=.string x.n from by rw[←L];exact hf (ln m) r r 0 _ rfl]at e0;rw[show fv (ln m*3+1)=.slice x.ta (ln x.tl) x.tc from by rw[←L];exact hf (ln m) r r 1 _ rfl]at e1;rw[show fv (ln m*3+2)=.slice x.na (ln x.nl) x.nc from by rw[←L];exact hf (ln m) r r 2 _ rfl]at e2;rw[naz]at e0;have zv:x.In X:=iI.ans F.oQ |>.inn x H
   have zc:Hid (b.hl=(m++[x])++T):=by rw[Hid,hm.out];simp
   have M2:aG wr (wr.alloc (.cells #[.string x.n,.slice x.ta (ln x.tl) x.tc,.slice x.na (ln x.nl) x.nc] 74)):=aC (br _ _) _;have Y2:=wnq wr (.cells #[.string x.n,.slice x.ta (ln x.tl) x.tc,.slice x.na (ln x.nl) x.nc] 74);have hp2:X.heap.size<=wr.heap.size:=s.n.size;have zf:=aI ((zv.zL s.n).zL M2);have p0:(wr.alloc (.cells #[.string x.n,.slice x.ta (ln x.tl) x.tc,.slice x.na (ln x.nl) x.nc] 74)).cell? (Y P 0)=some (I (b.now+n)):=aB (bJ (bJ ze.oQ s.n) M2) rfl;have zs:(wr.alloc (.cells #[.string x.n,.slice x.ta (ln x.tl) x.tc,.slice x.na (ln x.nl) x.nc] 74)).heap.size=wr.heap.size+1:=by simp
   obtain⟨W2,zg⟩:=cI (wr.alloc (.cells #[.string x.n,.slice x.ta (ln x.tl) x.tc,.slice x.na (ln x.nl) x.nc] 74));rw[zg]at M2 Y2 zf p0 zs;have ye:=aI Y2;obtain⟨y0,y1,y2⟩:=aM Y2;have HW:Hid (X.heap.size<=W2.heap.size/\∀y∈A,∀q∈y.bs,q<W2.heap.size):=⟨om,λy hy q hq=>by have:=((s.t y hy).bs_in q hq).2;omega⟩;rw[ha];clear hf J Q L H zv s hm Y2 ha zb;go_wp2_with fail
   clear zg e0 e1 e2;refine pG 7 [some 41,some 42,some 43,some 44,some 45,some 46,some 47] (P8 P (b.now+n) x W2.heap.size) P8.zL ?step ?fin
   case step=>
    intro ii o B w' yh D M O
    match ii,yh with
    |0,_=>
     cases D
     have q0:=ctq M y0;have q1:=ctq M y1;have q2:=ctq M y2;gi_wp2;exact⟨_,uhx,rfl,br _ _⟩
    |1,_=>
     cases D
     gi_wp2;exact⟨_,uhx,rfl,br _ _⟩
    |2,_=>
     cases D
     have d1:B 1=_:=Zq O 1;gi_wp2;exact⟨_,by simp[aH,d1],rfl,br _ _⟩
    |3,_=>
     cases D
     have d2:B 2=_:=Zq O 2;gi_wp2;exact⟨_,by simp[aH,d2],rfl,br _ _⟩
    |4,_=>
     cases D
     have d3:B 3=_:=Zq O 3;gi_wp2;exact⟨_,by simp[aH,d3],rfl,br _ _⟩
    |5,_=>
     cases D
     have d4:B 4=_:=Zq O 4;have c0:=ctq M p0;gi_wp2;exact⟨_,by simp[aH,d4],rfl,br _ _⟩
    |6,_=>
     cases D
     have m:B 0=_:=Zq O 0;have d5:B 5=_:=Zq O 5;simp only[aD,Act.put];rw[m,d5];gi_wp2_with fail
     refine tqx ?_;refine(cw.2 (M7 x (b.now+n) w' (Hx.In.zL zf.oQ M) yj)).mono ?_;rintro e w5 ⟨⟨U,rfl,zq,zt,zk⟩,yg⟩;have yc:Hid (∃c,Value.agg #[.string U.n,.slice U.ta (ln U.tl) U.tc,.slice U.na (ln U.nl) U.nc]=Hx.val c/\(jZ (b.now+n) x).Like c/\fF W2.heap.size w5 c/\c.bs.Nodup):=⟨U,rfl,zq,zt.weak M.size,zk⟩;clear zq zt zk;gi_wp2;exact⟨_,by simp[aH,m,d5],yc.oQ,yg⟩
    |q+7,h=>omega
   case fin=>
    intro B w3 M hp;obtain⟨c,d6,hl,ht,O⟩:∃c,B 6=Hx.val c/\(jZ (b.now+n) x).Like c/\fF W2.heap.size w3 c/\c.bs.Nodup:=hp 6 dz;have M3:=aE M2 M;have Y3:=bJ ye.oQ M;clear hp M y0 y1 y2 p0;simp only[lds,ldz,aD,Act.put];rw[d6];clear d6;generalize B 0=v0,B 1=v1,B 2=v2,B 3=v3,B 4=v4,B 5=v5
    have rk:w3.rowIs wr.heap.size 74 3 (λi=>(#[.string x.n,.slice x.ta (ln x.tl) x.tc,.slice x.na (ln x.nl) x.nc]:Array Va).getD i undef):=⟨_,Y3,rfl,λi hi=>by match i,hi with|0,_=>rfl|1,_=>rfl|2,_=>rfl⟩
    obtain⟨k0,k1,k2⟩:=aM Y3;have kf:=λi=>rk.frozen i;have r4:=((rk.set 0 (.string c.n)).set 1 (.slice c.ta (ln c.tl) c.tc)).set 2 (.slice c.na (ln c.nl) c.nc);have bK:=(((aU.refl (λk=>k=wr.heap.size) w3).set (g:=wr.heap.size) rfl 0 (.string c.n)).set (g:=wr.heap.size) rfl 1 (.slice c.ta (ln c.tl) c.tc)).set (g:=wr.heap.size) rfl 2 (.slice c.na (ln c.nl) c.nc);have c0:(((w3.setCell (Y wr.heap.size 0) (.string c.n)).setCell (Y wr.heap.size 1) (.slice c.ta (ln c.tl) c.tc)).setCell (Y wr.heap.size 2) (.slice c.na (ln c.nl) c.nc)).cell? (Y wr.heap.size 0)=some (.string c.n):=r4.cell (i:=0) dz;have c1:(((w3.setCell (Y wr.heap.size 0) (.string c.n)).setCell (Y wr.heap.size 1) (.slice c.ta (ln c.tl) c.tc)).setCell (Y wr.heap.size 2) (.slice c.na (ln c.nl) c.nc)).cell? (Y wr.heap.size 1)=some (.slice c.ta (ln c.tl) c.tc):=r4.cell (i:=1) dz;have c2:(((w3.setCell (Y wr.heap.size 0) (.string c.n)).setCell (Y wr.heap.size 1) (.slice c.ta (ln c.tl) c.tc)).setCell (Y wr.heap.size 2) (.slice c.na (ln c.nl) c.nc)).cell? (Y wr.heap.size 2)=some (.slice c.na (ln c.nl) c.nc):=r4.cell (i:=2) dz;have M4:=bK.under M3 (nlq _) (λk hk=>by omega);have T4:=ht.but bK (λq hq e=>by have:=(ht.bs_in q hq).1;omega);obtain⟨w4,zu⟩:=cI (((w3.setCell (Y wr.heap.size 0) (.string c.n)).setCell (Y wr.heap.size 1) (.slice c.ta (ln c.tl) c.tc)).setCell (Y wr.heap.size 2) (.slice c.na (ln c.nl) c.nc));rw[zu]at c0 c1 c2 M4 T4;have C:Hid _:=HS.oQ.zL M4;have yd:=aI T4;have W:=aI hl;have zz:=aI O;clear rk r4 bK T4 M3 ht hl O Y3;gi_wp2_with fail
    clear zu k0 k1 k2 kf
    by_cases R:c.tl=[]
    · have zn:ln c.tl=0:=by rw[R];rfl
      have HZ:Hid ((jZ (b.now+n) x).tl=[]):=by rw[Hid,W.oQ.t];exact R
      rw[zn]at c1;clear R zn;go_wp2_with fail
      go_roundw
      case rel=>exact⟨m++[x],T,A,_,zc,rfl,sm,C.oQ.skip HZ.oQ⟩
      case measure=>simp[intOf];omega
    · have hpos:0<ln c.tl:=lpi.2 R
      have HZ:Hid ((jZ (b.now+n) x).tl≠[]):=by rw[Hid,W.oQ.t];exact R
      clear R
      go_wp2_with (at_builtin;refine wpList_append_own _ rfl (.tmp 52) (.tmp 54) 30 rfl X.heap.size 74 j0 _ 3 64 underlying30 yi yk yl ym rfl dz _ (ln A) (aJ Hx.cells A) rfl (C.oQ.h.alloc _) (Y w4.heap.size 0) 1 1 c.cells rfl rfl ?qc1 (lQ c) ?qc3 ?qc4 ?qc5 ?_)
      case qc1=>
       intro j u h;rw[aal,nza]
       match j,h with
       |0,h=>simp[Hx.cells]at h;subst h;exact aB (wnq w4 _) rfl
       |1,h=>simp[Hx.cells]at h;subst h;exact aB (wnq w4 _) rfl
       |2,h=>simp[Hx.cells]at h;subst h;exact aB (wnq w4 _) rfl
      case qc3=>have:=C.oQ.len;unfold maxLen;omega
      case qc4=>have:=C.oQ.len;omega
      case qc5=>have:=C.oQ.n.size;(try simp);omega
      intro v' w6 S zm _;have HN:Hid _:=(C.oQ.zL (aC (br _ _) _)).grow (by have:=W.oQ;exact this) HZ.oQ (yd.oQ.zL (aC (br _ _) _)) zz.oQ HW.oQ S zm;clear S zm;go_wp2_with fail
      go_roundw
      case rel=>exact⟨m++[x],T,A++[c],_,zc,rfl,sm,HN.oQ⟩
      case measure=>simp[intOf];omega
  |nil=>
   have za:b.hl=m:=by simpa using hm.out
   have hge:ln b.hl<=ln m:=by rw[za];exact nlq _
   have D:=iV Hx.cells_length s.h;obtain⟨ah,Z,hv⟩:=bW.slice D;have HO:Hid (bW 74 3 Hx.cells wr X.heap.size (.slice ah (ln A) Z) A):=by rw[hv]at D;exact D
   have zx:Hid (Z<=maxLen):=jY s.h _ _ _ hv;have P3:=bJ ze.oQ s.n;have q2:wr.cell? (Y P 2)=some (.slice b.ha (ln b.hl) b.hc):=aB P3 rfl;have pf:=jS P3;have zd:=aI P3;have zy:=aI za;rw[hv];clear D P3 s hm zb za hv;go_wp2_with fail
   go_ret;have s:=HS.oQ;have P4:=aP zd.oQ 2 (.slice ah (ln A) Z);have b4:aU (λk=>k=P) wr (wr.setCell (Y P 2) (.slice ah (ln A) Z)):=(aU.refl (λk=>k=P) wr).set (g:=P) rfl _ _
   have yf:iI z (wr.setCell (Y P 2) (.slice ah (ln A) Z)) ⟨b.now+n,b.fa,b.fl,b.fc,ah,A,Z⟩:=by
    refine iI.butPage (P:=P) ⟨(iI.zL F.oQ s.n).f,HO.oQ.weak om,λx hx=>(s.t x hx).weak om,s.d,zx.oQ,(iI.zL F.oQ s.n).cf⟩ b4 zd.oQ
   refine⟨⟨b.now+n,b.fa,b.fl,b.fc,ah,A,Z⟩,by rw[N.oQ];rfl,by unfold fK;rw[N.oQ];rfl,rfl,by unfold eU;rw[N.oQ,zy.oQ];exact s.k,⟨P4,yf,V.oQ.zp⟩,?_⟩;have R:=V.oQ.zp;exact((zw.oQ.wide (S':=λk=>z<=k) (λk hk=>by rw[hk];exact R)).trans (aU.below s.n)).trans (b4.wide (λk hk=>by rw[hk];exact R))
theorem LY (v:Va)(w:Wd):(Instr.typeAssert (.iface 170 v) 204 262 true).run prog w=.ok (.tuple #[.nilIface,.bool false]) w:=run_typeAssert_lacksB underlying262 kr kr v _ w
def wishZ:Value:=.agg #[.string ByteArray.empty,I 0,I 0,I 0,I 0,I 0,ms,ms]
def amendZ:Value:=.agg #[.string ByteArray.empty,ms]
def hearZ:Value:=.agg #[.string ByteArray.empty,.bool false]
theorem LZ (v:Va)(w:Wd):(Instr.typeAssert (.iface 170 v) 204 265 true).run prog w=.ok (.tuple #[wishZ,.bool false]) w:=kr
theorem H0 (v:Va)(w:Wd):(Instr.typeAssert (.iface 170 v) 204 267 true).run prog w=.ok (.tuple #[amendZ,.bool false]) w:=kr
theorem LB (v:Va)(w:Wd):(Instr.typeAssert (.iface 170 v) 204 269 true).run prog w=.ok (.tuple #[hearZ,.bool false]) w:=kr
theorem XO (v:Va)(w:Wd):(Instr.typeAssert (.iface 170 v) 204 170 true).run prog w=.ok (.tuple #[v,.bool true]) w:=kr
theorem LG (n:Int)(w:Wd):
 aW 166 #[.iface 170 (.agg #[I n])] w λe w'=>e=rt (.string ⟨#[]⟩)/\w'=w:=by
 have h0:=LY;go_enter func166,ntmps166;go_wp2;go_ret;exact⟨rfl,rfl⟩
theorem XS (z P:Nat)(b:Bk)(nm:Ba)(i:Nat)(f:Bool)(n:Int)(w:Wd)(t:mP z P w b nm i f)(hzw:z<=w.heap.size)(j:∀h∈b.hl,h.Fit)(o:ln b.hl<=64)(l:0<=b.now)(m:b.now<=10000):
 aW 168 #[E P 0,.iface 170 (.agg #[I n])] w λe w'=>∃a:Bk,e=rt (rB (cX b n))/\a.now=fK b n/\a.fl=b.fl/\aT (eU b n) a.hl/\mP z P w' a nm i f/\aU (λk=>z<=k) w w':=by
 have c:aG w (w.alloc (.cells #[I n] 170)):=aC (br _ _) _;have p:(w.alloc (.cells #[I n] 170)).cell? (ya w 0)=some (I n):=aB (wnq w _) rfl;obtain⟨W,u⟩:=cI (w.alloc (.cells #[I n] 170));rw[u]at c p;have v:=c.size;have h0:=LZ;have h1:=H0;have h2:=LB;have h3:=XO;go_enter func168,ntmps168;go_wp2_with fail;refine(V8 z P b nm i f n W (t.zL c) om j o l m).mono ?_;rintro e w1 ⟨a,rfl,q,r,s,d,g⟩;go_wp2_with fail;go_ret;exact⟨a,rfl,q,r,s,d,(aU.below c).trans g⟩
def AmdR (nm:ByteArray)(tl:List Bx)(b':Bk)(i:Nat)(f:Bool)(b'':Bk)(c:Int):Prop:=c=j8 b' nm i f tl/\b''.now=b'.now/\b''.fl=b'.fl/\aT (lU b' nm i f tl) b''.hl
theorem VZ (h:aO b=true):kR Hx.n b.hl=true:=by
 simp only[aO,dU,bX,bat]at h;exact h.2.2.2.1.2
theorem kD (h:aO b=true):ln b.hl<=16:=by
 simp only[aO,iD,bat,dte]at h;exact h.2.2.1
theorem AG (c:List Bx)(ta:Oa)(n:Nat)(T:Nat)(b:Bk)(nm:Ba)(w:Wd)(t:w.cell? (Y T 0)=some (.slice ta (ln c) n))(u:jG w ta c)(hnt:ln c<=1048576)(l:ln b.fl<=1048576)(k:∀h∈b.hl,h.Fit):
 wK 125 #[E T 0] b nm (AmdR nm c) w:=by
 intro b' i f P z W d a hz m s o;have c0:W.cell? (Y T 0)=some (.slice ta (ln c) n):=ctq o t;have h16:=kD d;clear d;show aW 125 #[E P 0,E T 0] W _;go_enter func125,ntmps125;go_wp2_with fail;refine(S7 z P b' nm i f c ta n W s m (λe=>by obtain⟨h,_⟩:=a.hd.1 e;rw[a.lk.len];exact h) (a.lk.fit k) (by rw[a.fl];exact l) (by rw[a.lk.len];omega) (u.zL o) hnt).mono ?_;rintro e w1 ⟨b'',rfl,p,q,r,g,j⟩;go_wp2;go_ret;exact⟨_,_,rfl,⟨rfl,p,q,r⟩,g,j⟩
theorem ED (b:Bk)(nm:Ba)(d:List Bx)(ta:Oa)(l:Nat)(w:Wd)(U:l8 w)(V:Xs 3 Fx.cells w b.fa b.fl)(z:ln b.fl<=1048576)(C:ln b.fl<=b.fc)(y:b.fc<=9223372036854775807)(J:∀f∈b.fl,f.n.size<=9223372036854775807)(W:Xs 3 Hx.cells w b.ha b.hl)(G:ln b.hl<=1048576)(D:∀h∈b.hl,h.In w/\h.Fit)(X:jG w ta d)(hnt:ln d<=1048576):
 aW 81 #[b.val,.string nm,.slice ta (ln d) l] w λe w'=>zT b nm (AmdR nm d) w.heap.size e w'/\aG w w':=by
 have a:aG w (((w.alloc b.obj).alloc (.cells #[.slice ta (ln d) l] 41)).alloc (zo)):=aC (aC (aC (br _ _) _) _) _;have A:=(halq ((w.alloc b.obj).alloc (.cells #[.slice ta (ln d) l] 41)) (zo) (w.alloc b.obj).heap.size sm).trans (wnq (w.alloc b.obj) (.cells #[.slice ta (ln d) l] 41));have q:=wnq ((w.alloc b.obj).alloc (.cells #[.slice ta (ln d) l] 41)) (zo);simp only[wsa]at A q;go_enter func81,ntmps81;go_wp2_with fail;obtain⟨W0,t⟩:=cI (((w.alloc b.obj).alloc (.cells #[.slice ta (ln d) l] 41)).alloc (zo));rw[t]at a A q ⊢;have hz1:w.heap.size+1+1<W0.heap.size:=(cE q);have P:W0.cell? (Y (w.heap.size+1) 0)=some (.slice ta (ln d) l):=aB A rfl;clear t;refine(DY (E (w.heap.size+1) 0) b nm (AmdR nm d) W0 (AG d ta l (w.heap.size+1) b nm W0 P (X.zL a) hnt z (λh m=>(D h m).2)) (U.zL a) (V.zL a) z C y J (W.zL a) G (λh m=>⟨(D h m).1.zL a,(D h m).2⟩)).mono ?_;rintro e w1 ⟨T,p⟩;have R:=aE a p;have B:=bJ q p;obtain⟨M,N,O⟩:=aM B;have rf:=jS B;clear A q B p a P;have L:∀u v x:Va,aU (λk=>k=w.heap.size+1+1) w1 (((w1.setCell (Y (w.heap.size+1+1) 0) u).setCell (Y (w.heap.size+1+1) 1) v).setCell (Y (w.heap.size+1+1) 2) x):=λu v x=>(((aU.refl (λk=>k=w.heap.size+1+1) w1).set (g:=w.heap.size+1+1) rfl _ _).set (g:=w.heap.size+1+1) rfl _ _).set (g:=w.heap.size+1+1) rfl _ _;have s:=λu v x=>(L u v x).under R (nlq _) (λk F=>by rw[F];omega);rcases T with⟨j,rfl⟩|⟨j,b',i,f,r,c,H,K,rfl,S⟩
 ·have o:Hid _:=j;clear j;go_wp2_with fail;exact bpr (v:=.tuple #[Bk.val ⟨0,none,[],0,none,[],0⟩,I 1]) (by simp[results,results81,go_sem,M,N,O]) rfl ⟨.inl ⟨o.oQ,rfl⟩,s _ _ _⟩
 ·have o:Hid _:=j;have Q:Hid _:=K;clear j K;go_wp2_with fail;exact bpr (v:=.tuple #[r.val,I c]) (by simp[results,results81,go_sem,M,N,O]) rfl ⟨.inr ⟨o.oQ,b',i,f,r,c,H,Q.oQ,rfl,(S.but (L _ _ _) (λk F=>by rw[F];omega)).weak om⟩,s _ _ _⟩
variable {C nw:Int}{L m:List Hx}{z:Nat}{a:Va}{nm:Ba}{e:Ending}
def xH (b:Bk)(C nw:Int)(L:List Hx)(z:Nat)(v:Value)(w':World):Prop:=
 (aO b=false/\v=.tuple #[Bk.val ⟨0,none,[],0,none,[],0⟩,I 1])∨(aO b=true/\∃b'':Bk,v=.tuple #[b''.val,I C]/\b''.now=nw/\b''.fl=b.fl/\aT L b''.hl/\iI z w' b'')
def FH (b:Bk)(nw:Int)(L:List Hx)(z:Nat)(v:Value)(w':World):Prop:=
 (aO b=false/\v=Bk.val ⟨0,none,[],0,none,[],0⟩)∨(aO b=true/\∃b'':Bk,v=b''.val/\b''.now=nw/\b''.fl=b.fl/\aT L b''.hl/\iI z w' b'')
theorem xH.zL {w w':Wd}(h:xH b C nw L z v w)(j:aG w w'):xH b C nw L z v w':=by
 rcases h with h|⟨c,a,d,e,f,g,i⟩;·exact .inl h
 ·exact .inr ⟨c,a,d,e,f,g,i.zL j⟩
theorem xH.weak {z z':Nat}(h:xH b C nw L z v w)(j:z'<=z):xH b C nw L z' v w:=by
 rcases h with h|⟨c,a,d,e,f,g,i⟩;·exact .inl h
 ·exact .inr ⟨c,a,d,e,f,g,i.weak j⟩
theorem FH.zL {w w':Wd}(h:FH b nw L z v w)(j:aG w w'):FH b nw L z v w':=by
 rcases h with h|⟨c,a,d,e,f,g,i⟩;·exact .inl h
 ·exact .inr ⟨c,a,d,e,f,g,i.zL j⟩
theorem ZZ {R:Bk->Nat->Bool->Bk->Int->Prop}{C nw:Int}{L:List Hx}(l:∀b' i f a c,aO b=true->lY b nm b' i f->R b' i f a c->c=C/\a.now=nw/\a.fl=b.fl/\aT L a.hl)(h:zT b nm R z e w):∃v,e=rt v/\xH b C nw L z v w:=by
 rcases h with⟨d,e⟩|⟨d,b',i,f,a,c,g,j,e,k⟩;·exact⟨_,e,.inl ⟨d,rfl⟩⟩
 ·obtain⟨rfl,q1,m,n⟩:=l b' i f a c d g j;exact⟨_,e,.inr ⟨d,a,rfl,q1,m,n,k⟩⟩
def LH (b:Bk)(nm:ByteArray)(ev:Value)(T:Nat)(C nw:Int)(L:List Hx)(Z:Nat)(j:Nat)(v:Value)(w:World):Prop:=
 match j with
 |0=>v=b.val
 |1=>v=ev
 |2=>v=.string nm
 |3=>v=.func (.func 167) #[] #[E T 0]
 |4=>xH b C nw L Z v w
 |5=>FH b nw L Z v w
 |6=>v=I (if aO b then C else 1)
 |_=>True
theorem LH.zL (j:Nat)(v:Va)(w w':Wd)(h:LH b nm a z C nw L Z j v w)(c:aG w w'):LH b nm a z C nw L Z j v w':=by
 unfold LH at h ⊢;split
 all_goals first
  |exact h
  |exact xH.zL h c
  |exact FH.zL h c
  |trivial
theorem DX (r:Va)(zc:(∃et eu,r=.iface et eu)∨r=.nilIface)(b:Bk)(nm:Ba)(R:Bk->Nat->Bool->Bk->Int->Prop)(C nw:Int)(L:List Hx)(w:Wd)(hL:l8 w)(hf:Xs 3 Fx.cells w b.fa b.fl)(ze:ln b.fl<=1048576)(zb:ln b.fl<=b.fc)(V:b.fc<=9223372036854775807)(zg:∀f∈b.fl,f.n.size<=9223372036854775807)(hh:Xs 3 Hx.cells w b.ha b.hl)(zf:ln b.hl<=1048576)(hg:∀h∈b.hl,h.In w/\h.Fit)
 (Q:∀W,aG w W->aW 166 #[r] W λe w'=>e=rt (.string nm)/\aG W w')
 (O:∀T W,aG w W->W.cell? (Y T 0)=some r->wK 167 #[E T 0] b nm R W)
 (hR:∀b' i f a c,aO b=true->lY b nm b' i f->R b' i f a c->c=C/\a.now=nw/\a.fl=b.fl/\aT L a.hl):
 aW 128 #[b.val,r] w λe w'=>(∃v,e=rt v/\xH b C nw L w.heap.size v w')/\aG w w':=by
 obtain⟨o,s⟩:=bQ (Obj.cells #[r] 204);have y:aG w (((w.alloc b.obj).alloc o).alloc (zo)):=aC (aC (aC (br _ _) _) _) _;have X:=(halq ((w.alloc b.obj).alloc o) (zo) w.heap.size so).trans ((halq (w.alloc b.obj) o w.heap.size sm).trans (wnq w b.obj));have M:=(halq ((w.alloc b.obj).alloc o) (zo) (w.alloc b.obj).heap.size sm).trans (wnq (w.alloc b.obj) o);have K:=wnq ((w.alloc b.obj).alloc o) (zo);simp only[wsa]at M K
 rcases zc with⟨et,eu,rfl⟩|rfl
 all_goals go_enter func128,ntmps128
 all_goals go_wp2_with fail
 all_goals rw[←s]
 rotate_left
 generalize Value.nilIface=r at*
 rotate_left
 generalize Value.iface et eu=r at*
 all_goals
  obtain⟨W0,U⟩:=cI (((w.alloc b.obj).alloc o).alloc (zo));rw[U]at y X M K ⊢;rw[s]at M;have hz1:w.heap.size+1+1<W0.heap.size:=(cE K);obtain⟨k0,k1,k2⟩:=aM X;have t0:W0.cell? (Y (w.heap.size+1) 0)=some r:=aB M rfl;have Z:Hid _:=K;clear U X M K;refine pG 7 [some 6,some 7,some 8,some 9,some 10,some 11,some 12] (LH b nm r (w.heap.size+1) C nw L W0.heap.size) LH.zL ?step ?fin
  case step=>
   intro ii o l w' zd s j J
   match ii,zd with
   |0,_=>
    cases s
    have k0':=ctq j k0;have k1':=ctq j k1;have k2':=ctq j k2;gi_wp2;exact⟨_,uhx,rfl,br _ _⟩
   |1,_=>
    cases s
    have t0':=ctq j t0;gi_wp2;exact⟨_,uhx,rfl,br _ _⟩
   |2,_=>
    cases s
    have d1:l 1=_:=Zq J 1;simp only[aD,Act.put];rw[d1];gi_wp2_with fail
    refine tqx ?_;refine(cw.2 (Q w' (aE y j))).mono ?_;rintro e w5 ⟨rfl,G⟩;gi_wp2;exact⟨_,by simp[aH,d1],rfl,G⟩
   |3,_=>
    cases s
    gi_wp2;exact⟨_,uhx,rfl,br _ _⟩
   |4,_=>
    cases s
    have d0:l 0=_:=Zq J 0;have d2:l 2=_:=Zq J 2;have d3:l 3=_:=Zq J 3;simp only[aD,Act.put];rw[d0,d2,d3];gi_wp2_with fail
    refine tqx ?_;refine(cw.2 (LW (E (w.heap.size+1) 0) b nm R w' (O _ w' (aE y j) (ctq j t0)) (hL.zL (aE y j)) (hf.zL (aE y j)) ze zb V zg (hh.zL (aE y j)) zf (λh m=>⟨(hg h m).1.zL (aE y j),(hg h m).2⟩))).mono ?_;rintro e w5 ⟨N,G⟩;obtain⟨v5,rfl,S⟩:=ZZ (C:=C) (nw:=nw) (L:=L) (λb' i f a c h1 h2 h3=>hR b' i f a c h1 h2 h3) N;have za:Hid _:=S.weak (z':=W0.heap.size) j.size;clear S N;gi_wp2;exact⟨_,by simp[aH,d0,d2,d3],za.oQ,G⟩
   |5,_=>
    cases s
    have F:xH b C nw L W0.heap.size (l 4) w':=Zq J 4
    rcases F with⟨d,t⟩|⟨d,a,t,A,B,D,H⟩
    ·have p:Hid _:=d
     clear d;gi_wp2;exact⟨_,by simp[aH,t],.inl ⟨p.oQ,rfl⟩,br _ _⟩
    have p:Hid _:=d;have HP:Hid (a.now=nw/\a.fl=b.fl/\aT L a.hl/\iI W0.heap.size w' a):=⟨A,B,D,H⟩;clear d A B D H;gi_wp2;exact⟨_,by simp[aH,t],.inr ⟨p.oQ,a,rfl,HP.oQ⟩,br _ _⟩
   |6,_=>
    cases s
    have F:xH b C nw L W0.heap.size (l 4) w':=Zq J 4
    rcases F with⟨d,t⟩|⟨d,a,t,A,B,D,H⟩
    ·have p:Hid _:=d
     clear d;simp only[aD,Act.put];rw[t];gi_wp2;exact⟨I 1,by simp[aH,t],by unfold LH;rw[p.oQ];rfl,br _ _⟩
    have p:Hid _:=d;clear d A B D H;simp only[aD,Act.put];rw[t];gi_wp2;exact⟨I C,by simp[aH,t],by unfold LH;rw[p.oQ];rfl,br _ _⟩
   |q+7,h=>omega
  case fin=>
   intro l w1 j hp;have z:FH b nw L W0.heap.size (l 5) w1:=hp 5 dz;have d6:l 6=I (if aO b then C else 1):=hp 6 dz;have N1:=aE y j;have R1:=bJ Z.oQ j;obtain⟨r0,r1,r2⟩:=aM R1;have rf:=jS R1;have hS:∀u v x:Va,aU (λk=>k=w.heap.size+1+1) w1 (((w1.setCell (Y (w.heap.size+1+1) 0) u).setCell (Y (w.heap.size+1+1) 1) v).setCell (Y (w.heap.size+1+1) 2) x):=λu v x=>(((aU.refl (λk=>k=w.heap.size+1+1) w1).set (g:=w.heap.size+1+1) rfl _ _).set (g:=w.heap.size+1+1) rfl _ _).set (g:=w.heap.size+1+1) rfl _ _;have P:=λu v x=>(hS u v x).under N1 (nlq _) (λk hk=>by rw[hk];omega);clear hp j R1 k0 k1 k2 t0 Q O hR;simp only[lds,ldz,aD,Act.put];rw[d6];clear d6;generalize l 0=v0,l 1=v1,l 2=v2,l 3=v3,l 4=v4
   rcases z with⟨d,z⟩|⟨d,a,z,A,B,D,H⟩
   ·have p:Hid _:=d
    rw[z,d];clear z d;gi_wp2_with fail
    go_wp2_with fail
    exact bpr (v:=.tuple #[Bk.val ⟨0,none,[],0,none,[],0⟩,I 1]) (by simp[results,results128,go_sem,r0,r1,r2]) rfl ⟨⟨_,rfl,.inl ⟨p.oQ,rfl⟩⟩,P _ _ _⟩
   ·have p:Hid _:=d
    have HP:Hid (a.now=nw/\a.fl=b.fl/\aT L a.hl):=⟨A,B,D⟩;rw[z,d];clear z d A B D;gi_wp2_with fail
    go_wp2_with fail
    exact bpr (v:=.tuple #[a.val,I C]) (by simp[results,results128,go_sem,r0,r1,r2]) rfl ⟨⟨_,rfl,.inr ⟨p.oQ,a,rfl,HP.oQ.1,HP.oQ.2.1,HP.oQ.2.2,(H.but (hS _ _ _) (λk hk=>by rw[hk];omega)).weak om⟩⟩,P _ _ _⟩
def TickR (n:Int)(b':Bk)(_:Nat)(_:Bool)(b'':Bk)(c:Int):Prop:=c=cX b' n/\b''.now=fK b' n/\b''.fl=b'.fl/\aT (eU b' n) b''.hl
theorem LA (h:aO b=true):0<=b.now/\b.now<=10000:=by
 simp only[aO,bat]at h;have a:=h.1;simp only[oL,dte]at a;exact a
theorem VF (n:Int)(T:Nat)(b:Bk)(nm:Ba)(w:Wd)(s:w.cell? (Y T 0)=some (.iface 170 (.agg #[I n])))(k:∀h∈b.hl,h.Fit):
 wK 167 #[E T 0] b nm (TickR n) w:=by
 intro b' i f P z W d a hz l q r;have c0:W.cell? (Y T 0)=some (.iface 170 (.agg #[I n])):=ctq r s;have h16:=kD d;have c:=LA d;clear d;show aW 167 #[E P 0,E T 0] W _;go_enter func167,ntmps167;go_wp2_with fail;refine(XS z P b' nm i f n W q l (a.lk.fit k) (by rw[a.lk.len];omega) (by rw[a.now];exact c.1) (by rw[a.now];exact c.2)).mono ?_;rintro e w1 ⟨b'',rfl,m,o,p,g,j⟩;go_wp2;go_ret;exact⟨_,_,rfl,⟨rfl,m,o,p⟩,g,j⟩
theorem AO (b:Int)(h:aT L m):kM b L=kM b m:=by
 unfold kM;rw[h.map (jZ b) (λa c g=>by unfold jZ;rw[g.n,g.t,g.x])]
theorem xE {b b':Bk}(n:Int)(c:b'.now=b.now)(h:aT b.hl b'.hl):cX b' n=cX b n/\fK b' n=fK b n/\aT (eU b n) (eU b' n):=by
 have a:cX b' n=cX b n:=by unfold cX;rw[c]
 refine⟨a,by unfold fK;rw[a,c],?_⟩;unfold eU;rw[a,c,AO _ h];split;·exact aT.refl _
 ·exact h
theorem IQ (b:Bk)(n:Int)(w:Wd)(hL:l8 w)(hf:Xs 3 Fx.cells w b.fa b.fl)(C:ln b.fl<=1048576)(z:ln b.fl<=b.fc)(s:b.fc<=9223372036854775807)(G:∀f∈b.fl,f.n.size<=9223372036854775807)(hh:Xs 3 Hx.cells w b.ha b.hl)(D:ln b.hl<=1048576)(A:∀h∈b.hl,h.In w/\h.Fit):
 aW 83 #[b.val,I n] w λe w'=>(∃v,e=rt v/\xH b (cX b n) (fK b n) (eU b n) w.heap.size v w')/\aG w w':=by
 have o:aG w ((w.alloc b.obj).alloc (zo)):=aC (aC (br _ _) _) _;have p:=wnq (w.alloc b.obj) (zo);rw[wsa]at p
 go_enter func83,ntmps83
 go_wp2_with fail
 obtain⟨W0,r⟩:=cI ((w.alloc b.obj).alloc (zo));rw[r]at o p ⊢;have hz1:w.heap.size+1<W0.heap.size:=(cE p);clear r
 refine(DX (.iface 170 (.agg #[I n])) (.inl ⟨_,_,rfl⟩) b ⟨#[]⟩ (TickR n) (cX b n) (fK b n) (eU b n) W0 (hL.zL o) (hf.zL o) C z s G (hh.zL o) D (λh m=>⟨(A h m).1.zL o,(A h m).2⟩)
  (λW _=>(LG n W).mono (λe w' h=>⟨h.1,by rw[h.2];exact br _ _⟩))
  (λT W _ y=>VF n T b ⟨#[]⟩ W y (λh m=>(A h m).2))
  (λb' i f a c _ F hr=>by
   obtain⟨V,X,Z,h4⟩:=hr;obtain⟨R,S,U⟩:=xE n F.now F.lk
   exact⟨V.trans R,X.trans S,Z.trans F.fl,U.trans h4⟩)).mono ?_
 rintro e w1 ⟨⟨v,rfl,y⟩,l⟩;have P:=aE o l;have t:=bJ p l;obtain⟨M,N,O⟩:=aM t;have rf:=jS t;clear p t l;have L:∀u v x:Va,aU (λk=>k=w.heap.size+1) w1 (((w1.setCell (Y (w.heap.size+1) 0) u).setCell (Y (w.heap.size+1) 1) v).setCell (Y (w.heap.size+1) 2) x):=λu v x=>(((aU.refl (λk=>k=w.heap.size+1) w1).set (g:=w.heap.size+1) rfl _ _).set (g:=w.heap.size+1) rfl _ _).set (g:=w.heap.size+1) rfl _ _;have q:=λu v x=>(L u v x).under P (nlq _) (λk B=>by rw[B];omega)
 rcases y with⟨d,rfl⟩|⟨d,a,rfl,H,J,K,Q⟩
 ·have j:Hid _:=d
  clear d;go_wp2_with fail
  exact bpr (v:=.tuple #[Bk.val ⟨0,none,[],0,none,[],0⟩,I 1]) (by simp[results,results83,go_sem,M,N,O]) rfl ⟨⟨_,rfl,.inl ⟨j.oQ,rfl⟩⟩,q _ _ _⟩
 ·have j:Hid _:=d
  have HP:Hid (a.now=fK b n/\a.fl=b.fl/\aT (eU b n) a.hl):=⟨H,J,K⟩;clear d H J K;go_wp2_with fail
  exact bpr (v:=.tuple #[a.val,I (cX b n)]) (by simp[results,results83,go_sem,M,N,O]) rfl ⟨⟨_,rfl,.inr ⟨j.oQ,a,rfl,HP.oQ.1,HP.oQ.2.1,HP.oQ.2.2,(Q.but (L _ _ _) (λk B=>by rw[B];omega)).weak om⟩⟩,q _ _ _⟩
variable {a n:Nat}{o:Hx}{f:Nat → Va}
theorem nK (l:List Hx)(nm:Ba):kK l nm=-1∨∃j,j<ln l/\kK l nm=(j:Int):=by
 unfold kK;cases h:l.findIdx? (λh=>h.n.toList==nm.toList)with
 |none=>exact .inl rfl
 |some i=>exact .inr ⟨i,(List.findIdx?_eq_some_iff_getElem.1 h).1,rfl⟩
theorem dS.put (h:dS z w b) (ha:b.ha=some (Y g 0)) (l:z<=g) (r:w.rowIs g 74 n f) (q:aU (λk=>k=g) w w') (C:gD 74 3 Hx.cells w' g a (b.hl.set i o) (ln b.hl)) (d:ln b.hl<=a) (D:b.hc=a) (hx:fF z w' o):
 dS z w' ⟨b.now,b.fa,b.fl,b.fc,b.ha,b.hl.set i o,b.hc⟩:=by
 refine⟨?_,.inr ⟨g,a,by rw[ha,D],l,by simpa using d,by simpa using C⟩,λy m=>?_,h.c⟩
 ·rcases h.f with e|⟨p,s,e,x,A,v,j,B⟩;·exact .inl e
  ·refine .inr ⟨p,s,e,x,A,v,j.of_block (q.block p j.lt (λe=>?_)),B⟩;have u:p=g:=e;subst u;exact absurd (lB r j) dz
 ·rcases List.mem_or_eq_of_mem_set m with m|rfl;·exact(h.t y m).butHeld r q
  ·exact hx
def T10 (X g n cap j:Nat)(na:Value)(i:Nat)(v:Value)(_w:World):Prop:=
 match i with
 |0=>v=(E X 2)
 |1=>v=.slice (some (Y g 0)) n cap
 |2=>v=I (j:Int)
 |3=>v=(E X 2)
 |4=>v=.slice (some (Y g 0)) n cap
 |5=>v=I (j:Int)
 |6=>v=(E g (j*3))
 |7=>v=(E g (j*3+2))
 |8=>v=na
 |_=>True
theorem CH (c:w.heap[a]?=some (.cells #[] 91))(d:z<=a):aN w z (.slice (some (Y a 0)) (ln ([]:List Bx)) 0) []:=
 .inr ⟨a,0,rfl,d,nlq _,λ_=>undef,⟨#[],c,rfl,λi b=>absurd b om⟩,λi b=>absurd b sm⟩
def pQ (b:Bk)(w:World):Prop:=∀W,aG w W->aW 26 #[b.val] W λe w'=>e=rt (.bool (aO b))/\aG W w'
def cG (b:Bk)(nm:ByteArray):Int:=if kK b.hl nm<0 then 6 else(match b.hl[(kK b.hl nm).toNat]? with|some x=>if x.nl=[]then 8 else 0|none=>6)
def dI (b:Bk)(nm:ByteArray)(took:Bool):List Hx:=if cG b nm=0 then(match b.hl[(kK b.hl nm).toNat]? with|some x=>b.hl.set (kK b.hl nm).toNat (kO took x)|none=>b.hl)else b.hl
def uU (b:Bk)(l:List Hx)(c:Int)(z:Nat)(e:Ending)(w':World):Prop:=
 (aO b=false/\e=rt (.tuple #[Bk.val ⟨0,none,[],0,none,[],0⟩,I 1]))∨
 (aO b=true/\∃b':Bk,e=rt (.tuple #[b'.val,I c])/\b'.now=b.now/\b'.fl=b.fl/\aT l b'.hl/\dS z w' b')
theorem vG (b:Bk)(nm:Ba)(took:Bool)(w:Wd)(yq:pQ b w)(hf:Xs 3 Fx.cells w b.fa b.fl)(xa:ln b.fl<=1048576)(hh:Xs 3 Hx.cells w b.ha b.hl)(zz:ln b.hl<=1048576)(hg:∀h∈b.hl,h.In w/\h.Fit):
 aW 29 #[b.val,.string nm,.bool took] w λe w'=>uU b (dI b nm took) (cG b nm) w.heap.size e w'/\aG w w':=by
 have zi:aG w ((w.alloc b.obj).alloc (zo)):=aC (aC (br _ _) _) _;have A0:=(halq (w.alloc b.obj) (zo) w.heap.size sm).trans (wnq w b.obj);have R0:=wnq (w.alloc b.obj) (zo);rw[wsa]at R0;go_enter func29,ntmps29;go_wp2_with fail;obtain⟨W0,yl⟩:=cI ((w.alloc b.obj).alloc (zo));rw[yl]at zi A0 R0 ⊢;have hz1:w.heap.size+1<W0.heap.size:=(cE R0);clear yl;refine(yq W0 zi).mono ?_;rintro e w1 ⟨rfl,Z⟩;have N1:=aE zi Z;have A1:=bJ A0 Z;have R1:=bJ R0 Z;have hs1:=Z.size;clear A0 R0 Z zi yq;have ze:∀(X:Wd) (u v x:Va),aU (λk=>k=w.heap.size+1) X (((X.setCell (Y (w.heap.size+1) 0) u).setCell (Y (w.heap.size+1) 1) v).setCell (Y (w.heap.size+1) 2) x):=λX u v x=>(((aU.refl (λk=>k=w.heap.size+1) X).set (g:=w.heap.size+1) rfl _ _).set (g:=w.heap.size+1) rfl _ _).set (g:=w.heap.size+1) rfl _ _;cases hbk:aO b with
 |false=>
  have zq:Hid _:=hbk;obtain⟨r0,r1,r2⟩:=aM R1;have rf:=jS R1;clear A1 R1 hbk;go_wp2_with fail;exact bpr (v:=.tuple #[Bk.val ⟨0,none,[],0,none,[],0⟩,I 1]) (by simp[results,results29,go_sem,r0,r1,r2]) rfl ⟨.inl ⟨zq.oQ,rfl⟩,(ze w1 _ _ _).under N1 (nlq _) (λk hk=>by rw[hk];omega)⟩
 |true=>
  have zq:Hid _:=hbk;obtain⟨k0,k1,k2⟩:=aM A1;have yd:Hid _:=A1;have yg:Hid _:=R1;clear A1 R1 hbk;go_wp2_with fail;refine(jR b w1 (hf.zL N1) xa (hh.zL N1) zz (λh m=>⟨(hg h m).1.zL N1,(hg h m).2⟩)).mono ?_;rintro e C ⟨⟨x,rfl,e1,e2,yo,hA⟩,za⟩;have zb:aG C (C.alloc x.obj):=aC (br _ _) _;have X3:=wnq C x.obj;have N3:=aE (aE N1 za) zb;have A3:=bJ (bJ yd.oQ za) zb;have zu:Hid _:=bJ (bJ yg.oQ za) zb;have zw:=hA.zL zb;have hs2:=za.size;obtain⟨w3,yr⟩:=cI (C.alloc x.obj);rw[yr]at X3 N3 A3 zu zw;have yj:Hid _:=X3;have ye:Hid _:=A3;have yh:Hid _:=zw;have zf:Hid _:=e1;have zg:Hid _:=e2;have L:Hid _:=yo;have hs3:C.heap.size<w3.heap.size:=(cE X3);clear k0 k1 k2;obtain⟨k0,k1,k2⟩:=aM A3;clear X3 A3 zw hA zb za N1 yd yg e1 e2 yo;go_wp2_with fail;clear yr;refine(BT b nm w3 (hh.zL N3) zz).mono ?_;rintro e r ⟨rfl,O⟩;have N4:=aE N3 O;have X4:=bJ yj.oQ O;have A4:=bJ ye.oQ O;have zh:Hid _:=bJ zu.oQ O;have Q:Hid _:=yh.oQ.zL O;have hs4:=O.size;clear k0 k1 k2 O yj ye zu yh N3
  have P:Hid (∀(X:Wd) (y:Bk),y.now=b.now->y.fl=b.fl->aG w X->dS w1.heap.size X y->∀l c,aT l y.hl->dI b nm took=l->cG b nm=c->uU b (dI b nm took) (cG b nm) w.heap.size (rt (.tuple #[y.val,I c])) (((X.setCell (Y (w.heap.size+1) 0) (I y.now)).setCell (Y (w.heap.size+1) 1) (.slice y.fa (ln y.fl) y.fc)).setCell (Y (w.heap.size+1) 2) (.slice y.ha (ln y.hl) y.hc))/\aG w (((X.setCell (Y (w.heap.size+1) 0) (I y.now)).setCell (Y (w.heap.size+1) 1) (.slice y.fa (ln y.fl) y.fc)).setCell (Y (w.heap.size+1) 2) (.slice y.ha (ln y.hl) y.hc))):=λX y h1 h2 hN hS l c hl el ec=>by
   refine⟨.inr ⟨zq.oQ,y,by rw[ec],h1,h2,by rw[el];exact hl,(hS.but (ze X _ _ _) (λk hk=>by rw[hk];omega)).weak om⟩,(ze X _ _ _).under hN (nlq _) (λk hk=>by rw[hk];omega)⟩
  obtain⟨at0,zj⟩:=cI (kK b.hl nm);obtain⟨r0,r1,r2⟩:=aM zh.oQ;have rf:=jS zh.oQ;obtain⟨x0,x1,x2⟩:=aM X4;rcases nK b.hl nm with h|⟨j,hj,h⟩
  ·have yp:decide (kK b.hl nm<0)=true:=by rw[h];rfl
   have HC:Hid (cG b nm=6/\dI b nm took=b.hl):=by
    have h6:cG b nm=6:=by unfold cG;rw[h];rfl
    exact⟨h6,by unfold dI;rw[h6];rfl⟩
   clear h zj X4 A4;generalize kK b.hl nm=at1 at yp;have zt:Hid _:=N4;go_wp2_with fail;exact bpr (v:=.tuple #[x.val,I 6]) (by simp[results,results29,go_sem,r0,r1,r2]) rfl (P.oQ r x zf.oQ zg.oQ zt.oQ Q.oQ _ _ L.oQ HC.oQ.2 HC.oQ.1)
  ·obtain⟨bl,zn,yt,hc⟩:∃bl zn,b.ha=some (Y bl zn)/\∀k (h:k<ln b.hl),bC w bl (zn+k*3) b.hl[k].cells:=by
    rcases hh with h|h;·rw[h]at hj;simp at hj
    ·exact h
   obtain⟨e0,e1,e2⟩:=gN ((hc j hj).zL N4);have k2:r.cell? (Y w.heap.size 2)=some (.slice (some (Y bl zn)) (ln b.hl) b.hc):=by rw[←yt];exact aB A4 rfl
   have hnn:=(hg b.hl[j] (lgm hj)).2.nn;rw[h];cases hnl:b.hl[j].nl with
   |nil=>
    have HC:Hid (cG b nm=8/\dI b nm took=b.hl):=by
     have h8:cG b nm=8:=by
      unfold cG;rw[h,if_neg om];simp[lge hj,hnl]
     exact⟨h8,by unfold dI;rw[h8];rfl⟩
    rw[hnl]at e2;have zt:Hid _:=N4;clear h zj X4 A4 hc yt hnl e0 e1;go_wp2_with fail;exact bpr (v:=.tuple #[x.val,I 8]) (by simp[results,results29,go_sem,r0,r1,r2]) rfl (P.oQ r x zf.oQ zg.oQ zt.oQ Q.oQ _ _ L.oQ HC.oQ.2 HC.oQ.1)
   |cons y ys=>
    have HC:Hid (cG b nm=0/\dI b nm took=b.hl.set j (kO took b.hl[j])):=by
     have h0:cG b nm=0:=by
      unfold cG;rw[h,if_neg om];simp[lge hj,hnl]
     refine⟨h0,?_⟩;unfold dI;rw[h0,h];simp[lge hj]
    have hlen:0<b.hl[j].nl.length:=by rw[hnl];simp
    have hz2:((b.hl[j].nl.length:Int)==0)=false:=beq_false_of_ne om;have A:j<ln x.hl:=by rw[L.oQ.len];exact hj
    obtain⟨y,hy⟩:=bQ (x.hl[j]);have B:b.hl[j].Like y:=by rw[hy];exact L.oQ.like j hj
    obtain⟨g,s,zl,zm,yn,zp,f,d,zc⟩:∃g s,x.ha=some (Y g 0)/\x.hc=s/\w1.heap.size<=g/\(ln x.hl)<=s/\gD 74 3 Hx.cells r g s x.hl (ln x.hl):=by
     rcases Q.oQ.h with⟨_,e⟩|⟨g,s,e,h1,h2,h3⟩;·rw[e]at A;simp at A
     ·simp only[vsi]at e;exact⟨g,s,e.1,e.2.2,h1,h2,h3⟩
    have D:C.heap.size≠g:=λe=>by
     obtain⟨cs,ym,_⟩:=d;rw[←e,X4]at ym;cases ym
    have H:w.heap.size+1≠g:=om;have HY:Hid _:=hy;have R:Hid _:=zl;have T:=aI zm;have yi:Hid (fF w1.heap.size r y):=Q.oQ.t y (by rw[hy];exact lgm A);have zr:Hid _:=zc;rw[zl,zm]at x2;have f1:=d.cell (i:=j*3+1) om;have f2:=d.cell (i:=j*3+2) om;rw[show f (j*3+1)=.slice y.ta (ln y.tl) y.tc from by rw[hy];exact zc j A A 1 _ rfl]at f1;rw[show f (j*3+2)=.slice y.na (ln y.nl) y.nc from by rw[hy];exact zc j A A 2 _ rfl]at f2;have cf:=λi=>d.frozen i;have hjb:(j:Int)<(ln b.hl:Int):=om;have hjx2:(j:Int)<(ln x.hl:Int):=om;have hxl:ln x.hl<=1048576:=by rw[L.oQ.len];exact zz
    cases took with
    |false=>
     have zs:Hid (∀y':Hx,(kO false b.hl[j]).Like y'->aT (b.hl.set j (kO false b.hl[j])) (x.hl.set j y')):=λy' h=>L.oQ.set j h;have yk:(kO false b.hl[j]).Like ⟨y.n,y.ta,y.tl,y.tc,some (Y r.heap.size 0),[],0⟩:=⟨B.n,B.t,rfl⟩;have yu:Hid _:=yk;have z:aU (λk=>k=g) r r:=aU.refl _ _
     have J:r.rowIs g 74 (s*3) (λi=>if i=j*3+1 then .slice y.ta (ln y.tl) y.tc else f i):=by
      have h2:f=(λi=>if i=j*3+1 then .slice y.ta (ln y.tl) y.tc else f i):=by
       funext i;by_cases e:i=j*3+1
       ·subst e;rw[if_pos rfl,HY.oQ];exact zr.oQ j A A 1 _ rfl
       ·rw[if_neg e]
      rw[←h2];exact d
     have W:=wnq r (.cells #[] 91);have F:=J.alloc (.cells #[] 91);have zd:=F.set (j*3+2) (.slice (some (Y r.heap.size 0)) 0 0);have a:aU (λk=>k=g) r ((r.alloc (.cells #[] 91)).setCell (Y g (j*3+2)) (.slice (some (Y r.heap.size 0)) 0 0)):=(z.trans (aU.below (aC (br _ _) _))).set (g:=g) rfl _ _;have U:=bM W (p:=(Y g (j*3+2))) (by show r.heap.size≠g;have:=J.lt;omega) (.slice (some (Y r.heap.size 0)) 0 0);have cb:=F.cell (i:=j*3+2) om;have zv:=λi=>F.frozen i;have yb:(r.alloc (.cells #[] 91)).cell? (Y C.heap.size 2)=some (.slice (some (Y g 0)) (ln x.hl) s):=(z.trans (aU.below (aC (br _ _) _))).cell (p:=(Y C.heap.size 2)) D x2;have xc:r.cell? (Y C.heap.size 2)=some (.slice (some (Y g 0)) (ln x.hl) s):=z.cell (p:=(Y C.heap.size 2)) D x2;have y0:=a.cell (p:=(Y C.heap.size 0)) D x0;have y1:=a.cell (p:=(Y C.heap.size 1)) D x1;have y2:=a.cell (p:=(Y C.heap.size 2)) D x2;have s0:=a.cell (p:=(Y (w.heap.size+1) 0)) H r0;have s1:=a.cell (p:=(Y (w.heap.size+1) 1)) H r1;have s2:=a.cell (p:=(Y (w.heap.size+1) 2)) H r2;have sB:=bF zh.oQ a H;have xb:r.heap.size ≥ w1.heap.size:=om
     have V:dS w1.heap.size ((r.alloc (.cells #[] 91)).setCell (Y g (j*3+2)) (.slice (some (Y r.heap.size 0)) 0 0)) ⟨x.now,x.fa,x.fl,x.fc,x.ha,x.hl.set j ⟨y.n,y.ta,y.tl,y.tc,some (Y r.heap.size 0),[],0⟩,x.hc⟩:=
      Q.oQ.put R.oQ yn d a (gD.lists (h:=y) zd zr.oQ (by rw[HY.oQ];exact lge A) rfl) zp T.oQ ⟨(yi.oQ.butHeld d a).t,CH U om⟩
     have N:Hid _:=V;have M:Hid _:=a.under N4 (nlq _) (λk hk=>by have yy:k=g:=hk;omega);obtain⟨Wb,zx⟩:=cI (r.alloc (.cells #[] 91));rw[zx]at cb zv yb y0 y1 y2 s0 s1 s2 sB N M;obtain⟨Wc,zy⟩:=cI (Wb.setCell (Y g (j*3+2)) (.slice (some (Y r.heap.size 0)) 0 0));rw[zy]at y0 y1 y2 s0 s1 s2 sB N M;have sf:=jS sB;clear F zd a U W V sB J z x0 x1 x2 r0 r1 r2 rf;clear f1 f2 cf d zc hy zl zm h zj X4 A4 hc yt hnl e0 e1 B yk;go_wp2_with fail;have yz:ln (x.hl.set j (⟨y.n,y.ta,y.tl,y.tc,some (Y r.heap.size 0),[],0⟩:Hx))=ln x.hl:=by simp
     exact bpr (v:=.tuple #[Bk.val ⟨x.now,x.fa,x.fl,x.fc,x.ha,x.hl.set j ⟨y.n,y.ta,y.tl,y.tc,some (Y r.heap.size 0),[],0⟩,x.hc⟩,I 0]) (by simp[results,results29,go_sem,s0,s1,s2,R.oQ,T.oQ]) rfl (by
      have:=P.oQ Wc ⟨x.now,x.fa,x.fl,x.fc,x.ha,x.hl.set j ⟨y.n,y.ta,y.tl,y.tc,some (Y r.heap.size 0),[],0⟩,x.hc⟩ zf.oQ zg.oQ M.oQ N.oQ _ _ (zs.oQ _ yu.oQ) HC.oQ.2 HC.oQ.1;simpa[R.oQ,T.oQ]using this)
    |true=>
     have zs:Hid (∀y':Hx,(kO true b.hl[j]).Like y'->aT (b.hl.set j (kO true b.hl[j])) (x.hl.set j y')):=λy' h=>L.oQ.set j h;have yf:Hid _:=B;have yv:=aI d;clear zc hy zl zm h zj X4 A4 hc yt hnl e0 e1 B d;go_wp2_with fail;have d:=yv.oQ;refine pG 9 [some 32,some 33,some 34,some 35,some 36,some 37,some 38,some 39,some 40] (T10 C.heap.size g (ln x.hl) s j (.slice y.na (ln y.nl) y.nc)) (λ_ _ _ _ h _=>h) ?step ?fin
     case step=>
      intro i o K w' yx yc hB hd;match i,yx with
      |0,_|2,_|3,_|5,_=>
       cases yc;gi_wp2;exact⟨_,uhx,rfl,br _ _⟩
      |1,_=>
       cases yc;have d0:K 0=_:=Zq hd 0;have kx:w'.cell? (Y C.heap.size 2)=some (.slice (some (Y g 0)) (ln x.hl) s):=ctq hB x2;gi_wp2;exact⟨_,by simp[aH,d0],rfl,br _ _⟩
      |4,_=>
       cases yc;have d3:K 3=_:=Zq hd 3;have kx:w'.cell? (Y C.heap.size 2)=some (.slice (some (Y g 0)) (ln x.hl) s):=ctq hB x2;gi_wp2;exact⟨_,by simp[aH,d3],rfl,br _ _⟩
      |6,_=>
       cases yc;have d4:K 4=_:=Zq hd 4;have d5:K 5=_:=Zq hd 5;gi_wp2;exact⟨_,by simp[aH,d4,d5],rfl,br _ _⟩
      |7,_=>
       cases yc;have d6:K 6=_:=Zq hd 6;gi_wp2;exact⟨_,by simp[aH,d6],rfl,br _ _⟩
      |8,_=>
       cases yc;have d7:K 7=_:=Zq hd 7;have kn:w'.cell? (Y g (j*3+2))=some (.slice y.na (ln y.nl) y.nc):=ctq hB f2;gi_wp2;exact⟨_,by simp[aH,d7],rfl,br _ _⟩
      |q+9,h=>omega
     case fin=>
      intro K w5 hB hp;have d1:K 1=_:=hp 1 dz;have d2:K 2=_:=hp 2 dz;have d8:K 8=_:=hp 8 dz;clear hp;simp only[lds,ldz,aD,Act.put];rw[d1,d2,d8];clear d1 d2 d8;generalize K 0=v0,K 3=v3,K 4=v4,K 5=v5,K 6=v6,K 7=v7;have zk:=d.of_block (hB.block _ d.lt);have c5:=zk.cell (i:=j*3+1) om;have cf5:=λi=>zk.frozen i;have z:aU (λk=>k=g) r (w5.setCell (Y g (j*3+1)) (.slice y.na (ln y.nl) y.nc)):=(aU.below (S:=λk=>k=g) hB).set (g:=g) rfl _ _;have J:=zk.set (j*3+1) (.slice y.na (ln y.nl) y.nc);obtain⟨G,yw⟩:=cI (w5.setCell (Y g (j*3+1)) (.slice y.na (ln y.nl) y.nc));rw[yw]at z J;have hs5:=hB.size;have hsa:r.heap.size<=G.heap.size:=z.size;clear f1 f2 cf zk hB;have W:=wnq G (.cells #[] 91);have F:=J.alloc (.cells #[] 91);have zd:=F.set (j*3+2) (.slice (some (Y G.heap.size 0)) 0 0);have a:aU (λk=>k=g) r ((G.alloc (.cells #[] 91)).setCell (Y g (j*3+2)) (.slice (some (Y G.heap.size 0)) 0 0)):=(z.trans (aU.below (aC (br _ _) _))).set (g:=g) rfl _ _;have U:=bM W (p:=(Y g (j*3+2))) (by show G.heap.size≠g;have:=J.lt;omega) (.slice (some (Y G.heap.size 0)) 0 0);have cb:=F.cell (i:=j*3+2) om;have zv:=λi=>F.frozen i;have yb:(G.alloc (.cells #[] 91)).cell? (Y C.heap.size 2)=some (.slice (some (Y g 0)) (ln x.hl) s):=(z.trans (aU.below (aC (br _ _) _))).cell (p:=(Y C.heap.size 2)) D x2;have xc:G.cell? (Y C.heap.size 2)=some (.slice (some (Y g 0)) (ln x.hl) s):=z.cell (p:=(Y C.heap.size 2)) D x2;have y0:=a.cell (p:=(Y C.heap.size 0)) D x0;have y1:=a.cell (p:=(Y C.heap.size 1)) D x1;have y2:=a.cell (p:=(Y C.heap.size 2)) D x2;have s0:=a.cell (p:=(Y (w.heap.size+1) 0)) H r0;have s1:=a.cell (p:=(Y (w.heap.size+1) 1)) H r1;have s2:=a.cell (p:=(Y (w.heap.size+1) 2)) H r2;have sB:=bF zh.oQ a H;have xb:G.heap.size ≥ w1.heap.size:=by have:=z.size;omega
      have V:dS w1.heap.size ((G.alloc (.cells #[] 91)).setCell (Y g (j*3+2)) (.slice (some (Y G.heap.size 0)) 0 0)) ⟨x.now,x.fa,x.fl,x.fc,x.ha,x.hl.set j ⟨y.n,y.na,y.nl,y.nc,some (Y G.heap.size 0),[],0⟩,x.hc⟩:=
       Q.oQ.put R.oQ yn d a (gD.lists (h:=y) zd zr.oQ (by rw[HY.oQ];exact lge A) rfl) zp T.oQ ⟨(yi.oQ.butHeld d a).n,CH U om⟩
      have N:Hid _:=V;have M:Hid _:=a.under N4 (nlq _) (λk hk=>by have yy:k=g:=hk;omega);obtain⟨Wb,zx⟩:=cI (G.alloc (.cells #[] 91));rw[zx]at cb zv yb y0 y1 y2 s0 s1 s2 sB N M;obtain⟨Wc,zy⟩:=cI (Wb.setCell (Y g (j*3+2)) (.slice (some (Y G.heap.size 0)) 0 0));rw[zy]at y0 y1 y2 s0 s1 s2 sB N M;have sf:=jS sB;clear d F zd a U W V sB J z x0 x1 x2 r0 r1 r2 rf;gi_wp2_with fail;go_wp2_with fail;have yz:ln (x.hl.set j (⟨y.n,y.na,y.nl,y.nc,some (Y G.heap.size 0),[],0⟩:Hx))=ln x.hl:=by simp
      exact bpr (v:=.tuple #[Bk.val ⟨x.now,x.fa,x.fl,x.fc,x.ha,x.hl.set j ⟨y.n,y.na,y.nl,y.nc,some (Y G.heap.size 0),[],0⟩,x.hc⟩,I 0]) (by simp[results,results29,go_sem,s0,s1,s2,R.oQ,T.oQ]) rfl (by
       have:=P.oQ Wc ⟨x.now,x.fa,x.fl,x.fc,x.ha,x.hl.set j ⟨y.n,y.na,y.nl,y.nc,some (Y G.heap.size 0),[],0⟩,x.hc⟩ zf.oQ zg.oQ M.oQ N.oQ _ _ (zs.oQ _ ⟨yf.oQ.n,yf.oQ.x,rfl⟩) HC.oQ.2 HC.oQ.1;simpa[R.oQ,T.oQ]using this)
variable {X j:Nat}{c:Va}{b:List Bx}
def dX (b:Bk)(nm:ByteArray)(tl:List Bx):Int:=j8 b nm (kK b.hl nm).toNat (decide (0<=kK b.hl nm)) tl
def gA (b:Bk)(nm:ByteArray)(tl:List Bx):List Hx:=lU b nm (kK b.hl nm).toNat (decide (0<=kK b.hl nm)) tl
def M13 (X g n cap j:Nat)(tv:Value)(Z:Nat)(tl:List Bx)(i:Nat)(v:Value)(w:World):Prop:=
 match i with
 |0=>v=(E X 2)
 |1=>v=.slice (some (Y g 0)) n cap
 |2=>v=I (j:Int)
 |3=>v=tv
 |4=>aN w Z v tl
 |_=>True
theorem M13.zL (i:Nat)(v:Va)(w w':Wd)(h:M13 X g n a j c Z b i v w)(d:aG w w'):M13 X g n a j c Z b i v w':=by
 unfold M13 at h ⊢;split
 all_goals first
  |exact h
  |exact aN.zL h d
  |trivial
theorem tG (b:Bk)(nm:Ba)(a:List Bx)(ta:Oa)(tc:Nat)(w:Wd)(yp:pQ b w)(s:rA w b a ta):
 aW 28 #[b.val,.string nm,.slice ta (ln a) tc] w λe w'=>uU b (gA b nm a) (dX b nm a) w.heap.size e w'/\aG w w':=by
 have zb:aG w ((w.alloc b.obj).alloc (zo)):=aC (aC (br _ _) _) _;have A0:=(halq (w.alloc b.obj) (zo) w.heap.size sm).trans (wnq w b.obj);have R0:=wnq (w.alloc b.obj) (zo);rw[wsa]at R0;go_enter func28,ntmps28;go_wp2_with fail;obtain⟨W0,yk⟩:=cI ((w.alloc b.obj).alloc (zo));rw[yk]at zb A0 R0 ⊢;have hz1:w.heap.size+1<W0.heap.size:=(cE R0);clear yk;refine(yp W0 zb).mono ?_;rintro e w1 ⟨rfl,T⟩;have N1:=aE zb T;have A1:=bJ A0 T;have R1:=bJ R0 T;have hs1:=T.size;clear A0 R0 T zb yp;have za:∀(X:Wd) (u v x:Va),aU (λk=>k=w.heap.size+1) X (((X.setCell (Y (w.heap.size+1) 0) u).setCell (Y (w.heap.size+1) 1) v).setCell (Y (w.heap.size+1) 2) x):=λX u v x=>(((aU.refl (λk=>k=w.heap.size+1) X).set (g:=w.heap.size+1) rfl _ _).set (g:=w.heap.size+1) rfl _ _).set (g:=w.heap.size+1) rfl _ _;cases hbk:aO b with
 |false=>
  have ze:Hid _:=hbk;obtain⟨r0,r1,r2⟩:=aM R1;have rf:=jS R1;clear A1 R1 hbk;go_wp2_with fail;exact bpr (v:=.tuple #[Bk.val ⟨0,none,[],0,none,[],0⟩,I 1]) (by simp[results,results28,go_sem,r0,r1,r2]) rfl ⟨.inl ⟨ze.oQ,rfl⟩,(za w1 _ _ _).under N1 (nlq _) (λk hk=>by rw[hk];omega)⟩
 |true=>
  have ze:Hid _:=hbk;obtain⟨k0,k1,k2⟩:=aM A1;have zt:Hid _:=A1;have yb:Hid _:=R1;clear A1 R1 hbk;go_wp2_with fail;refine(jR b w1 (s.hf.zL N1) s.hnf (s.hh.zL N1) s.hnh (λh m=>⟨(s.hgood h m).1.zL N1,(s.hgood h m).2⟩)).mono ?_;rintro e P ⟨⟨x,rfl,e1,e2,yo,hA⟩,U⟩;have W:aG P (P.alloc x.obj):=aC (br _ _) _;have X3:=wnq P x.obj;have N3:=aE (aE N1 U) W;have A3:=bJ (bJ zt.oQ U) W;have zf:Hid _:=bJ (bJ yb.oQ U) W;have zi:=hA.zL W;have hs2:=U.size;obtain⟨w3,yq⟩:=cI (P.alloc x.obj);rw[yq]at X3 N3 A3 zf zi;have yf:Hid _:=X3;have zu:Hid _:=A3;have yc:Hid _:=zi;have H:Hid _:=e1;have J:Hid _:=e2;have A:Hid _:=yo;have hs3:P.heap.size<w3.heap.size:=(cE X3);clear k0 k1 k2;obtain⟨k0,k1,k2⟩:=aM A3;clear X3 A3 zi hA W U N1 zt yb e1 e2 yo;go_wp2_with fail;clear yq;refine(BT b nm w3 (s.hh.zL N3) s.hnh).mono ?_;rintro e w4 ⟨rfl,F⟩;have N4:=aE N3 F;have X4:=bJ yf.oQ F;have A4:=bJ zu.oQ F;have K:Hid _:=bJ zf.oQ F;have B:Hid _:=yc.oQ.zL F;have hs4:=F.size;clear k0 k1 k2 F yf zu zf yc N3
  have r:Hid (∀(X:Wd) (y:Bk),y.now=b.now->y.fl=b.fl->aG w X->dS w1.heap.size X y->∀l c,aT l y.hl->gA b nm a=l->dX b nm a=c->uU b (gA b nm a) (dX b nm a) w.heap.size (rt (.tuple #[y.val,I c])) (((X.setCell (Y (w.heap.size+1) 0) (I y.now)).setCell (Y (w.heap.size+1) 1) (.slice y.fa (ln y.fl) y.fc)).setCell (Y (w.heap.size+1) 2) (.slice y.ha (ln y.hl) y.hc))/\aG w (((X.setCell (Y (w.heap.size+1) 0) (I y.now)).setCell (Y (w.heap.size+1) 1) (.slice y.fa (ln y.fl) y.fc)).setCell (Y (w.heap.size+1) 2) (.slice y.ha (ln y.hl) y.hc))):=λX y h1 h2 hN hS l c hl el ec=>by
   refine⟨.inr ⟨ze.oQ,y,by rw[ec],h1,h2,by rw[el];exact hl,(hS.but (za X _ _ _) (λk hk=>by rw[hk];omega)).weak om⟩,(za X _ _ _).under hN (nlq _) (λk hk=>by rw[hk];omega)⟩
  obtain⟨k0,k1,k2⟩:=aM A4;have M:Hid _:=X4;have yx:Hid _:=A4;clear X4 A4;obtain⟨yg,zk⟩:=cI (kK b.hl nm);have zv:=aI zk;rw[zk];clear zk;go_wp2_with fail;refine(qJ b.fl a b.fa ta b.fc tc w4 (s.hf.zL N4) (s.ht.zL N4) s.hnf s.hnt).mono ?_;rintro e w5 ⟨rfl,V⟩;obtain⟨v1,zm⟩:∃v,aQ b.fl a=v:=⟨_,rfl⟩;rw[zm];have L:Hid _:=zm;have C:=aE N4 V;have G:=aI V;clear zm k0 k1 k2 V;have A5:=bJ yx.oQ G.oQ;have X5:=bJ M.oQ G.oQ;have R5:=bJ K.oQ G.oQ;obtain⟨r0,r1,r2⟩:=aM R5;have rf:=jS R5;obtain⟨x0,x1,x2⟩:=aM X5;obtain⟨k0,k1,k2⟩:=aM A5;clear A5 X5 R5;cases v1 with
  |false=>
   have z:Hid (dX b nm a=2/\gA b nm a=b.hl):=by
    have R:dX b nm a=2:=by unfold dX j8;rw[L.oQ];rfl
    exact⟨R,by unfold gA lU;unfold dX at R;rw[R];rfl⟩
   have HN:Hid _:=C;clear C;go_wp2_with fail;exact bpr (v:=.tuple #[x.val,I 2]) (by simp[results,results28,go_sem,r0,r1,r2]) rfl (r.oQ w5 x H.oQ J.oQ HN.oQ (B.oQ.zL G.oQ) _ _ A.oQ z.oQ.2 z.oQ.1)
  |true=>
  go_wp2_with fail;refine(CE a ta tc b.now w5 (s.ht.zL C) s.hnt).mono ?_;rintro e w6 ⟨rfl,rfl⟩;obtain⟨v2,zn⟩:∃v,fY b.now a=v:=⟨_,rfl⟩;rw[zn];have Q:Hid _:=zn;clear zn;cases v2 with
  |false=>
   have z:Hid (dX b nm a=2/\gA b nm a=b.hl):=by
    have R:dX b nm a=2:=by unfold dX j8;rw[L.oQ,Q.oQ];rfl
    exact⟨R,by unfold gA lU;unfold dX at R;rw[R];rfl⟩
   have HN:Hid _:=C;clear C;go_wp2_with fail;exact bpr (v:=.tuple #[x.val,I 2]) (by simp[results,results28,go_sem,r0,r1,r2]) rfl (r.oQ w6 x H.oQ J.oQ HN.oQ (B.oQ.zL G.oQ) _ _ A.oQ z.oQ.2 z.oQ.1)
  |true=>
  rcases nK b.hl nm with h|⟨j,hj,h⟩
  ·obtain rfl:yg=-1:=zv.oQ.symm.trans h
   have z:Hid (dX b nm a=6/\gA b nm a=b.hl):=by
    have R:dX b nm a=6:=by unfold dX j8;rw[L.oQ,Q.oQ,h];rfl
    exact⟨R,by unfold gA lU;unfold dX at R;rw[R];rfl⟩
   have HN:Hid _:=C;clear C h;go_wp2_with fail;exact bpr (v:=.tuple #[x.val,I 6]) (by simp[results,results28,go_sem,r0,r1,r2]) rfl (r.oQ w6 x H.oQ J.oQ HN.oQ (B.oQ.zL G.oQ) _ _ A.oQ z.oQ.2 z.oQ.1)
  ·obtain rfl:yg=(j:Int):=zv.oQ.symm.trans h;have hneg:decide ((j:Int)<0)=false:=by simp
   obtain⟨bl,zd,yh,hc⟩:∃bl zd,b.ha=some (Y bl zd)/\∀k (h:k<ln b.hl),bC w bl (zd+k*3) b.hl[k].cells:=by
    rcases s.hh with e|e;·rw[e]at hj;simp at hj
    ·exact e
   obtain⟨e0,e1,e2⟩:=gN ((hc j hj).zL C);rw[yh]at k2;cases hnl:b.hl[j].nl with
   |cons y ys=>
    have z:Hid (dX b nm a=7/\gA b nm a=b.hl):=by
     have h7:dX b nm a=7:=by
      unfold dX j8;rw[L.oQ,Q.oQ,h];simp[lge hj,hnl]
     exact⟨h7,by unfold gA lU;unfold dX at h7;rw[h7];rfl⟩
    have hlen:0<b.hl[j].nl.length:=by rw[hnl];simp
    have HN:Hid _:=C;clear h hc yh hnl e0 e1 C;go_wp2_with fail;exact bpr (v:=.tuple #[x.val,I 7]) (by simp[results,results28,go_sem,r0,r1,r2]) rfl (r.oQ w6 x H.oQ J.oQ HN.oQ (B.oQ.zL G.oQ) _ _ A.oQ z.oQ.2 z.oQ.1)
   |nil=>
   have zz:=aI hnl;rw[hnl]at e2;have hjb:(j:Int)<(ln b.hl:Int):=om;have yy:=aI yh;clear hc hnl e0 e1;go_wp2_with fail;rw[show(Value.agg #[I b.now,.slice b.fa (ln b.fl) b.fc,.slice (some (Y bl zd)) (ln b.hl) b.hc])=b.val from by rw[←yy.oQ]];refine(uA b nm a ta tc w6 (s.zL C)).mono ?_;rintro e w7 ⟨rfl,zl⟩;obtain⟨v3,zp⟩:∃v,kC nm a b.hl=v:=⟨_,rfl⟩;rw[zp];have ye:Hid _:=zp;have C:=aE C zl;have G:=aI (aE G.oQ zl);have X7:=bJ M.oQ G.oQ;have R7:=bJ K.oQ G.oQ;clear zp k0 k1 k2 e2 x0 x1 x2 r0 r1 r2 rf zl;obtain⟨r0,r1,r2⟩:=aM R7;have rf:=jS R7;obtain⟨x0,x1,x2⟩:=aM X7;clear X7 R7;cases v3 with
   |false=>
    have z:Hid (dX b nm a=5/\gA b nm a=b.hl):=by
     have h5:dX b nm a=5:=by
      unfold dX j8;rw[L.oQ,Q.oQ,h];simp[lge hj,zz.oQ,ye.oQ]
     exact⟨h5,by unfold gA lU;unfold dX at h5;rw[h5];rfl⟩
    have HN:Hid _:=C;clear h yh C;go_wp2_with fail;exact bpr (v:=.tuple #[x.val,I 5]) (by simp[results,results28,go_sem,r0,r1,r2]) rfl (r.oQ w7 x H.oQ J.oQ HN.oQ (B.oQ.zL G.oQ) _ _ A.oQ z.oQ.2 z.oQ.1)
   |true=>
   have z:Hid (dX b nm a=0/\gA b nm a=b.hl.set j (IE a b.hl[j])):=by
    have h0:dX b nm a=0:=by
     unfold dX j8;rw[L.oQ,Q.oQ,h];simp[lge hj,zz.oQ,ye.oQ]
    refine⟨h0,?_⟩;unfold gA lU;unfold dX at h0;rw[h0,h];simp[lge hj]
   have N:j<ln x.hl:=by rw[A.oQ.len];exact hj
   obtain⟨y,hy⟩:=bQ (x.hl[j]);have zx:Hid (b.hl[j].Like y):=by rw[hy];exact A.oQ.like j hj
   obtain⟨g,D,zq,zr,xd,yl,f,O,yn⟩:∃g D,x.ha=some (Y g 0)/\x.hc=D/\w1.heap.size<=g/\(ln x.hl)<=D/\gD 74 3 Hx.cells w4 g D x.hl (ln x.hl):=by
    rcases B.oQ.h with⟨_,e⟩|⟨g,D,e,h1,h2,h3⟩;·rw[e]at N;simp at N
    ·simp only[vsi]at e;exact⟨g,D,e.1,e.2.2,h1,h2,h3⟩
   have zj:P.heap.size≠g:=λe=>by
    obtain⟨cs,ym,_⟩:=O;rw[←e,M.oQ]at ym;cases ym
   have zc:w.heap.size+1≠g:=om;have HY:Hid _:=hy;have zg:Hid _:=zq;have zh:=aI zr;have xb:Hid (fF w1.heap.size w4 y):=B.oQ.t y (by rw[hy];exact lgm N);have zw:Hid _:=yn;have yv:w4.cell? (Y P.heap.size 0)=some (I x.now):=aB M.oQ rfl;have yw:w4.cell? (Y P.heap.size 1)=some (.slice x.fa (ln x.fl) x.fc):=aB M.oQ rfl;have zs:w4.cell? (Y P.heap.size 2)=some (.slice x.ha (ln x.hl) x.hc):=aB M.oQ rfl;have yr:w4.cell? (Y (w.heap.size+1) 0)=some (I 0):=aB K.oQ rfl;have yt:w4.cell? (Y (w.heap.size+1) 1)=some (ms):=aB K.oQ rfl;have yu:w4.cell? (Y (w.heap.size+1) 2)=some (ms):=aB K.oQ rfl;rw[zq,zr]at x2 zs;have hjx2:(j:Int)<(ln x.hl:Int):=om;clear yn hy zq zr h yh;go_wp2_with fail;refine pG 5 [some 50,some 51,some 52,some 53,some 54] (M13 P.heap.size g (ln x.hl) D j (.slice ta (ln a) tc) w7.heap.size a) M13.zL ?step ?fin
   case step=>
    intro ii o vs w' xe xf hB hd;match ii,xe with
    |0,_|2,_|3,_=>
     cases xf;gi_wp2;exact⟨_,uhx,rfl,br _ _⟩
    |1,_=>
     cases xf;have d0:vs 0=_:=Zq hd 0;have kx:=ctq hB x2;gi_wp2;exact⟨_,by simp[aH,d0],rfl,br _ _⟩
    |4,_=>
     cases xf;have d3:vs 3=_:=Zq hd 3;simp only[aD,Act.put];rw[d3];gi_wp2_with fail;refine tqx ?_;refine(cw.2 (sH a ta tc w' (s.ht.zL (aE C hB)) s.hnt)).mono ?_;rintro e w5 ⟨⟨v5,rfl,yi⟩,V⟩;have xa:Hid _:=yi.weak (base':=w7.heap.size) hB.size;clear yi;gi_wp2;exact⟨_,by simp[aH,d3],xa.oQ,V⟩
    |q+5,h=>omega
   case fin=>
    intro vs w8 hB hp;have d1:vs 1=_:=hp 1 dz;have d2:vs 2=_:=hp 2 dz;have d4:aN w8 w7.heap.size (vs 4) a:=hp 4 dz;obtain⟨na,nc,hv,_⟩:=d4.slice;rw[hv]at d4;have HO:=aI d4;have M8:=aE G.oQ hB;have Z:=O.of_block (M8.block _ O.lt);have c8:=Z.cell (i:=j*3+2) om;have cf:=λi=>Z.frozen i;have hs7:=G.oQ.size;clear hp d4;simp only[lds,ldz,aD,Act.put];rw[d1,d2,hv];clear d1 d2 hv;generalize vs 0=v0,vs 3=v3;have d:aU (λk=>k=g) w4 (w8.setCell (Y g (j*3+2)) (.slice na (ln a) nc)):=(aU.below (S:=λk=>k=g) M8).set (g:=g) rfl _ _;have h1:=Z.set (j*3+2) (.slice na (ln a) nc)
    have h2:(λi=>if i=j*3+2 then Value.slice na (ln a) nc else f i)=(λi=>if i=j*3+2 then Value.slice na (ln a) nc else if i=j*3+1 then .slice y.ta (ln y.tl) y.tc else f i):=by
     funext i;by_cases e:i=j*3+1
     ·subst e;rw[if_neg om,if_neg om,if_pos rfl,HY.oQ];exact zw.oQ j N N 1 _ rfl
     ·simp[e]
    rw[h2]at h1;have hR:=gD.lists (h:=y) (h':=⟨y.n,y.ta,y.tl,y.tc,na,a,nc⟩) h1 zw.oQ (by rw[HY.oQ];exact lge N) rfl;have y0:=d.cell (p:=(Y P.heap.size 0)) zj yv;have y1:=d.cell (p:=(Y P.heap.size 1)) zj yw;have y2:=d.cell (p:=(Y P.heap.size 2)) zj zs;have s0:=d.cell (p:=(Y (w.heap.size+1) 0)) zc yr;have s1:=d.cell (p:=(Y (w.heap.size+1) 1)) zc yt;have s2:=d.cell (p:=(Y (w.heap.size+1) 2)) zc yu;have sB:=bF K.oQ d zc
    have yj:dS w1.heap.size (w8.setCell (Y g (j*3+2)) (.slice na (ln a) nc)) ⟨x.now,x.fa,x.fl,x.fc,x.ha,x.hl.set j ⟨y.n,y.ta,y.tl,y.tc,na,a,nc⟩,x.hc⟩:=
     B.oQ.put zg.oQ xd O d hR yl zh.oQ ⟨(xb.oQ.butHeld O d).t,((HO.oQ.weak (base':=w1.heap.size) om).setRow Z dz _ _)⟩
    have yd:Hid _:=yj;have zy:Hid _:=d.under N4 (nlq _) (λk hk=>by omega);obtain⟨Wc,xc⟩:=cI (w8.setCell (Y g (j*3+2)) (.slice na (ln a) nc));rw[xc]at y0 y1 y2 s0 s1 s2 sB yd zy;have sf:=jS sB;have yz:Hid (aT (b.hl.set j (IE a b.hl[j])) (x.hl.set j ⟨y.n,y.ta,y.tl,y.tc,na,a,nc⟩)):=A.oQ.set j ⟨zx.oQ.n,zx.oQ.t,rfl⟩;clear d yj sB hR h1 h2 Z hB x0 x1 x2 yv yw zs r0 r1 r2 yr yt yu rf O C M8 N4;gi_wp2_with fail;go_wp2_with fail
    exact bpr (v:=.tuple #[Bk.val ⟨x.now,x.fa,x.fl,x.fc,x.ha,x.hl.set j ⟨y.n,y.ta,y.tl,y.tc,na,a,nc⟩,x.hc⟩,I 0]) (by simp[results,results28,go_sem,s0,s1,s2,zg.oQ,zh.oQ]) rfl (by
     have:=r.oQ Wc ⟨x.now,x.fa,x.fl,x.fc,x.ha,x.hl.set j ⟨y.n,y.ta,y.tl,y.tc,na,a,nc⟩,x.hc⟩ H.oQ J.oQ zy.oQ yd.oQ _ _ yz.oQ z.oQ.2 z.oQ.1;simpa[zg.oQ,zh.oQ]using this)
variable {b:Bk}{l:Array Va}{K:Nat}{a d:Va}{n:List Hx}{k:Int}
def sL (b:Bk)(nw:Int)(l:List Hx)(c:Int)(z:Nat)(e:Ending)(w':World):Prop:=
 (aO b=false/\e=rt (.tuple #[Bk.val ⟨0,none,[],0,none,[],0⟩,I 1]))∨
 (aO b=true/\∃b':Bk,e=rt (.tuple #[b'.val,I c])/\b'.now=nw/\b'.fl=b.fl/\aT l b'.hl/\dS z w' b')
theorem dS.butBook {z P:Nat}(h:dS z w b)(g:aU (λk=>k=P) w w')(m:w.heap[P]?=some (.cells l 32)):dS z w' b:=by
 have i:∀{t n:Nat} {f:Nat->Va},t≠32->w.rowIs P t n f->False:=λp d=>by
  obtain⟨c,j,_⟩:=d;rw[m]at j;cases j;exact p rfl
 refine⟨h.f.butRow g (λk _ _ _ d e=>by have a:k=P:=e;subst a;exact i dz d),h.h.butRow g (λk _ _ _ d e=>by have a:k=P:=e;subst a;exact i dz d),λx hx=>(h.t x hx).but g (λq o e=>?_),h.c⟩;have a:q=P:=e;subst a;obtain⟨_,_,r⟩:=(h.t x hx).bs_row q o;exact i dz r
theorem rowK (h:w.heap[K]?=some (.cells #[a,c,d] 74)):w.rowIs K 74 3 (λi=>(#[a,c,d]:Array Va).getD i undef):=⟨_,h,rfl,λi b=>by match i,b with|0,_=>rfl|1,_=>rfl|2,_=>rfl⟩
theorem WE (a:Int)(h:∀x∈n,x.Fit):∀x∈kM a n,x.Fit:=λx hx=>by
 unfold kM at hx;obtain⟨y,b,rfl⟩:=lmm.1 (List.mem_filter.1 hx).1;exact KK a (h y b)
theorem YZ (h:∀x∈b.hl,x.Fit):∀x∈eU b k,x.Fit:=by
 unfold eU;split;·exact WE _ h
 ·exact h
theorem vO (b:Bk)(n:Int)(w:Wd)(xy:pQ b w)(hf:Xs 3 Fx.cells w b.fa b.fl)(xw:ln b.fl<=1048576)(hh:Xs 3 Hx.cells w b.ha b.hl)(qx:ln b.hl<=1048576)(hg:∀h∈b.hl,h.In w/\h.Fit):
 aW 30 #[b.val,I n] w λe w'=>sL b (fK b n) (eU b n) (cX b n) w.heap.size e w'/\aG w w':=by
 have zx:aG w ((w.alloc b.obj).alloc (zo)):=aC (aC (br _ _) _) _;have A0:=(halq (w.alloc b.obj) (zo) w.heap.size sm).trans (wnq w b.obj);have R0:=wnq (w.alloc b.obj) (zo);rw[wsa]at R0
 go_enter func30,ntmps30
 go_wp2_with fail
 obtain⟨W0,xk⟩:=cI ((w.alloc b.obj).alloc (zo));rw[xk]at zx A0 R0 ⊢;have hz1:w.heap.size+1<W0.heap.size:=(cE R0);clear xk;refine(xy W0 zx).mono ?_;rintro e w1 ⟨rfl,ze⟩;have N1:=aE zx ze;have A1:=bJ A0 ze;have R1:=bJ R0 ze;have hs1:=ze.size;clear A0 R0 ze zx xy;have zn:∀(X:Wd) (u v x:Va),aU (λk=>k=w.heap.size+1) X (((X.setCell (Y (w.heap.size+1) 0) u).setCell (Y (w.heap.size+1) 1) v).setCell (Y (w.heap.size+1) 2) x):=λX u v x=>(((aU.refl (λk=>k=w.heap.size+1) X).set (g:=w.heap.size+1) rfl _ _).set (g:=w.heap.size+1) rfl _ _).set (g:=w.heap.size+1) rfl _ _
 cases hbk:aO b with
 |false=>
  have za:Hid _:=hbk;obtain⟨r0,r1,r2⟩:=aM R1;have rf:=jS R1;clear A1 R1 hbk;go_wp2_with fail
  exact bpr (v:=.tuple #[Bk.val ⟨0,none,[],0,none,[],0⟩,I 1]) (by simp[results,results30,go_sem,r0,r1,r2]) rfl ⟨.inl ⟨za.oQ,rfl⟩,(zn w1 _ _ _).under N1 (nlq _) (λk R=>by rw[R];omega)⟩
 |true=>
  have za:Hid _:=hbk;obtain⟨k0,k1,k2⟩:=aM A1;have yx:Hid _:=A1;have xe:Hid _:=R1;clear A1 R1 hbk;go_wp2_with fail
  refine(jR b w1 (hf.zL N1) xw (hh.zL N1) qx (λh m=>⟨(hg h m).1.zL N1,(hg h m).2⟩)).mono ?_;rintro e s ⟨⟨x,rfl,e1,e2,zk,hA⟩,zf⟩;have zi:aG s (s.alloc x.obj):=aC (br _ _) _;have X3:=wnq s x.obj;have N3:=aE (aE N1 zf) zi;have A3:=bJ (bJ yx.oQ zf) zi;have zs:Hid _:=bJ (bJ xe.oQ zf) zi;have yo:=hA.zL zi;have hs2:=zf.size;obtain⟨w3,qz⟩:=cI (s.alloc x.obj);rw[qz]at X3 N3 A3 zs yo;have zw:Hid _:=X3;have zt:Hid _:=yo;have yz:Hid _:=e1;have zb:Hid _:=e2;have zq:Hid _:=zk;have hs3:s.heap.size<w3.heap.size:=(cE X3);clear k0 k1 k2;obtain⟨k0,k1,k2⟩:=aM A3;clear X3 A3 yo hA zi zf N1 yx xe e1 e2 zk;have xx:=LA za.oQ;have qs:=kD za.oQ;obtain⟨hn0,hn1⟩:=xx
  have Q:Hid (∀(X:Wd) (y:Bk),y.now=fK b n->y.fl=b.fl->aG w X->dS w1.heap.size X y->∀c,aT (eU b n) y.hl->cX b n=c->sL b (fK b n) (eU b n) (cX b n) w.heap.size (rt (.tuple #[y.val,I c])) (((X.setCell (Y (w.heap.size+1) 0) (I y.now)).setCell (Y (w.heap.size+1) 1) (.slice y.fa (ln y.fl) y.fc)).setCell (Y (w.heap.size+1) 2) (.slice y.ha (ln y.hl) y.hc))/\aG w (((X.setCell (Y (w.heap.size+1) 0) (I y.now)).setCell (Y (w.heap.size+1) 1) (.slice y.fa (ln y.fl) y.fc)).setCell (Y (w.heap.size+1) 2) (.slice y.ha (ln y.hl) y.hc))):=λX y h1 h2 hN G c hl ec=>
   ⟨.inr ⟨za.oQ,y,by rw[ec],h1,h2,hl,(G.but (zn X _ _ _) (λk R=>by rw[R];omega)).weak om⟩,(zn X _ _ _).under hN (nlq _) (λk R=>by rw[R];omega)⟩
  obtain⟨x0,x1,x2⟩:=aM zw.oQ;have xf:=jS zw.oQ;obtain⟨r0,r1,r2⟩:=aM zs.oQ;have rf:=jS zs.oQ;have zr:Hid _:=N3;have T:Hid (cX b n=2->x.now=fK b n/\aT (eU b n) x.hl):=λh=>⟨by unfold fK;rw[h];exact yz.oQ,by unfold eU;rw[h];exact zq.oQ⟩;clear N3
  by_cases h1:n<0
  ·have xp:decide (n<0)=true:=by simp[h1]
   have L:Hid (cX b n=2):=by
    have:cX b n=2:=by unfold cX;rw[if_pos (.inl h1)]
    exact this
   clear h1;go_wp2_with fail
   exact bpr (v:=.tuple #[x.val,I 2]) (by simp[results,results30,go_sem,r0,r1,r2]) rfl (Q.oQ w3 x (T.oQ L.oQ).1 zb.oQ zr.oQ zt.oQ _ (T.oQ L.oQ).2 L.oQ)
  have xp:decide (n<0)=false:=by simp;omega
  by_cases h2:10000<n
  ·have xq:decide (10000<n)=true:=by simp[h2]
   have L:Hid (cX b n=2):=by
    have:cX b n=2:=by unfold cX;rw[if_pos (.inr om)]
    exact this
   clear h2;go_wp2_with fail
   exact bpr (v:=.tuple #[x.val,I 2]) (by simp[results,results30,go_sem,r0,r1,r2]) rfl (Q.oQ w3 x (T.oQ L.oQ).1 zb.oQ zr.oQ zt.oQ _ (T.oQ L.oQ).2 L.oQ)
  have xq:decide (10000<n)=false:=by simp;omega
  by_cases h3:10000<b.now+n
  ·have xr:decide (10000<b.now+n)=true:=by simp[h3]
   have L:Hid (cX b n=2):=by
    have:cX b n=2:=by unfold cX;rw[if_pos (.inr om)]
    exact this
   clear h3;go_wp2_with fail
   exact bpr (v:=.tuple #[x.val,I 2]) (by simp[results,results30,go_sem,r0,r1,r2]) rfl (Q.oQ w3 x (T.oQ L.oQ).1 zb.oQ zr.oQ zt.oQ _ (T.oQ L.oQ).2 L.oQ)
  have xr:decide (10000<b.now+n)=false:=by simp;omega
  have L:Hid (cX b n=0):=by
   have:cX b n=0:=by unfold cX;rw[if_neg om]
   exact this
  obtain⟨j0,xt,qf,qg,qh⟩:=info_parts Tryz.info74;have qe:x.now=b.now:=yz.oQ;rw[qe]at x0;have Xn:=aP zw.oQ 0 (I (b.now+n));have bN:aU (λk=>k=s.heap.size) w3 (w3.setCell (Y s.heap.size 0) (I (b.now+n))):=(aU.refl (λk=>k=s.heap.size) w3).set (g:=s.heap.size) rfl _ _;have zd:=aI (zt.oQ.butBook bN zw.oQ);have xg:Hid _:=bF zs.oQ bN (λe=>by omega);have xc:Hid _:=bN.under zr.oQ (nlq _) (λk R=>by omega);have yi:(w3.setCell (Y s.heap.size 0) (I (b.now+n))).heap.size=w3.heap.size:=by simp
  obtain⟨Wn,xm⟩:=cI (w3.setCell (Y s.heap.size 0) (I (b.now+n)));rw[xm]at Xn zd xg xc yi;have xi:=aI Xn;have yw:w1.heap.size<=Wn.heap.size:=om
  have jb:ln x.hl<=16:=by rw[zq.oQ.len];exact qs
  have qj:Hid (∀h∈x.hl,h.Fit):=zq.oQ.fit (λh m=>(hg h m).2);clear Xn bN yi qe;go_wp2_with fail
  clear xm x0 x1 x2 xf r0 r1 r2 rf xp xq xr
  go_loopw [7,8] (λv iv wr=>∃(o rs A:List Hx) (vv:Va),Hid (x.hl=o++rs)/\v=vv/\iv=I (ln o:Int)/\PM Wn (b.now+n) o A vv wr) (λ_ iv _=>ln x.hl-(intOf iv).toNat)
  case atStart=>exact⟨[],x.hl,[],_,rfl,rfl,rfl,⟨aC (br _ _) _,by simpa[aJ]using World.ownsRow_lit (base:=Wn.heap.size) (e:=74) (size:=3) Wn #[] 0 (nlq _) (nz _) rfl,⟨rfl,λk h=>by simp[kM]at h⟩,λx hx=>by simp at hx,sm⟩⟩
  case round=>
   obtain⟨o,rs,A,v,hm,rfl,rfl,G⟩:=hrel;have yu:ln x.hl=ln o+ln rs:=by rw[hm.out];simp
   have HS:=aI G;have Xr:=bJ xi.oQ G.n;have x2:wr.cell? (Y s.heap.size 2)=some (.slice x.ha (ln x.hl) x.hc):=aB Xr rfl
   cases rs with
   |cons y rs=>
    have C:ln o<ln x.hl:=by rw[yu];simp
    have zp:x.hl[ln o]=y:=by
     have:x.hl[ln o]?=some y:=by rw[hm.out,lgr (nlq _),nss];rfl
     rw[lge C]at this;exact osi this
    have zl:y∈x.hl:=by rw[←zp];exact lgm C
    have qd:=qj.oQ y zl
    obtain⟨g,ha,fv,zm,zz,hcp⟩:∃g,x.ha=some (Y g 0)/\∃fv,Wn.rowIs g 74 (x.hc*3) fv/\(∀i (h:i<ln x.hl),i<ln x.hl->∀q u,(x.hl[i].cells)[q]?=some u->fv (i*3+q)=u)/\(ln x.hl)<=x.hc:=by
     rcases zd.oQ.h with⟨_,e⟩|⟨g,cap,e,h1,h2,fv,h3,h4⟩
     ·rw[e]at C;simp at C
     ·simp only[vsi]at e
      obtain⟨e1,_,rfl⟩:=e;exact⟨g,e1,fv,h3,h4,h2⟩
    have yb:=zm.of_block (G.n.block _ zm.lt);have e0:=yb.cell (i:=ln o*3+0) om;have e1:=yb.cell (i:=ln o*3+1) om;have e2:=yb.cell (i:=ln o*3+2) om;rw[show fv (ln o*3+0)=.string y.n from by rw[←zp];exact zz (ln o) C C 0 _ rfl]at e0;rw[show fv (ln o*3+1)=.slice y.ta (ln y.tl) y.tc from by rw[←zp];exact zz (ln o) C C 1 _ rfl]at e1;rw[show fv (ln o*3+2)=.slice y.na (ln y.nl) y.nc from by rw[←zp];exact zz (ln o) C C 2 _ rfl]at e2;rw[naz]at e0;have yv:y.In Wn:=dS.inn zd.oQ y zl;have ym:Hid (x.hl=(o++[y])++rs):=by rw[Hid,hm.out];simp
    have M2:aG wr (wr.alloc (.cells #[.string y.n,.slice y.ta (ln y.tl) y.tc,.slice y.na (ln y.nl) y.nc] 74)):=aC (br _ _) _;have Y2:=wnq wr (.cells #[.string y.n,.slice y.ta (ln y.tl) y.tc,.slice y.na (ln y.nl) y.nc] 74);have hp2:Wn.heap.size<=wr.heap.size:=G.n.size;have qn:=aI (yv.zL G.n);have xh:=aI ((yv.zL G.n).zL M2);have q0:(wr.alloc (.cells #[.string y.n,.slice y.ta (ln y.tl) y.tc,.slice y.na (ln y.nl) y.nc] 74)).cell? (Y s.heap.size 0)=some (I (b.now+n)):=aB (bJ Xr M2) rfl;have qa:(wr.alloc (.cells #[.string y.n,.slice y.ta (ln y.tl) y.tc,.slice y.na (ln y.nl) y.nc] 74)).heap.size=wr.heap.size+1:=by simp
    obtain⟨Z,xl⟩:=cI (wr.alloc (.cells #[.string y.n,.slice y.ta (ln y.tl) y.tc,.slice y.na (ln y.nl) y.nc] 74));rw[xl]at M2 Y2 xh q0 qa;have xj:=aI Y2;have y1:Z.cell? (Y wr.heap.size 1)=some (.slice y.ta (ln y.tl) y.tc):=aB Y2 rfl;have HW:Hid (Wn.heap.size<=Z.heap.size/\∀z∈A,∀q∈z.bs,q<Z.heap.size):=⟨om,λz hz q hq=>by have:=((G.t z hz).bs_in q hq).2;omega⟩;have qw:s.heap.size≠wr.heap.size:=by have:=(cE xi.oQ);omega
    rw[ha]at x2;clear zz zm yb zp zl yv G hm Y2 ha yu Xr;go_wp2_with fail
    clear xl e0 e1 e2 x2;refine(yR y.tl y.ta y.tc (b.now+n) Z xh.oQ.1 qd.tn).mono ?_;rintro e w4 ⟨v1,rfl,U,zg⟩;obtain⟨F,O,rfl,_⟩:=U.slice;obtain⟨la,ys⟩:=cI (ln (bH (b.now+n) y.tl));have zc:=aI ys;have xu:=fW (b.now+n) y.tl;rw[ys]at U xu ⊢;clear ys;have hs4:=zg.size;have r4:=(rowK xj.oQ).of_block (zg.block _ (rowK xj.oQ).lt);have k1:w4.cell? (Y wr.heap.size 1)=some (.slice y.ta (ln y.tl) y.tc):=r4.cell (i:=1) dz;have kf:=λi=>r4.frozen i;have q4:=ctq zg q0;have r5:=r4.set 1 (.slice F la O);have b5:aU (λk=>k=wr.heap.size) w4 (w4.setCell (Y wr.heap.size 1) (.slice F la O)):=(aU.refl (λk=>k=wr.heap.size) w4).set (g:=wr.heap.size) rfl _ _;have k5:(w4.setCell (Y wr.heap.size 1) (.slice F la O)).cell? (Y wr.heap.size 2)=some (.slice y.na (ln y.nl) y.nc):=r5.cell (i:=2) dz;have q5:=b5.cell (p:=(Y s.heap.size 0)) qw q4;have M5:=b5.under (aE M2 zg) (nlq _) (λk R=>by omega);have M:Hid (aN (w4.setCell (Y wr.heap.size 1) (.slice F la O)) Z.heap.size (.slice F la O) (bH (b.now+n) y.tl)):=aN.but U b5 (λu e R=>by have:=U.blkGe (q:=u.block) (by rw[U.adr,e];rfl);omega);have yh:(w4.setCell (Y wr.heap.size 1) (.slice F la O)).heap.size=w4.heap.size:=by simp
    obtain⟨w5,qb⟩:=cI (w4.setCell (Y wr.heap.size 1) (.slice F la O));rw[qb]at r5 k5 q5 M5 M yh;have qy:Z.heap.size<=w5.heap.size:=om
    have xa:=aI (qn.oQ.2.zL M5);have yn:=aI r5;clear y1 q0 q4 r4 r5 b5 U zg yh;go_wp2_with fail
    clear qb k1 kf;refine(yR y.nl y.na y.nc (b.now+n) w5 xa.oQ qd.nn).mono ?_;rintro e w7 ⟨v2,rfl,V,zh⟩;obtain⟨a,d,rfl,_⟩:=V.slice;obtain⟨lb,yt⟩:=cI (ln (bH (b.now+n) y.nl));have H:=aI yt;have xv:=fW (b.now+n) y.nl;rw[yt]at V xv ⊢;clear yt;have hs7:=zh.size;have r7:=yn.oQ.of_block (zh.block _ yn.oQ.lt);have k2:w7.cell? (Y wr.heap.size 2)=some (.slice y.na (ln y.nl) y.nc):=r7.cell (i:=2) dz;have kf:=λi=>r7.frozen i;have b8:aU (λk=>k=wr.heap.size) w7 (w7.setCell (Y wr.heap.size 2) (.slice a lb d)):=(aU.refl (λk=>k=wr.heap.size) w7).set (g:=wr.heap.size) rfl _ _;have r8:=r7.set 2 (.slice a lb d);have jc:(w7.setCell (Y wr.heap.size 2) (.slice a lb d)).cell? (Y wr.heap.size 0)=some (.string y.n):=r8.cell (i:=0) dz;have jd:(w7.setCell (Y wr.heap.size 2) (.slice a lb d)).cell? (Y wr.heap.size 1)=some (.slice F la O):=r8.cell (i:=1) dz;have je:(w7.setCell (Y wr.heap.size 2) (.slice a lb d)).cell? (Y wr.heap.size 2)=some (.slice a lb d):=r8.cell (i:=2) dz;have jf:=λi=>r8.frozen i;have M8:=b8.under (aE M5 zh) (nlq _) (λk R=>by omega);have ye:∀u:Addr,F=some u->Z.heap.size<=u.block:=λu e=>M.oQ.blkGe (q:=u.block) (by rw[M.oQ.adr,e];rfl);have yf:∀u:Addr,F=some u->u.block<w5.heap.size:=λu e=>M.oQ.blkLt (q:=u.block) (by rw[M.oQ.adr,e];rfl);have D:∀u:Addr,a=some u->w5.heap.size<=u.block:=λu e=>V.blkGe (q:=u.block) (by rw[V.adr,e];rfl);have yd:Hid (aN (w7.setCell (Y wr.heap.size 2) (.slice a lb d)) Z.heap.size (.slice F la O) (bH (b.now+n) y.tl)):=aN.but (M.oQ.zL zh) b8 (λu e R=>by have:=ye u e;omega);have N:Hid (aN (w7.setCell (Y wr.heap.size 2) (.slice a lb d)) Z.heap.size (.slice a lb d) (bH (b.now+n) y.nl)):=aN.weak (aN.but V b8 (λu e R=>by have:=D u e;omega)) qy
    have yy:Hid (∀q∈(F.map Addr.block).toList,∀r∈(a.map Addr.block).toList,q≠r):=λq hq r hr e=>by
     cases F with
     |none=>simp at hq
     |some u1=>cases a with
      |none=>simp at hr
      |some u2=>
       simp at hq hr;have h1:=yf u1 rfl;have h2:=D u2 rfl;omega
    obtain⟨K,qc⟩:=cI (w7.setCell (Y wr.heap.size 2) (.slice a lb d));rw[qc]at r8 jc jd je jf M8 yd N;have ql:=aI r8;have hs8:w7.heap.size<=K.heap.size:=by rw[←qc];exact b8.size
    clear q5 k5 r7 r8 b8 V zh M xa yn ye yf D M5;have hsw:=M8.size
    by_cases hz:bH (b.now+n) y.tl=[]
    ·have S:Hid (jZ (b.now+n) y=⟨y.n,none,bH (b.now+n) y.nl,0,none,[],0⟩):=by
      have:jZ (b.now+n) y=⟨y.n,none,bH (b.now+n) y.nl,0,none,[],0⟩:=by unfold jZ;rw[if_pos hz]
      exact this
     obtain rfl:la=0:=by rw[←zc.oQ,hz];rfl
     clear hz xu;have ra:=ql.oQ.set 1 (.slice a lb d);have ba:aU (λk=>k=wr.heap.size) K (K.setCell (Y wr.heap.size 1) (.slice a lb d)):=(aU.refl (λk=>k=wr.heap.size) K).set (g:=wr.heap.size) rfl _ _;obtain⟨B,qt⟩:=cI (K.setCell (Y wr.heap.size 1) (.slice a lb d));rw[qt]at ra ba;have hsa:K.heap.size<=B.heap.size:=ba.size;have hE:=wnq B (.cells #[] 91);have yq:aG B (B.alloc (.cells #[] 91)):=aC (br _ _) _;have rb:=ra.alloc (.cells #[] 91);have cb:(B.alloc (.cells #[] 91)).cell? (Y wr.heap.size 2)=some (.slice a lb d):=rb.cell (i:=2) dz;have qo:=λi=>rb.frozen i;obtain⟨Wb,qu⟩:=cI (B.alloc (.cells #[] 91));rw[qu]at hE yq rb cb qo;have yc:=rb.set 2 (.slice (some (Y B.heap.size 0)) 0 0);have bc:aU (λk=>k=wr.heap.size) K (Wb.setCell (Y wr.heap.size 2) (.slice (some (Y B.heap.size 0)) 0 0)):=(ba.trans (aU.below yq)).set (g:=wr.heap.size) rfl _ _;have qp:(Wb.setCell (Y wr.heap.size 2) (.slice (some (Y B.heap.size 0)) 0 0)).cell? (Y wr.heap.size 0)=some (.string y.n):=yc.cell (i:=0) dz;have qq:(Wb.setCell (Y wr.heap.size 2) (.slice (some (Y B.heap.size 0)) 0 0)).cell? (Y wr.heap.size 1)=some (.slice a lb d):=yc.cell (i:=1) dz;have qr:(Wb.setCell (Y wr.heap.size 2) (.slice (some (Y B.heap.size 0)) 0 0)).cell? (Y wr.heap.size 2)=some (.slice (some (Y B.heap.size 0)) 0 0):=yc.cell (i:=2) dz;have Ec:=bM hE (p:=(Y wr.heap.size 2)) (by show B.heap.size≠wr.heap.size;omega) (.slice (some (Y B.heap.size 0)) 0 0);have Mc:=bc.under M8 (nlq _) (λk R=>by omega);have D:∀u:Addr,a=some u->Z.heap.size<=u.block:=λu e=>N.oQ.blkGe (q:=u.block) (by rw[N.oQ.adr,e];rfl);have yg:∀u:Addr,a=some u->u.block<K.heap.size:=λu e=>N.oQ.blkLt (q:=u.block) (by rw[N.oQ.adr,e];rfl);have zv:Hid (fF Z.heap.size (Wb.setCell (Y wr.heap.size 2) (.slice (some (Y B.heap.size 0)) 0 0)) (⟨y.n,a,bH (b.now+n) y.nl,d,some (Y B.heap.size 0),[],0⟩:Hx)):=⟨by show aN _ _ (.slice a (ln (bH (b.now+n) y.nl)) d) _;rw[H.oQ];exact aN.but N.oQ bc (λu e R=>by have:=D u e;omega),CH Ec om⟩
     have yk:Hid ((⟨y.n,a,bH (b.now+n) y.nl,d,some (Y B.heap.size 0),[],0⟩:Hx).bs.Nodup):=by
      simp only[Hid,Hx.bs];rw[lnd];refine⟨iE _,iE _,λq hq r hr e=>?_⟩
      cases a with
      |none=>simp at hq
      |some u2=>
       simp at hq hr;have:=yg u2 rfl;omega
     obtain⟨Wc,qv⟩:=cI (Wb.setCell (Y wr.heap.size 2) (.slice (some (Y B.heap.size 0)) 0 0));rw[qv]at qp qq qr Mc zv;have l:Hid _:=HS.oQ.zL Mc;have yl:Hid ((jZ (b.now+n) y).Like (⟨y.n,a,bH (b.now+n) y.nl,d,some (Y B.heap.size 0),[],0⟩:Hx)):=by rw[Hid,S.oQ];exact⟨rfl,rfl,rfl⟩
     clear ra ba rb yc bc hE yq Ec D yg M8
     by_cases W:bH (b.now+n) y.nl=[]
     ·have HZ:Hid ((jZ (b.now+n) y).tl=[]):=by rw[Hid,S.oQ];exact W
      obtain rfl:lb=0:=by rw[←H.oQ,W];rfl
      clear W xv;go_wp2_with fail
      go_roundw
      case rel=>exact⟨o++[y],rs,A,_,ym,rfl,sm,l.oQ.skip HZ.oQ⟩
      case measure=>simp[intOf];omega
     ·have xz:0<lb:=by rw[←H.oQ];exact lpi.2 W
      have HZ:Hid ((jZ (b.now+n) y).tl≠[]):=by rw[Hid,S.oQ];exact W
      clear W
      go_wp2_with (at_builtin;refine wpList_append_own _ rfl (.tmp 73) (.tmp 75) 30 rfl Wn.heap.size 74 j0 _ 3 64 underlying30 xt qf qg qh rfl dz _ (ln A) (aJ Hx.cells A) rfl (l.oQ.h.alloc _) (Y Wc.heap.size 0) 1 1 (Hx.cells (⟨y.n,a,bH (b.now+n) y.nl,d,some (Y B.heap.size 0),[],0⟩:Hx)) rfl rfl ?qc1 (lQ _) ?qc3 ?qc4 ?qc5 ?_)
      case qc1=>
       intro j u h;rw[aal,nza]
       match j,h with
       |0,h=>simp[Hx.cells]at h;subst h;exact aB (wnq Wc _) rfl
       |1,h=>simp[Hx.cells]at h;subst h;first|exact aB (wnq Wc _) rfl|(rw[H.oQ];exact aB (wnq Wc _) rfl)|(rw[zc.oQ];exact aB (wnq Wc _) rfl)
       |2,h=>simp[Hx.cells]at h;subst h;first|exact aB (wnq Wc _) rfl|(rw[H.oQ];exact aB (wnq Wc _) rfl)
      case qc3=>have:=l.oQ.len;unfold maxLen;omega
      case qc4=>have:=l.oQ.len;omega
      case qc5=>have:=l.oQ.n.size;(try simp);omega
      intro v' w6 J zj _;have HN:Hid _:=(l.oQ.zL (aC (br _ _) _)).grow yl.oQ HZ.oQ (zv.oQ.zL (aC (br _ _) _)) yk.oQ HW.oQ J zj;clear J zj;go_wp2_with fail
      go_roundw
      case rel=>exact⟨o++[y],rs,A++[(⟨y.n,a,bH (b.now+n) y.nl,d,some (Y B.heap.size 0),[],0⟩:Hx)],_,ym,rfl,sm,HN.oQ⟩
      case measure=>simp[intOf];omega
    ·have S:Hid (jZ (b.now+n) y=⟨y.n,none,bH (b.now+n) y.tl,0,none,bH (b.now+n) y.nl,0⟩):=by
      have:jZ (b.now+n) y=⟨y.n,none,bH (b.now+n) y.tl,0,none,bH (b.now+n) y.nl,0⟩:=by unfold jZ;rw[if_neg hz]
      exact this
     have xz:0<la:=by rw[←zc.oQ];exact lpi.2 hz
     have HZ:Hid ((jZ (b.now+n) y).tl≠[]):=by rw[Hid,S.oQ];exact hz
     have hz0:((la:Int)==0)=false:=beq_false_of_ne om;have zv:Hid (fF Z.heap.size K (⟨y.n,F,bH (b.now+n) y.tl,O,a,bH (b.now+n) y.nl,d⟩:Hx)):=⟨by show aN _ _ (.slice F (ln (bH (b.now+n) y.tl)) O) _;rw[zc.oQ];exact yd.oQ,by show aN _ _ (.slice a (ln (bH (b.now+n) y.nl)) d) _;rw[H.oQ];exact N.oQ⟩
     have yk:Hid ((⟨y.n,F,bH (b.now+n) y.tl,O,a,bH (b.now+n) y.nl,d⟩:Hx).bs.Nodup):=by
      simp only[Hid,Hx.bs];rw[lnd];exact⟨iE _,iE _,λq hq r hr e=>yy.oQ q hq r hr e⟩
     have l:Hid _:=HS.oQ.zL M8;have yl:Hid ((jZ (b.now+n) y).Like (⟨y.n,F,bH (b.now+n) y.tl,O,a,bH (b.now+n) y.nl,d⟩:Hx)):=by rw[Hid,S.oQ];exact⟨rfl,rfl,rfl⟩
     clear hz M8
     go_wp2_with (at_builtin;refine wpList_append_own _ rfl (.tmp 73) (.tmp 75) 30 rfl Wn.heap.size 74 j0 _ 3 64 underlying30 xt qf qg qh rfl dz _ (ln A) (aJ Hx.cells A) rfl (l.oQ.h.alloc _) (Y K.heap.size 0) 1 1 (Hx.cells (⟨y.n,F,bH (b.now+n) y.tl,O,a,bH (b.now+n) y.nl,d⟩:Hx)) rfl rfl ?qc1 (lQ _) ?qc3 ?qc4 ?qc5 ?_)
     case qc1=>
      intro j u h;rw[aal,nza]
      match j,h with
      |0,h=>simp[Hx.cells]at h;subst h;exact aB (wnq K _) rfl
      |1,h=>simp[Hx.cells]at h;subst h;first|exact aB (wnq K _) rfl|(rw[H.oQ];exact aB (wnq K _) rfl)|(rw[zc.oQ];exact aB (wnq K _) rfl)
      |2,h=>simp[Hx.cells]at h;subst h;first|exact aB (wnq K _) rfl|(rw[H.oQ];exact aB (wnq K _) rfl)
     case qc3=>have:=l.oQ.len;unfold maxLen;omega
     case qc4=>have:=l.oQ.len;omega
     case qc5=>have:=l.oQ.n.size;(try simp);omega
     intro v' w6 J zj _;have HN:Hid _:=(l.oQ.zL (aC (br _ _) _)).grow yl.oQ HZ.oQ (zv.oQ.zL (aC (br _ _) _)) yk.oQ HW.oQ J zj;clear J zj;go_wp2_with fail
     go_roundw
     case rel=>exact⟨o++[y],rs,A++[(⟨y.n,F,bH (b.now+n) y.tl,O,a,bH (b.now+n) y.nl,d⟩:Hx)],_,ym,rfl,sm,HN.oQ⟩
     case measure=>simp[intOf];omega
   |nil=>
    have zy:x.hl=o:=by simpa using hm.out
    have hge:ln x.hl<=ln o:=by rw[zy];exact nlq _
    have qi:=iV Hx.cells_length G.h;obtain⟨ah,ch,hv⟩:=bW.slice qi;have HO:Hid (bW 74 3 Hx.cells wr Wn.heap.size (.slice ah (ln A) ch) A):=by rw[hv]at qi;exact qi
    have xf:=jS Xr;have Xs:=aP Xr 2 (.slice ah (ln A) ch);have bs:aU (λk=>k=s.heap.size) wr (wr.setCell (Y s.heap.size 2) (.slice ah (ln A) ch)):=(aU.refl (λk=>k=s.heap.size) wr).set (g:=s.heap.size) rfl _ _;have yp:=bF (bJ xg.oQ G.n) bs (λe=>by omega);have xd:Hid _:=bs.under (aE xc.oQ G.n) (nlq _) (λk R=>by omega);have zu:Hid (dS w1.heap.size (wr.setCell (Y s.heap.size 2) (.slice ah (ln A) ch)) ⟨b.now+n,x.fa,x.fl,x.fc,ah,A,ch⟩):=dS.butBook (P:=s.heap.size) ⟨(zd.oQ.zL G.n).f,HO.oQ.weak yw,λz hz=>(G.t z hz).weak yw,zd.oQ.c⟩ bs Xr
    have xb:Hid (aT (eU b n) A):=by
     have e:kM (b.now+n) b.hl=kM (b.now+n) x.hl:=AO _ zq.oQ;rw[Hid,eU,L.oQ,if_pos rfl,e,zy];exact G.k
    have hzws:w1.heap.size<=wr.heap.size:=nlt yw G.n.size;have yj:(wr.setCell (Y s.heap.size 2) (.slice ah (ln A) ch)).heap.size=wr.heap.size:=by simp
    obtain⟨Ws,xn⟩:=cI (wr.setCell (Y s.heap.size 2) (.slice ah (ln A) ch));rw[xn]at Xs bs yp xd zu yj;have ja:w1.heap.size<=Ws.heap.size:=om
    obtain⟨z0,z1,z2⟩:=aM Xs;have qm:Hid _:=yp;have hdl:ln A<=16:=by have:=G.len;rw[zy]at jb;omega
    rw[hv];clear qi G hm yu zy hv Xr Xs bs yp yj;go_wp2_with fail
    clear xn;refine(jR ⟨b.now+n,x.fa,x.fl,x.fc,ah,A,ch⟩ Ws (bW.xs Fx.cells_length zu.oQ.f) (by show(ln x.fl)<=_;rw[zb.oQ];exact xw) (bW.xs Hx.cells_length zu.oQ.h) (by show(ln A)<=_;omega) (λh m=>⟨dS.inn zu.oQ h m,(xb.oQ.fit (YZ (λh m=>(hg h m).2))) h m⟩)).mono ?_;rintro e wf ⟨⟨y,rfl,e1,e2,zk,hA⟩,yr⟩;have Rf:=bJ qm.oQ yr;obtain⟨r0,r1,r2⟩:=aM Rf;have rf:=jS Rf;have qk:Hid _:=aE xd.oQ yr;have HY:Hid (y.now=fK b n/\y.fl=b.fl/\aT (eU b n) y.hl/\dS w1.heap.size wf y):=⟨by rw[e1];unfold fK;rw[L.oQ];rfl,by rw[e2];exact zb.oQ,xb.oQ.trans zk,hA.weak ja⟩;clear z0 z1 z2 xf x2 Rf e1 e2 zk hA yr;go_wp2_with fail
    exact bpr (v:=.tuple #[y.val,I 0]) (by simp[results,results30,go_sem,r0,r1,r2]) rfl (Q.oQ wf y HY.oQ.1 HY.oQ.2.1 qk.oQ HY.oQ.2.2.2 _ HY.oQ.2.2.1 L.oQ)
