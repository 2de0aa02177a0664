import Derived.Test.YtcdbcliaepcpfaaGreatDoorDq
import Derived.Test.YtcdbcliaepcpfaaGreatDoorCut
import Derived.OwnWalkIn
import Derived.ArgAppend
namespace Go.Proofs.YtcdbcliaepcpfaaGreatDoor
set_option maxRecDepth 100000
set_option maxHeartbeats 4000000
open Go.RowKit Go.Shelf
attribute [local go_sem] Oper.semAt_some
def jC (frm:Int)(x:Hx):Hx:=if bI frm x.tl=[]then⟨x.n,none,bI frm x.nl,0,none,[],0⟩else⟨x.n,none,bI frm x.tl,0,none,bI frm x.nl,0⟩
def F8 (H:Nat)(x:Hx)(frm:Int)(Z:Nat)(j:Nat)(vs:Nat->Value)(w:World):Prop:=
 match j with
 |0=>vs 0=.pointer (some ⟨H,1,none⟩)
 |1=>vs 1=.slice x.ta x.tl.length x.tc
 |2=>vs 2=.int .i64 frm
 |3=>aP w Z (vs 3) (bI frm x.tl)
 |4=>vs 4=.pointer (some ⟨H,2,none⟩)
 |5=>vs 5=.slice x.na x.nl.length x.nc
 |6=>vs 6=.int .i64 frm
 |7=>aP w Z (vs 7) (bI frm x.nl)/\∀q,(vs 3).ownBlock=some q->(vs 7).ownBlock≠some q
 |8=>vs 8=.pointer (some ⟨H,1,none⟩)
 |_=>True
def YJ (j:Nat):List Nat:=if j=7 then[7,3]else[j]
def ZP (_:Nat):Bool:=false
def ZV (_:Nat)(_:Value):Prop:=True
theorem F8.zL {H:Nat}{x:Hx}{a:Int}{Z:Nat}(j:Nat)(c:Nat->Value)(w w':World)(h:F8 H x a Z j c w)(b:aF w w'):F8 H x a Z j c w':=by
 unfold F8 at h ⊢;split
 all_goals first
  |exact h
  |exact aP.zL h b
  |exact⟨aP.zL h.1 b,h.2⟩
  |trivial
theorem F8.loc {H:Nat}{x:Hx}{a:Int}{Z:Nat}(j:Nat)(d b:Nat->Value)(w:World)(c:∀q∈YJ j,d q=b q)(h:F8 H x a Z j d w):F8 H x a Z j b w:=by
 unfold F8 at h ⊢;split at h
 all_goals first
  |(rw[←c _ (by simp[YJ])];exact h)
  |(rw[←c 7 (by simp[YJ]),←c 3 (by simp[YJ])];exact h)
  |trivial
theorem F8.free {H:Nat}{x:Hx}{a:Int}{Z:Nat}(j:Nat)(b:Nat->Value)(w:World)(_:ZP j=true)(_:F8 H x a Z j b w):ZV j (b j):=trivial
def GB8 (W0:World)(H:Nat)(x:Hx)(frm:Int)(vs:Nat->Value)(w':World):Prop:=
 aF W0 w'/\aP w' W0.heap.size (vs 3) (bI frm x.tl)/\aP w' W0.heap.size (vs 7) (bI frm x.nl)/\(∀q,(vs 3).ownBlock=some q->(vs 7).ownBlock≠some q)/\vs 8=.pointer (some ⟨H,1,none⟩)
def G8 (W0:World)(H:Nat)(x:Hx)(frm:Int)(t:Nat)(vs:Nat->Value)(w':World):Prop:=
 ∃w0,GB8 W0 H x frm vs w0/\w'=if t=10 then w0.setCell ⟨H,1,none⟩ (vs 3)else w0
theorem KJ (x:Hx)(a:Int)(w:World)(hx:x.In w)(hf:x.Fit):
 aY 249 #[x.val,.int .i64 a] w λe w'=>(∃x':Hx,e=.returned x'.val/\(jC a x).Like x'/\eS w.heap.size w' x'/\x'.bs.Nodup)/\aF w w':=by
 have N0:aF w ((w.alloc (.cells #[.string x.n,.slice x.ta x.tl.length x.tc,.slice x.na x.nl.length x.nc] 90)).alloc (.cells #[.string ⟨#[]⟩,.slice none 0 0,.slice none 0 0] 90)):=aB (aB (br _ _) _) _;have A0:=(halq (w.alloc (.cells #[.string x.n,.slice x.ta x.tl.length x.tc,.slice x.na x.nl.length x.nc] 90)) (.cells #[.string ⟨#[]⟩,.slice none 0 0,.slice none 0 0] 90) w.heap.size (by simp)).trans (wnq w (.cells #[.string x.n,.slice x.ta x.tl.length x.tc,.slice x.na x.nl.length x.nc] 90));have V:=wnq (w.alloc (.cells #[.string x.n,.slice x.ta x.tl.length x.tc,.slice x.na x.nl.length x.nc] 90)) (.cells #[.string ⟨#[]⟩,.slice none 0 0,.slice none 0 0] 90);rw[wsa]at V;go_enter Tryz.func249,Tryz.ntmps249;go_wp2_with fail;obtain⟨P,X⟩:=cK ((w.alloc (.cells #[.string x.n,.slice x.ta x.tl.length x.tc,.slice x.na x.nl.length x.nc] 90)).alloc (.cells #[.string ⟨#[]⟩,.slice none 0 0,.slice none 0 0] 90));rw[X]at N0 A0 V ⊢;have hz1:w.heap.size+1<P.heap.size:=(bU V);obtain⟨k0,k1,k2⟩:=aM A0;have T:Hid _:=A0;have ze:Hid _:=V;clear X A0 V;refine SZ 4 9 10 [some 5,some 6,some 7,some 8,some 9,some 10,some 11,some 12,some 13] ZP YJ (F8 w.heap.size x a P.heap.size) ZV (G8 P w.heap.size x a) F8.zL F8.loc F8.free ?step ?free ?g0 ?gf ?store ?fin
 case step=>
  intro ii o c w' zu s j l;match ii,zu with
  |0,_|2,_|4,_|6,_|8,_=>
   simp at s;subst s;simp only[aE,Act.put];gi_wp2;exact⟨_,by simp[aH],rfl,br _ _⟩
  |1,_=>
   simp at s;subst s;have d0:c 0=_:=Zq l 0;have zy:=(j.cell (aA k1)).trans k1;simp only[aE,Act.put];rw[d0];gi_wp2;exact⟨_,by simp[aH,d0],rfl,br _ _⟩
  |3,_=>
   simp at s;subst s;have d1:c 1=_:=Zq l 1;have d2:c 2=_:=Zq l 2;simp only[aE,Act.put];rw[d1,d2];gi_wp2_with fail;refine⟨trivial,rfl,?_⟩;refine(cw.2 (xM x.tl x.ta x.tc a w' (hx.1.zL (aC N0 j)) hf.tn)).mono ?_;rintro e w5 ⟨v5,rfl,m,K⟩;have I:Hid _:=aP.weak m (base':=P.heap.size) j.size;clear m;gi_wp2;exact⟨_,by simp[aH,d1,d2],I.oQ,K⟩
  |5,_=>
   simp at s;subst s;have d4:c 4=_:=Zq l 4;have k2':=(j.cell (aA k2)).trans k2;simp only[aE,Act.put];rw[d4];gi_wp2;exact⟨_,by simp[aH,d4],rfl,br _ _⟩
  |7,_=>
   simp at s;subst s;have d5:c 5=_:=Zq l 5;have d6:c 6=_:=Zq l 6;have u:aP w' P.heap.size (c 3) (bI a x.tl):=l { on:=3,ground:=Ground.chain} (by simp) rfl;have zd:Hid (∀q,(c 3).ownBlock=some q->q<w'.heap.size):=λq Q=>u.blkLt Q;clear u;simp only[aE,Act.put];rw[d5,d6];gi_wp2_with fail;refine⟨trivial,rfl,?_⟩;refine(cw.2 (xM x.nl x.na x.nc a w' (hx.2.zL (aC N0 j)) hf.nn)).mono ?_;rintro e w5 ⟨v5,rfl,m,K⟩;have I:Hid _:=aP.weak m (base':=P.heap.size) j.size;have zc:Hid (∀q,(c 3).ownBlock=some q->v5.ownBlock≠some q):=λq Q zx=>Nat.lt_irrefl _ (Nat.lt_of_lt_of_le (zd.oQ q Q) (aP.blkGe m zx));clear m;gi_wp2;exact⟨_,by simp[aH,d5,d6],⟨I.oQ,zc.oQ⟩,K⟩
  |q+9,h=>exact absurd h (by omega)
 case free=>
  intro i o c w' t _ L;cases L
 case g0=>
  intro c w' j hp;exact⟨w',⟨j,hp 3 (by decide) rfl,(hp 7 (by decide) rfl).1,(hp 7 (by decide) rfl).2,hp 8 (by decide) rfl⟩,rfl⟩
 case gf=>
  intro t c w' i v L;cases L
 case store=>
  intro t o c w' h12 h15 s hG l;obtain rfl:t=9:=by omega
  obtain⟨w0,Y,za⟩:=hG;simp at s;subst s;rw[if_neg (by decide)]at za;subst za;have HG:Hid _:=Y;obtain⟨j,u,_,_,W⟩:=Y;obtain⟨z,A,E,_⟩:=u.slice;have O:=bJ T.oQ j;have zy:w'.cell? ⟨w.heap.size,1,none⟩=some (.slice x.ta x.tl.length x.tc):=aJ O rfl;have kf:=iQ O;clear u j O;simp only[aE,Act.put];rw[W,E];gi_wp2;exact⟨undef,by simp[aH,W,E],w',HG.oQ,by rw[if_pos rfl];show _=w'.setCell _ (c 3);rw[E]⟩
 case fin=>
  intro c w1' hG _;obtain⟨F,⟨j,u,h7,l,W⟩,zb⟩:=hG;rw[if_pos rfl]at zb;subst zb;obtain⟨z,A,E,_⟩:=u.slice;obtain⟨d,f,e7,_⟩:=h7.slice;rw[E,e7]at l;rw[E]at u;rw[e7]at h7;have N1:=aC N0 j;have O:=bJ T.oQ j;have R1:=bJ ze.oQ j;have hs1:=j.size;clear k0 k1 k2 j;have H3:=aG u;have H7:=aG h7;have HD:=aG l;have zv:=fK a x.tl;have zw:=fK a x.nl;have htn:=hf.tn;have hnn:=hf.nn
  have D:Hid (∀w2,aT (λk=>k=w.heap.size∨k=w.heap.size+1) F w2->aP w2 w.heap.size (.slice z (bI a x.tl).length A) (bI a x.tl)/\aP w2 w.heap.size (.slice d (bI a x.nl).length f) (bI a x.nl)/\aF w w2):=λw2 hb=>
   ⟨aP.weak (aP.but H3.oQ hb (λy e p=>by have:=H3.oQ.blkGe (q:=y.block) (by rw[H3.oQ.adr,e];rfl);rcases p with p|p<;>omega)) (by omega),aP.weak (aP.but H7.oQ hb (λy e p=>by have:=H7.oQ.blkGe (q:=y.block) (by rw[H7.oQ.adr,e];rfl);rcases p with p|p<;>omega)) (by omega),hb.under N1 (nlq _) (λk p=>by rcases p with rfl|rfl<;>omega)⟩
  have rH:F.rowIs w.heap.size 90 3 (λi=>(#[.string x.n,.slice x.ta x.tl.length x.tc,.slice x.na x.nl.length x.nc]:Array Value).getD i undef):=⟨_,O,rfl,λi hi=>by match i,hi with|0,_=>rfl|1,_=>rfl|2,_=>rfl⟩;have S:F.rowIs (w.heap.size+1) 90 3 (λi=>(#[.string ⟨#[]⟩,.slice none 0 0,.slice none 0 0]:Array Value).getD i undef):=⟨_,R1,rfl,λi hi=>by match i,hi with|0,_=>rfl|1,_=>rfl|2,_=>rfl⟩;simp only[lds,List.drop_zero,aE,Act.put];rw[E,e7,W];clear E e7 W u h7 l O R1;obtain⟨B,M⟩:=cK ((bI a x.tl).length);obtain⟨lb,N⟩:=cK ((bI a x.nl).length);have U:=aG N;have H:=aG M;rw[M]at zv ⊢;rw[N]at zw ⊢;clear M N;have ra:=rH.set 1 (.slice z B A);have C:=ra.set 2 (.slice d lb f);have Z:w.heap.size+1≠w.heap.size:=by omega
  have ba:aT (λk=>k=w.heap.size) F (F.setCell ⟨w.heap.size,1,none⟩ (.slice z B A)):=(aT.refl (λk=>k=w.heap.size) F).set (g:=w.heap.size) rfl _ _;have J:=ba.set (g:=w.heap.size) rfl 2 (.slice d lb f);have zf:(F.setCell ⟨w.heap.size,1,none⟩ (.slice z B A)).cell? ⟨w.heap.size,2,none⟩=some (.slice x.na x.nl.length x.nc):=ra.cell (i:=2) (by decide);have zg:=λi=>ra.frozen i;obtain⟨Wa,zq⟩:=cK (F.setCell ⟨w.heap.size,1,none⟩ (.slice z B A));rw[zq]at C J zf zg ⊢;have zi:(Wa.setCell ⟨w.heap.size,2,none⟩ (.slice d lb f)).cell? ⟨w.heap.size,1,none⟩=some (.slice z B A):=C.cell (i:=1) (by decide);have zj:(Wa.setCell ⟨w.heap.size,2,none⟩ (.slice d lb f)).cell? ⟨w.heap.size,2,none⟩=some (.slice d lb f):=C.cell (i:=2) (by decide);have zh:(Wa.setCell ⟨w.heap.size,2,none⟩ (.slice d lb f)).cell? ⟨w.heap.size,0,none⟩=some (.string x.n):=C.cell (i:=0) (by decide);have zk:=λi=>C.frozen i;obtain⟨Wb,zr⟩:=cK (Wa.setCell ⟨w.heap.size,2,none⟩ (.slice d lb f));rw[zr]at C J zh zi zj zk;clear ra ba rH;generalize c 0=v0;generalize c 1=v1;generalize c 2=v2;generalize c 4=v4;generalize c 5=v5;generalize c 6=v6;by_cases R:bI a x.tl=[]
  ·have HC:Hid (jC a x=⟨x.n,none,bI a x.nl,0,none,[],0⟩):=by
    have:jC a x=⟨x.n,none,bI a x.nl,0,none,[],0⟩:=by unfold jC;rw[if_pos R]
    exact this
   obtain rfl:B=0:=by rw[←H.oQ,R];rfl
   clear R;have rc:=C.set 1 (.slice d lb f);have bc:=J.set (g:=w.heap.size) rfl 1 (.slice d lb f);have zl:(Wb.setCell ⟨w.heap.size,1,none⟩ (.slice d lb f)).cell? ⟨w.heap.size,2,none⟩=some (.slice d lb f):=rc.cell (i:=2) (by decide);have zm:=λi=>rc.frozen i;obtain⟨Wc,zs⟩:=cK (Wb.setCell ⟨w.heap.size,1,none⟩ (.slice d lb f));rw[zs]at rc bc zl zm;have rd:=rc.set 2 (.slice none 0 0);have bd:=bc.set (g:=w.heap.size) rfl 2 (.slice none 0 0);have zn:(Wc.setCell ⟨w.heap.size,2,none⟩ (.slice none 0 0)).cell? ⟨w.heap.size,0,none⟩=some (.string x.n):=rd.cell (i:=0) (by decide);have zo:(Wc.setCell ⟨w.heap.size,2,none⟩ (.slice none 0 0)).cell? ⟨w.heap.size,1,none⟩=some (.slice d lb f):=rd.cell (i:=1) (by decide);have zp:(Wc.setCell ⟨w.heap.size,2,none⟩ (.slice none 0 0)).cell? ⟨w.heap.size,2,none⟩=some (.slice none 0 0):=rd.cell (i:=2) (by decide);have b:=S.of_block (bd.block _ S.lt Z);have r0:=b.cell (i:=0) (by decide);have r1:=b.cell (i:=1) (by decide);have r2:=b.cell (i:=2) (by decide);have rf:=λi=>b.frozen i;obtain⟨Wd,zt⟩:=cK (Wc.setCell ⟨w.heap.size,2,none⟩ (.slice none 0 0));rw[zt]at bd zn zo zp r0 r1 r2 rf;clear C J rc bc rd S b;have G:Hid _:=bd;clear bd;gi_wp2_with fail;go_wp2_with fail
   exact bpr (v:=Hx.val ⟨x.n,d,bI a x.nl,f,none,[],0⟩) (by simp[results,Tryz.results249,go_sem,r0,r1,r2,U.oQ]) rfl (by
    obtain⟨o3,o7,hN⟩:=D.oQ _ ((((G.oQ.wide (S':=λk=>k=w.heap.size∨k=w.heap.size+1) (λk p=>.inl p)).set (g:=w.heap.size+1) (.inr rfl) 0 (.string x.n)).set (g:=w.heap.size+1) (.inr rfl) 1 (.slice d lb f)).set (g:=w.heap.size+1) (.inr rfl) 2 (.slice none 0 0));exact⟨⟨_,rfl,by rw[HC.oQ];exact⟨rfl,rfl,rfl⟩,⟨o7,.inl ⟨rfl,rfl⟩⟩,by simp only[Hx.bs,Option.map_none,Option.toList_none,List.append_nil];exact gN _⟩,hN⟩)
  ·have HC:Hid (jC a x=⟨x.n,none,bI a x.tl,0,none,bI a x.nl,0⟩):=by
    have:jC a x=⟨x.n,none,bI a x.tl,0,none,bI a x.nl,0⟩:=by unfold jC;rw[if_neg R]
    exact this
   have hpos:0<B:=by rw[←H.oQ];exact List.length_pos_iff.2 R
   have hz0:((B:Int)==0)=false:=beq_false_of_ne (by omega);clear R;have b:=S.of_block (J.block _ S.lt Z);have r0:=b.cell (i:=0) (by decide);have r1:=b.cell (i:=1) (by decide);have r2:=b.cell (i:=2) (by decide);have rf:=λi=>b.frozen i;have G:Hid _:=J;clear J C S b;gi_wp2_with fail;go_wp2_with fail
   exact bpr (v:=Hx.val ⟨x.n,z,bI a x.tl,A,d,bI a x.nl,f⟩) (by simp[results,Tryz.results249,go_sem,r0,r1,r2,U.oQ,H.oQ]) rfl (by
    obtain⟨o3,o7,hN⟩:=D.oQ _ ((((G.oQ.wide (S':=λk=>k=w.heap.size∨k=w.heap.size+1) (λk p=>.inl p)).set (g:=w.heap.size+1) (.inr rfl) 0 (.string x.n)).set (g:=w.heap.size+1) (.inr rfl) 1 (.slice z B A)).set (g:=w.heap.size+1) (.inr rfl) 2 (.slice d lb f));refine⟨⟨_,rfl,by rw[HC.oQ];exact⟨rfl,rfl,rfl⟩,⟨o3,o7⟩,?_⟩,hN⟩;have l:=HD.oQ;rw[H3.oQ.adr,H7.oQ.adr]at l;simp only[Hx.bs];rw[List.nodup_append];refine⟨gN _,gN _,λq Q r hr e=>?_⟩;subst e;simp only[Option.mem_toList]at Q hr;exact l q Q hr)
set_option maxHeartbeats 8000000
theorem rW:∀(l:List Hx) (i:Nat) (b:Hx) (s r:List Nat) (h:i<l.length),b.bs=s++r->s.Sublist l[i].bs->∃m,m.Sublist (l.flatMap Hx.bs)/\((l.set i b).flatMap Hx.bs).Perm (m++r)
 |[],_,_,_,_,h,_,_=>by simp at h
 |a::q,0,b,s,r,_,e,hs=>by
  refine⟨s++q.flatMap Hx.bs,?_,?_⟩
  ·simp only[List.flatMap_cons];exact List.Sublist.append hs (List.Sublist.refl _)
  ·simp only[List.set_cons_zero,List.flatMap_cons,e,List.append_assoc];exact List.Perm.append_left s List.perm_append_comm
 |a::q,i+1,b,s,r,h,e,hs=>by
  obtain⟨m,c,d⟩:=rW q i b s r (by simpa using h) e (by simpa using hs);refine⟨a.bs++m,?_,?_⟩
  ·simp only[List.flatMap_cons];exact List.Sublist.append (List.Sublist.refl _) c
  ·simp only[List.set_cons_succ,List.flatMap_cons,List.append_assoc];exact List.Perm.append_left _ d
theorem FQ (l:List Hx)(i:Nat)(b:Hx)(s r:List Nat)(h:i<l.length)(e:b.bs=s++r)(o:s.Sublist l[i].bs)(j:(l.flatMap Hx.bs).Nodup)(n:r.Nodup)(k:∀q∈r,q∉l.flatMap Hx.bs):((l.set i b).flatMap Hx.bs).Nodup:=by
 obtain⟨m,d,f⟩:=rW l i b s r h e o;rw[f.nodup_iff,List.nodup_append];exact⟨j.sublist d,n,λa ha c g e=>k c g (e▸d.subset ha)⟩
theorem aU.refl (l:List Hx):aU l l:=⟨rfl,λ_ _=>⟨rfl,rfl,rfl⟩⟩
theorem aU.set {l m:List Hx}(h:aU l m)(i:Nat){a b:Hx}(g:a.Like b):aU (l.set i a) (m.set i b):=by
 refine⟨by simp[h.len],λk c=>?_⟩;by_cases e:i=k
 ·subst e;rw[List.getElem_set_self,List.getElem_set_self];exact g
 ·rw[List.getElem_set_ne e,List.getElem_set_ne e];exact h.like k (by simpa using c)
def EH (tl:List Bx)(x:Hx):Hx:=⟨x.n,x.ta,x.tl,x.tc,none,tl,0⟩
def jH (b:Bk)(nm:ByteArray)(i:Nat)(f:Bool)(tl:List Bx):Int:=
 if(aQ b.fl tl&&fJ b.now tl)=false then 2 else if f then(match b.hl[i]? with|some x=>if x.nl=[]then(if jO nm tl b.hl then 0 else 5)else 7|none=>6)else 6
def lG (b:Bk)(nm:ByteArray)(i:Nat)(f:Bool)(tl:List Bx):List Hx:=if jH b nm i f tl=0 then(match b.hl[i]? with|some x=>b.hl.set i (EH tl x)|none=>b.hl)else b.hl
def A7 (P:Nat)(b:Bk)(nm:ByteArray)(tv:Value)(fr:Bool)(j:Nat)(v:Value)(_w:World):Prop:=
 match j with
 |0=>v=.pointer (some ⟨P,0,none⟩)
 |1=>v=.pointer (some ⟨P,0,none⟩)
 |2=>v=.pointer (some ⟨P,0,none⟩)
 |3=>v=b.val
 |4=>v=.pointer (some ⟨P,0,none⟩)
 |5=>v=.pointer (some ⟨P,0,none⟩)
 |6=>v=.pointer (some ⟨P,3,none⟩)
 |7=>v=.string nm
 |8=>v=tv
 |9=>v=.bool fr
 |_=>True
def A9 (P:Nat)(b:Bk)(g i:Nat)(tv:Value)(Z:Nat)(tl:List Bx)(j:Nat)(v:Value)(w:World):Prop:=
 match j with
 |0=>v=.pointer (some ⟨P,0,none⟩)
 |1=>v=.pointer (some ⟨P,0,none⟩)
 |2=>v=.pointer (some ⟨P,0,none⟩)
 |3=>v=.pointer (some ⟨P,2,none⟩)
 |4=>v=.slice (some ⟨g,0,none⟩) b.hl.length b.hc
 |5=>v=.pointer (some ⟨P,0,none⟩)
 |6=>v=.pointer (some ⟨P,0,none⟩)
 |7=>v=.pointer (some ⟨P,4,none⟩)
 |8=>v=.int .i64 (i:Int)
 |9=>v=tv
 |10=>aP w Z v tl
 |_=>True
theorem A9.zL {P:Nat}{b:Bk}{g i:Nat}{c:Value}{Z:Nat}{a:List Bx}(j:Nat)(v:Value)(w w':World)(h:A9 P b g i c Z a j v w)(d:aF w w'):A9 P b g i c Z a j v w':=by
 unfold A9 at h ⊢;split
 all_goals first
  |exact h
  |exact aP.zL h d
  |trivial
theorem PY (z P:Nat)(b:Bk)(nm:ByteArray)(i:Nat)(f:Bool)(tl:List Bx)(ta:Option Addr)(tc:Nat)(w:World)(hI:kR z P w b nm i f)(hzw:z<=w.heap.size)(hfi:f=true->i<b.hl.length)(hft:∀h∈b.hl,h.Fit)(hnf:b.fl.length<=1048576)(hnh:b.hl.length<=64)(ht:jJ w ta tl)(hnt:tl.length<=1048576):
 aY 105 #[.pointer (some ⟨P,0,none⟩),.slice ta tl.length tc] w λe w'=>∃b'':Bk,e=.returned (pT (jH b nm i f tl))/\b''.now=b.now/\b''.fl=b.fl/\aU (lG b nm i f tl) b''.hl/\kR z P w' b'' nm i f/\aT (λk=>z<=k) w w':=by
 have p0:w.cell? ⟨P,0,none⟩=some (.int .i64 b.now):=aJ hI.p rfl;have p1:w.cell? ⟨P,1,none⟩=some (.slice b.fa b.fl.length b.fc):=aJ hI.p rfl;have p2:w.cell? ⟨P,2,none⟩=some (.slice b.ha b.hl.length b.hc):=aJ hI.p rfl;have HI:Hid _:=hI;have HFt:Hid _:=hft;clear hI hft;go_enter Tryz.func105,Tryz.ntmps105;go_wp2_with fail;refine(uL b tl ta tc w HI.oQ.a.ans.fs hnf ht hnt).mono ?_;rintro e w1 ⟨rfl,hb1⟩;obtain⟨v1,hv1⟩:∃v,(aQ b.fl tl&&fJ b.now tl)=v:=⟨_,rfl⟩;rw[hv1];have HV1:Hid _:=hv1;have NN:=hb1;clear hb1 hv1 p0 p1 p2;cases v1 with
 |false=>
  go_wp2_with fail;go_ret;have HC:jH b nm i f tl=2:=by unfold jH;rw[HV1.oQ];rfl
  have HL:lG b nm i f tl=b.hl:=by unfold lG;rw[HC];rfl
  rw[HC];exact⟨b,rfl,rfl,rfl,by rw[HL];exact aU.refl _,HI.oQ.zL NN,aT.below NN⟩
 |true=>
 have P1:=bJ HI.oQ.p NN;obtain⟨p0,p1,p2,p3,p4,p5⟩:=vT P1;clear P1;cases f with
 |false=>
  go_wp2_with fail;go_ret;have HC:jH b nm i false tl=6:=by unfold jH;rw[HV1.oQ];rfl
  have HL:lG b nm i false tl=b.hl:=by unfold lG;rw[HC];rfl
  rw[HC];exact⟨b,rfl,rfl,rfl,by rw[HL];exact aU.refl _,HI.oQ.zL NN,aT.below NN⟩
 |true=>
 have hi:=hfi rfl;obtain⟨x,hx⟩:=bP (b.hl[i]);have hxi:b.hl[i]?=some x:=by rw[hx];exact lge hi
 have hxf:=HFt.oQ x (by rw[hx];exact lgm hi);obtain⟨g,ha,hgz,hcap,fv,hrow,hf⟩:=HI.oQ.a.held hi;rw[ha]at p2;have hrw1:=hrow.of_block (NN.block _ hrow.lt);have e2:=hrw1.cell (i:=i*3+2) (by omega);rw[show fv (i*3+2)=.slice x.na x.nl.length x.nc from by rw[hx];exact hf i hi hi 2 _ rfl]at e2
 have hPg:P≠g:=λe=>by
  subst e;obtain⟨cs,hcs,_⟩:=hrow;rw[HI.oQ.p]at hcs;cases hcs
 have hnn:=hxf.nn;have HX:=aG hx;have HXi:Hid _:=hxi;have HR:=aG hrow;have HF:Hid _:=hf;have HA:Hid _:=ha;clear hf hx hxi hrow hrw1 ha;cases hnl:x.nl with
 |cons y ys=>
  have hlen:0<x.nl.length:=by rw[hnl];simp
  have HC:Hid (jH b nm i true tl=7):=by
   have:jH b nm i true tl=7:=by unfold jH;rw[HV1.oQ,HXi.oQ];simp[hnl]
   exact this
  have hgt:decide ((0:Int)<(x.nl.length:Int))=true:=by simp;omega
  clear hnl;go_wp2_with fail;go_quiet (fail);go_wp2_with fail;go_ret;have HL:lG b nm i true tl=b.hl:=by unfold lG;rw[HC.oQ];rfl
  rw[HC.oQ];exact⟨b,rfl,rfl,rfl,by rw[HL];exact aU.refl _,HI.oQ.zL (aC NN (mT _ _)),aT.below (aC NN (mT _ _))⟩
 |nil=>
 have HNl:=aG hnl;rw[hnl]at e2;clear hnl;go_wp2_with fail;go_quiet (fail);obtain⟨fr,hfr⟩:=cK (jO nm tl b.hl);have HFr:Hid _:=hfr;have NN:=aC NN (mT w1 nq);have p0:=((mT w1 nq).cell (aA p0)).trans p0;have p1:=((mT w1 nq).cell (aA p1)).trans p1;have p2:=((mT w1 nq).cell (aA p2)).trans p2;rw[←HA.oQ]at p2;have p3:=((mT w1 nq).cell (aA p3)).trans p3;have p4:=((mT w1 nq).cell (aA p4)).trans p4;have p5:=((mT w1 nq).cell (aA p5)).trans p5;clear hfr e2;go_wp2_with fail;refine pG 10 [some 34,some 35,some 36,some 37,some 38,some 39,some 40,some 41,some 42,some 43] (A7 P b nm (.slice ta tl.length tc) fr) (λ_ _ _ _ h _=>h) ?step ?fin
 case step=>
  intro ii o vs w' hi' ho hB hd;match ii,hi' with
  |0,_=>
   simp at ho;subst ho;simp only[aE,Act.put];gi_wp2;exact⟨_,by simp[aH],rfl,br _ _⟩
  |1,_|2,_|5,_|6,_=>
   simp at ho;subst ho;simp[Region.binds,A7]at hd;simp only[aE,Act.put,hd];gi_wp2;exact⟨_,by simp[aH,hd],rfl,br _ _⟩
  |3,_=>
   simp at ho;subst ho;have d2:vs 2=_:=Zq hd 2;have k0:=(hB.cell (aA p0)).trans p0;have k1:=(hB.cell (aA p1)).trans p1;have k2:=(hB.cell (aA p2)).trans p2;simp only[aE,Act.put];rw[d2];gi_wp2;exact⟨_,by simp[aH,d2],rfl,br _ _⟩
  |4,_|8,_=>
   simp at ho;subst ho;simp only[aE,Act.put];gi_wp2;exact⟨_,by simp[aH],rfl,br _ _⟩
  |7,_=>
   simp at ho;subst ho;have d6:vs 6=_:=Zq hd 6;have k3:=(hB.cell (aA p3)).trans p3;simp only[aE,Act.put];rw[d6];gi_wp2;exact⟨_,by simp[aH,d6],rfl,br _ _⟩
  |9,_=>
   simp at ho;subst ho;have d3:vs 3=_:=Zq hd 3;have d7:vs 7=_:=Zq hd 7;have d8:vs 8=_:=Zq hd 8;simp only[aE,Act.put];rw[d3,d7,d8];gi_wp2_with fail;refine⟨trivial,rfl,?_⟩;refine(cw.2 (z6 b nm tl ta tc w' (HI.oQ.a.ans.hs.zL (aC NN hB)) (by omega) (λh m=>⟨(HI.oQ.a.ans.inn h m).zL (aC NN hB),HFt.oQ h m⟩) (ht.zL (aC NN hB)) hnt)).mono ?_;rintro e w5 ⟨rfl,hb5⟩;rw[HFr.oQ];gi_wp2;exact⟨_,by simp[aH,d3,d7,d8],rfl,hb5⟩
  |q+10,h=>exact absurd h (by omega)
 case fin=>
  intro vs w2 hB hp;have d9:vs 9=_:=hp 9 (by decide);have N2:=aC NN hB;have q2:=(hB.cell (aA p2)).trans p2;rw[HA.oQ]at q2;have q4:=(hB.cell (aA p4)).trans p4;clear hp hB NN p0 p1 p2 p3 p4 p5;simp only[lds,List.drop_zero,aE,Act.put];rw[d9];clear d9;generalize vs 0=v0;generalize vs 1=v1;generalize vs 2=v2;generalize vs 3=v3;generalize vs 4=v4;generalize vs 5=v5;generalize vs 6=v6;generalize vs 7=v7;generalize vs 8=v8;cases fr with
  |false=>
   gi_wp2_with fail;go_wp2_with fail;go_ret;have HC:jH b nm i true tl=5:=by unfold jH;rw[HV1.oQ,HXi.oQ,HFr.oQ];simp[HNl.oQ]
   have HL:lG b nm i true tl=b.hl:=by unfold lG;rw[HC];rfl
   rw[HC];exact⟨b,rfl,rfl,rfl,by rw[HL];exact aU.refl _,HI.oQ.zL N2,aT.below N2⟩
  |true=>
   gi_wp2_with fail;go_wp2_with fail;refine pG 11 [some 46,some 47,some 48,some 49,some 50,some 51,some 52,some 53,some 54,some 55,some 56] (A9 P b g i (.slice ta tl.length tc) w2.heap.size tl) A9.zL ?step ?fin
   case step=>
    intro ii o vs w' hi' ho hB hd;match ii,hi' with
    |0,_=>
     simp at ho;subst ho;simp only[aE,Act.put];gi_wp2;exact⟨_,by simp[aH],rfl,br _ _⟩
    |1,_|2,_|3,_|6,_|7,_=>
     simp at ho;subst ho;simp[Region.binds,A9]at hd;simp only[aE,Act.put,hd];gi_wp2;exact⟨_,by simp[aH,hd],rfl,br _ _⟩
    |4,_=>
     simp at ho;subst ho;have d3:vs 3=_:=Zq hd 3;have k2:=(hB.cell (aA q2)).trans q2;simp only[aE,Act.put];rw[d3];gi_wp2;exact⟨_,by simp[aH,d3],rfl,br _ _⟩
    |5,_|9,_=>
     simp at ho;subst ho;simp only[aE,Act.put];gi_wp2;exact⟨_,by simp[aH],rfl,br _ _⟩
    |8,_=>
     simp at ho;subst ho;have d7:vs 7=_:=Zq hd 7;have k4:=(hB.cell (aA q4)).trans q4;simp only[aE,Act.put];rw[d7];gi_wp2;exact⟨_,by simp[aH,d7],rfl,br _ _⟩
    |10,_=>
     simp at ho;subst ho;have d9:vs 9=_:=Zq hd 9;simp only[aE,Act.put];rw[d9];gi_wp2_with fail;refine⟨trivial,rfl,?_⟩;refine(cw.2 (sW tl ta tc w' (ht.zL (aC N2 hB)) hnt)).mono ?_;rintro e w5 ⟨⟨v5,rfl,hO5⟩,hb5⟩;have HO5:Hid _:=hO5.weak (base':=w2.heap.size) hB.size;clear hO5;gi_wp2;exact⟨_,by simp[aH,d9],HO5.oQ,hb5⟩
    |q+11,h=>exact absurd h (by omega)
   case fin=>
    intro vs w3 hB hp;have d4:vs 4=_:=hp 4 (by decide);have d8:vs 8=_:=hp 8 (by decide);have d10:aP w3 w2.heap.size (vs 10) tl:=hp 10 (by decide);obtain⟨na,nc,hv,_⟩:=d10.slice;rw[hv]at d10;have HO:=aG d10;have N3:=aC N2 hB;have hr3:=HR.oQ.of_block (N3.block _ HR.oQ.lt);have c3:=hr3.cell (i:=i*3+2) (by omega);have cf:=λi=>hr3.frozen i;have hs2:=hB.size;have hsN:=N2.size;clear hp hB d10 q2 q4;simp only[lds,List.drop_zero,aE,Act.put];rw[d4,d8,hv];clear d4 d8 hv;generalize vs 0=v0;generalize vs 1=v1;generalize vs 2=v2;generalize vs 3=v3;generalize vs 5=v5;generalize vs 6=v6;generalize vs 7=v7;generalize vs 9=v9;have HR3:=aG hr3;clear hr3;gi_wp2_with fail;go_wp2_with fail;go_ret;have HC:jH b nm i true tl=0:=by unfold jH;rw[HV1.oQ,HXi.oQ,HFr.oQ];simp[HNl.oQ]
    have HL:lG b nm i true tl=b.hl.set i (EH tl x):=by unfold lG;rw[HC,HXi.oQ];rfl
    rw[HC];have hbb:aT (λk=>k=g) w (w3.setCell ⟨g,i*3+2,none⟩ (.slice na tl.length nc)):=(aT.below (S:=λk=>k=g) N3).set (g:=g) rfl _ _;have h1:=HR3.oQ.set (i*3+2) (.slice na tl.length nc)
    have h2:(λj=>if j=i*3+2 then Value.slice na tl.length nc else fv j)=(λj=>if j=i*3+2 then Value.slice na tl.length nc else if j=i*3+1 then .slice x.ta x.tl.length x.tc else fv j):=by
     funext j;by_cases e:j=i*3+1
     ·subst e;rw[if_neg (by omega),if_neg (by omega),if_pos rfl,HX.oQ];exact HF.oQ i hi hi 1 _ rfl
     ·simp[e]
    rw[h2]at h1;have hR:=fP.lists (h:=x) (h':=⟨x.n,x.ta,x.tl,x.tc,na,tl,nc⟩) h1 HF.oQ HXi.oQ rfl;have hTx:eS z w x:=HI.oQ.a.t x (by rw[HX.oQ];exact lgm hi);have hT':eS z (w3.setCell ⟨g,i*3+2,none⟩ (.slice na tl.length nc)) ⟨x.n,x.ta,x.tl,x.tc,na,tl,nc⟩:=⟨(hTx.butHeld HR.oQ hbb).t,((HO.oQ.weak (base':=z) (by omega)).setRow HR3.oQ (by decide) _ _)⟩
    have hnb:∀q∈(na.map Addr.block).toList,w2.heap.size<=q:=λq hq=>by
     rcases HO.oQ with⟨e,_⟩|⟨g',cap',e,h1',_⟩;·simp only[Value.slice.injEq]at e;rw[e.1]at hq;simp at hq
     ·simp only[Value.slice.injEq]at e;rw[e.1]at hq;simp at hq;omega
    have hnd:((b.hl.set i ⟨x.n,x.ta,x.tl,x.tc,na,tl,nc⟩).flatMap Hx.bs).Nodup:=FQ b.hl i _ ((x.ta.map Addr.block).toList) ((na.map Addr.block).toList) hi rfl (by rw[←HX.oQ];simp[Hx.bs]) HI.oQ.a.d (gN _) (λq hq hq'=>by
     obtain⟨y,hy,hq'⟩:=List.mem_flatMap.1 hq';have h1:=((HI.oQ.a.t y hy).bs_in q hq').2;have h2:=hnb q hq;omega)
    refine⟨⟨b.now,b.fa,b.fl,b.fc,b.ha,b.hl.set i ⟨x.n,x.ta,x.tl,x.tc,na,tl,nc⟩,b.hc⟩,rfl,rfl,rfl,?_,⟨?_,HI.oQ.a.put HA.oQ hi hbb hR hT' hnd,HI.oQ.zp⟩,hbb.wide (λk hk=>by rw[hk];exact hgz)⟩
    ·rw[HL];exact(aU.refl b.hl).set i ⟨rfl,rfl,rfl⟩
    ·have:=bE HI.oQ.p hbb hPg;rw[this];simp
def j8 (l:List Hx)(nm:ByteArray):Int:=match l.findIdx? (λh=>h.n.toList==nm.toList)with|some i=>(i:Int)|none=>-1
theorem KN {l:List Hx}{nm:ByteArray}{k:Nat}(h:k<l.length)(c:(l[k].n.toList==nm.toList)=true)(a:∀j (h:j<l.length),j<k->(l[j].n.toList==nm.toList)=false):j8 l nm=k:=by
 have:l.findIdx? (λh=>h.n.toList==nm.toList)=some k:=by
  rw[List.findIdx?_eq_some_iff_getElem];exact⟨h,c,λj b=>by simpa using a j (by omega) b⟩
 unfold j8;rw[this]
theorem KD {l:List Hx}{nm:ByteArray}(h:∀j (h:j<l.length),(l[j].n.toList==nm.toList)=false):j8 l nm=-1:=by
 have:l.findIdx? (λh=>h.n.toList==nm.toList)=none:=by
  rw[List.findIdx?_eq_none_iff];intro x hx;obtain⟨j,a,rfl⟩:=lgo hx;exact h j a
 unfold j8;rw[this]
theorem AZ (b:Bk)(nm:ByteArray)(w:World)(v:Xs 3 Hx.cells w b.ha b.hl)(hn:b.hl.length<=1048576):
 aY 43 #[b.val,.string nm] w λe w'=>e=.returned (.int .i64 (j8 b.hl nm))/\aF w w':=by
 have c:aF w (w.alloc b.obj):=aB (br _ _) _;have q:=wnq w b.obj;have t:(w.alloc b.obj).cell? ⟨w.heap.size,2,none⟩=some (.slice b.ha b.hl.length b.hc):=aJ q rfl;obtain⟨W0,o⟩:=cK (w.alloc b.obj);rw[o]at c t;have u:=v.zL c;clear q
 go_enter Tryz.func43,Tryz.ntmps43
 go_wp2
 go_loop [5] (λi=>∃k:Nat,k<=b.hl.length/\i=.int .i64 k/\Hid (∀j (h:j<b.hl.length),j<k->(b.hl[j].n.toList==nm.toList)=false)) (λi=>b.hl.length-(intOf i).toNat)
 case atStart=>exact⟨0,nz _,rfl,λj _ h=>absurd h (by omega)⟩
 case round=>
  obtain⟨k,hk,rfl,a⟩:=hrel
  by_cases d:k<b.hl.length
  ·rcases u with h|⟨bl,off,f,p⟩
   ·rw[h]at d;simp at d
   obtain⟨c0,r,s⟩:=iI (p k d);rw[f]at t
   cases hq:(b.hl[k].n.toList==nm.toList)with
   |true=>
    have g:=aG (KN d hq a.out);have l:Hid _:=f;clear p a f r s;go_wp2
    go_ret;exact⟨by rw[g.oQ];rfl,c⟩
   |false=>
    have m:Hid (∀j (h:j<b.hl.length),j<k+1->(b.hl[j].n.toList==nm.toList)=false):=λj h hj=>by
     by_cases e:j=k
     ·subst e;exact hq
     ·exact a.out j h (by omega)
    have l:Hid _:=f;clear p a f r s;go_wp2
    go_round
    case rel=>exact⟨k+1,by omega,by go_num,m⟩
    case measure=>simp[intOf];omega
  ·have g:Hid (j8 b.hl nm=-1):=KD (λj h=>a.out j h (by omega))
   clear a;go_wp2
   go_ret;exact⟨by rw[g.oQ];rfl,c⟩
theorem zO {w:World}{base p e size:Nat}(b:w.heap[p]?=some (.cells #[] e))(a:base<=p):w.ownsRow base e size (.slice (some ⟨p,0,none⟩) 0 0) 0 []:=by
 refine⟨by simp,.inr ⟨p,0,#[],rfl,a,b,nlq _,nz _,by simp,by simp⟩⟩
theorem xK {P:Program}(w:World)(T t:TypeId)
 (e:TypeId)(i:TypeInfo)(z:Value)(size b:Nat)(s:P.underlying t=some (.slice e))(v:P.info? e=some i)(G:i.zero=some z)(x:i.size=size)(H:i.bytes=b)(I:z.cells.size=size)(J:0<size)
 (p:Nat)(B:w.heap[p]?=some (.cells #[] e))(n:Option Addr)(m c:Nat)(a:List Value)(y:n=none->m=0)(A:a.length=m*size)
 (K:∀d,n=some d->∀j u,a[j]?=some u->w.cell? (d.add j)=some u)(h1c:∀u∈a,u.oneCell'=true)(b1:m<=maxLen)(F:m*b<=140737488355328)(base:Nat)(D:base<=p):
 ∃o w',(Builtin.append_ #[t,t] T #[.slice (some ⟨p,0,none⟩) 0 0,.slice n m c]).run P w=.ok o w'/\w'.ownsRow base e size o m a/\aF w w':=by
 have hlt:p<w.heap.size:=(bU B)
 cases n with
 |none=>
  obtain rfl:=y rfl;obtain rfl:a=[]:=List.eq_nil_of_length_eq_zero (by simpa using A);refine⟨.slice (some ⟨p,0,none⟩) 0 0,w,?_,zO B D,br _ _⟩;subst x
  simp[Builtin.append_,run_underlying s,sizeOf,typeInfo,v,Builtin.lenOf,Builtin.firstCells,storeCells]
 |some d=>
  rcases Nat.eq_zero_or_pos m with rfl|hm
  ·obtain rfl:a=[]:=List.eq_nil_of_length_eq_zero (by simpa using A)
   subst x;refine⟨_,_,run_append_room_cells (P:=P) w t T e i s v p 0 0 0 d 0 c [] (by simp) (λj u h=>by simp at h) (λu h=>by simp at h) (nlq _) (λj h=>by simp at h) (λj h=>by simp at h),?_,?_⟩
   ·simpa[World.setCells]using zO (size:=i.size) B D
   ·simpa[World.setCells]using br w.heap.size w
  ·obtain⟨o,w',f,N,l⟩:=run_append_arg_grows (P:=P) w t T e i z size b s v G x H I J ⟨p,0,none⟩ 0 0 [] (by simp) (λj u h=>by simp at h) d m c a A (K d rfl) (by omega) (by omega) (by simpa using F)
   refine⟨o,w',f,?_,⟨l.os,l.tape,l.output,l.size,λk L=>l.block k L (by simp)⟩⟩;have:=N;simp only[Nat.zero_add,lna]at this;obtain⟨E,C|⟨g,q,r,C,q3,M⟩⟩:=this
   ·exact⟨E,.inl C⟩
   ·exact⟨E,.inr ⟨g,q,r,C,by omega,M⟩⟩
theorem lD {F:Fence}{n:Nat}{P:Program}(w:World){k:Array Oper}{f:List Oper}{o:Oper}{a:Act}{Q:Exit->Act->World->Prop}
 (R:o.guard=none)(s x:Operand)(t:TypeId)(g:o.op=Op.call { callee:=Callee.builtin Builtin.append,args:=#[s,x],argTypes:=#[t,t]})
 (e:TypeId)(i:TypeInfo)(z:Value)(size d:Nat)(D:P.underlying t=some (.slice e))(E:P.info? e=some i)(G:i.zero=some z)(H:i.size=size)(I:i.bytes=d)(J:z.cells.size=size)(L:0<size)
 (p:Nat)(U:a.eval s=.slice (some ⟨p,0,none⟩) 0 0)(T:w.heap[p]?=some (.cells #[] e))(l:Option Addr)(m c:Nat)(b:List Value)(hx:a.eval x=.slice l m c)(y:l=none->m=0)(S:b.length=m*size)
 (O:∀B,l=some B->∀j u,b[j]?=some u->w.cell? (B.add j)=some u)(r:∀u∈b,u.oneCell'=true)(b1:m<=maxLen)(C:m*d<=140737488355328)(base:Nat)(N:base<=p)
 (M:∀q w',w'.ownsRow base e size q m b->aF w w'->wpListIn F n P k Q f (a.put o.dst q) w'):
 wpListIn F n P k Q (o::f) a w:=by
 refine wpListIn_plain R λK v=>?_;obtain⟨q,w',h,V,W⟩:=xK w o.type t e i z size d D E G H I J L p T l m c b y S O r b1 C base N;unfold Oper.wpIn;refine⟨?_,?_⟩
 ·simp[Oper.about,g,resolve,Target.leads,Sem.run_pure]
 ·rw[Oper.semAt_plain F _ _ (by rw[g];intro c A;cases A)]
  simp[execOp,g,resolve,invoke,builtin,U,hx,h,Result.andThen]
  exact v _ _ (M q w' V W)
theorem AV {P:Program}(w:World){h:Array Oper}{f:List Oper}{o:Oper}{a:Act}{Q:Exit->Act->World->Prop}
 (M:o.guard=none)(s x:Operand)(t:TypeId)(v:o.op=Op.call { callee:=Callee.builtin Builtin.append,args:=#[s,x],argTypes:=#[t,t]})
 (e:TypeId)(i:TypeInfo)(z:Value)(size d:Nat)(B:P.underlying t=some (.slice e))(C:P.info? e=some i)(D:i.zero=some z)(E:i.size=size)(F:i.bytes=d)(G:z.cells.size=size)(H:0<size)
 (p:Nat)(R:a.eval s=.slice (some ⟨p,0,none⟩) 0 0)(O:w.heap[p]?=some (.cells #[] e))(k:Option Addr)(m c:Nat)(b:List Value)(hx:a.eval x=.slice k m c)(r:k=none->m=0)(N:b.length=m*size)
 (L:∀y,k=some y->∀j u,b[j]?=some u->w.cell? (y.add j)=some u)(n:∀u∈b,u.oneCell'=true)(b1:m<=maxLen)(A:m*d<=140737488355328)(base:Nat)(J:base<=p)
 (I:∀l w',w'.ownsRow base e size l m b->Below w.heap.size w w'->wpList P h Q f (a.put o.dst l) w'):
 wpList P h Q (o::f) a w:=by
 refine wpList_plain M λK q=>?_;obtain⟨l,w',g,S,T⟩:=xK w o.type t e i z size d B C D E F G H p O k m c b r N L n b1 A base J;unfold Oper.wp
 simp[execOp,v,resolve,invoke,builtin,R,hx,g,Result.andThen]
 exact q _ _ (I l w' S T)
theorem AL (l:List Bx)(f:Option Addr)(g:Nat)(w:World)(t:jJ w f l)(hn:l.length<=1048576):
 aY 16 #[.slice f l.length g] w λe w'=>(∃v,e=.returned v/\w'.ownsRow w.heap.size 56 6 v l.length (fA l))/\aF w w':=by
 obtain⟨C,B,o,p,q⟩:=info_parts Tryz.info56;have d:aF w (w.alloc (.cells #[] 56)):=aB (br _ _) _;have s:=wnq w (.cells #[] 56);have k:=t.zL d
 have n:f=none->l.length=0:=λe=>by
  rcases t with h|⟨y,r,i,_⟩
  ·rw[h];rfl
  ·rw[e]at i;cases i
 have b:∀m,f=some m->∀j u,(fA l)[j]?=some u->(w.alloc (.cells #[] 56)).cell? (m.add j)=some u:=λm e=>by
  rcases k with h|⟨y,r,i,A⟩
  ·rw[h];intro j u h;simp[fA]at h
  ·rw[e]at i;cases i;exact BM A
 go_enter Tryz.func16,Tryz.ntmps16
 go_wp2_with (at_builtin;refine AV _ rfl (.tmp 3) (.tmp 4) 31 rfl 56 C _ 6 48 Tryz.underlying31 B o p q rfl (by decide) w.heap.size rfl s f l.length g (fA l) rfl n (lY l) b (yZ l) ?qc3 ?qc4 w.heap.size (nlq _) ?_)
 case qc3=>unfold maxLen;omega
 case qc4=>omega
 intro v' D c a;have z:aF w D:=d.trans (a.mono (Nat.le_succ _));have x:=aG (c);clear c a d s k b;go_wp2
 go_ret;exact⟨⟨_,rfl,x.oQ⟩,z⟩
theorem p9 (l:List Bx)(c:Option Addr)(a:Nat)(w:World)(d:jJ w c l)(f:l.length<=1048576):
 aY 16 #[.slice c l.length a] w λe w'=>(∃v,e=.returned v/\aP w' w.heap.size v l)/\aF w w':=
 (AL l c a w d f).mono λ_ _ ⟨⟨v,e,h⟩,b⟩=>⟨⟨v,e,aP.of_owns h⟩,b⟩
theorem bQ.setObj {α:Type}{t sz:Nat}{c:α->List Value}{w:World}{base:Nat}{v:Value}{l:List α}{g t':Nat}{j:Array Value}(h:bQ t sz c w base v l)(r:w.heap[g]?=some (.cells j t'))(s:t'≠t)(o:Nat)(u:Value):bQ t sz c (w.setCell ⟨g,o,none⟩ u) base v l:=by
 rcases h with h|⟨i,d,n,p,q,m,b,x⟩;·exact .inl h
 ·refine .inr ⟨i,d,n,p,q,m,b.setOther (a:=⟨g,o,none⟩) (λe=>s ?_) u,x⟩;have k:i=g:=e;subst k;obtain⟨c1,f,_⟩:=b;rw[r]at f;cases f;rfl
structure eF (z:Nat)(w:World)(b:Bk):Prop where
 f:bQ 74 3 Fx.cells w z (.slice b.fa b.fl.length b.fc) b.fl
 h:bQ 90 3 Hx.cells w z (.slice b.ha b.hl.length b.hc) b.hl
 t:∀x∈b.hl,eS z w x
 c:mZ (.slice b.fa b.fl.length b.fc)
theorem eF.zL {z:Nat}{w w':World}{b:Bk}(h:eF z w b)(a:aF w w'):eF z w' b:=⟨h.f.zL a,h.h.zL a,λx hx=>(h.t x hx).zL a,h.c⟩
theorem bQ.xs {α:Type}{t sz:Nat}{c:α->List Value}(i:∀a,(c a).length=sz){w:World}{base:Nat}{a:Option Addr}{n b:Nat}{l:List α}(h:bQ t sz c w base (.slice a n b) l):Xs sz c w a l:=by
 rcases h with⟨_,e⟩|⟨g,cap,e,_,d,f⟩;·exact .inl e
 ·cases e;exact f.xs i (nlq _) d
theorem eF.inn {z:Nat}{w:World}{b:Bk}(h:eF z w b):∀x∈b.hl,x.In w:=λx hx=>⟨(h.t x hx).t.xs,(h.t x hx).n.xs⟩
theorem eF.weak {z z':Nat}{w:World}{b:Bk}(h:eF z w b)(a:z'<=z):eF z' w b:=⟨h.f.weak a,h.h.weak a,λx hx=>(h.t x hx).weak a,h.c⟩
theorem bQ.but {α:Type}{t sz:Nat}{c:α->List Value}{S:Nat->Prop}{w w':World}{base:Nat}{v:Value}{l:List α}(h:bQ t sz c w base v l)(j:aT S w w')(m:∀k,S k->k<base):bQ t sz c w' base v l:=by
 rcases h with h|⟨g,a,b,d,f,i⟩;·exact .inl h
 ·exact .inr ⟨g,a,b,d,f,i.but j (λe=>by have:=m g e;omega)⟩
theorem eF.but {S:Nat->Prop}{z:Nat}{w w':World}{b:Bk}(h:eF z w b)(a:aT S w w')(d:∀k,S k->k<z):eF z w' b:=
 ⟨h.f.but a d,h.h.but a d,λx hx=>(h.t x hx).but a (λq g e=>by have:=((h.t x hx).bs_in q g).1;have:=d q e;omega),h.c⟩
def L1 (B:Nat)(b:Bk)(Z:Nat)(j:Nat)(v:Value)(w:World):Prop:=
 match j with
 |0=>v=.pointer (some ⟨B,0,none⟩)
 |1=>v=.int .i64 b.now
 |2=>∃p,v=.slice (some ⟨p,0,none⟩) 0 0/\Z<=p/\w.heap[p]?=some (.cells #[] 74)
 |3=>v=.pointer (some ⟨B,1,none⟩)
 |4=>v=.slice b.fa b.fl.length b.fc
 |5=>bQ 74 3 Fx.cells w Z v b.fl/\mZ v
 |6=>∃a c,v=.agg #[.int .i64 b.now,.slice a b.fl.length c,.slice none 0 0]/\bQ 74 3 Fx.cells w Z (.slice a b.fl.length c) b.fl/\mZ (.slice a b.fl.length c)
 |7=>∃q,v=.pointer (some ⟨q,0,none⟩)/\Z<=q/\w.heap[q]?=some (.cells #[.int .i64 0,.slice none 0 0,.slice none 0 0] 30)
 |_=>True
theorem L1.zL {B:Nat}{b:Bk}{Z:Nat}(j:Nat)(v:Value)(w w':World)(h:L1 B b Z j v w)(d:aF w w'):L1 B b Z j v w':=by
 unfold L1 at h ⊢;split
 all_goals first
  |exact h
  |exact⟨bQ.zL h.1 d,h.2⟩
  |(obtain⟨p,e,g,f⟩:=h;exact⟨p,e,g,bJ f d⟩)
  |(obtain⟨a,c,e,f,k⟩:=h;exact⟨a,c,e,bQ.zL f d,k⟩)
  |trivial
def L5 (B q:Nat)(vH sl:Value)(k:Nat)(p:Addr)(x:Hx)(Z:Nat)(j:Nat)(v:Value)(w:World):Prop:=
 match j with
 |0=>v=.pointer (some ⟨q,2,none⟩)
 |1=>v=vH
 |2=>v=.pointer (some ⟨B,2,none⟩)
 |3=>v=sl
 |4=>v=.int .i64 (k:Int)
 |5=>v=.pointer (some p)
 |6=>v=.pointer (some p)
 |7=>v=.string x.n
 |8=>v=.pointer (some ⟨B,2,none⟩)
 |9=>v=sl
 |10=>v=.int .i64 (k:Int)
 |11=>v=.pointer (some p)
 |12=>v=.pointer (some ⟨p.block,p.off+1,none⟩)
 |13=>v=.slice x.ta x.tl.length x.tc
 |14=>aP w Z v x.tl
 |15=>v=.pointer (some ⟨B,2,none⟩)
 |16=>v=sl
 |17=>v=.int .i64 (k:Int)
 |18=>v=.pointer (some p)
 |19=>v=.pointer (some ⟨p.block,p.off+2,none⟩)
 |20=>v=.slice x.na x.nl.length x.nc
 |21=>aP w Z v x.nl
 |22=>∃x',v=Hx.val x'/\x.Like x'/\eS Z w x'
 |23=>∃s x',v=.slice (some ⟨s,0,none⟩) 1 1/\w.heap[s]?=some (.cells #[.string x'.n,.slice x'.ta x'.tl.length x'.tc,.slice x'.na x'.nl.length x'.nc] 90)/\x.Like x'/\eS Z w x'
 |_=>True
theorem L5.zL {B q:Nat}{g f:Value}{k:Nat}{p:Addr}{x:Hx}{Z:Nat}(j:Nat)(v:Value)(w w':World)(h:L5 B q g f k p x Z j v w)(a:aF w w'):L5 B q g f k p x Z j v w':=by
 unfold L5 at h ⊢;split
 all_goals first
  |exact h
  |exact aP.zL h a
  |(obtain⟨d,e,b,c⟩:=h;exact⟨d,e,b,eS.zL c a⟩)
  |(obtain⟨s,d,e,i,b,c⟩:=h;exact⟨s,d,e,bJ i a,b,eS.zL c a⟩)
  |trivial
structure WU (w:World)(b:Bk)(Z q:Nat)(a2:Option Addr)(c2:Nat)(d0 dn:List Hx)(vH:Value)(wr:World):Prop where
 n:aF w wr
 z:Z<=wr.heap.size
 a:wr.heap[w.heap.size]?=some b.obj
 r:wr.heap[w.heap.size+1]?=some (.cells #[.int .i64 0,.slice none 0 0,.slice none 0 0] 30)
 q:wr.heap[q]?=some (.cells #[.int .i64 b.now,.slice a2 b.fl.length c2,vH] 30)
 f:bQ 74 3 Fx.cells wr Z (.slice a2 b.fl.length c2) b.fl
 h:wr.ownsRow Z 90 3 vH d0.length (aI Hx.cells dn)
 k:aU d0 dn
 t:∀x∈dn,eS Z wr x
theorem WU.zL {w:World}{b:Bk}{Z q:Nat}{j:Option Addr}{l:Nat}{m o:List Hx}{s:Value}{wr w':World}(h:WU w b Z q j l m o s wr)(c:aF wr w'):WU w b Z q j l m o s w':=by
 refine⟨aC h.n c,Nat.le_trans h.z c.size,bJ h.a c,bJ h.r c,bJ h.q c,h.f.zL c,?_,h.k,λx hx=>(h.t x hx).zL c⟩;obtain⟨p,i|⟨g,d,e,i,u,v,y⟩⟩:=h.h;·exact⟨p,.inl i⟩
 ·exact⟨p,.inr ⟨g,d,e,i,u,bJ v c,y⟩⟩
theorem SM {w i:World}{h:Value}(j:w.grownBy i h.ownBlock)(c:∀g,h.ownBlock=some g->∃a,w.heap[g]?=some (.cells a 90)){k t:Nat}{d:Array Value}(b:w.heap[k]?=some (.cells d t))(l:t≠90):i.heap[k]?=some (.cells d t):=by
 refine(j.block k (bU b) (λe=>l ?_)).trans b;obtain⟨a,f⟩:=c k e.symm;rw[b]at f;cases f;rfl
theorem aP.gkeep {w j:World}{i v:Value}{z:Nat}{l:List Bx}(h:aP w z v l)(o:w.grownBy j i.ownBlock)(d:∀g,i.ownBlock=some g->∃b,w.heap[g]?=some (.cells b 90)):aP j z v l:=by
 rcases h with h|⟨g,a,k,m,n,f,p,q⟩;·exact .inl h
 ·refine .inr ⟨g,a,k,m,n,f,?_,q⟩;obtain⟨c,e,r⟩:=p;exact⟨c,Go.Proofs.YtcdbcliaepcpfaaGreatDoor.SM o d e (by decide),r⟩
theorem bQ.gkeep {w j:World}{i v:Value}{z:Nat}{l:List Fx}(h:bQ 74 3 Fx.cells w z v l)(o:w.grownBy j i.ownBlock)(d:∀g,i.ownBlock=some g->∃b,w.heap[g]?=some (.cells b 90)):bQ 74 3 Fx.cells j z v l:=by
 rcases h with h|⟨g,a,k,m,n,f,p,q⟩;·exact .inl h
 ·refine .inr ⟨g,a,k,m,n,f,?_,q⟩;obtain⟨c,e,r⟩:=p;exact⟨c,Go.Proofs.YtcdbcliaepcpfaaGreatDoor.SM o d e (by decide),r⟩
theorem aP.setBook {w:World}{z q:Nat}{v:Value}{l:List Bx}{j:Array Value}(h:aP w z v l)(r:w.heap[q]?=some (.cells j 30))(o:Nat)(u:Value):aP (w.setCell ⟨q,o,none⟩ u) z v l:=by
 rcases h with h|⟨g,b,m,n,p,f,i,s⟩;·exact .inl h
 ·refine .inr ⟨g,b,m,n,p,f,i.setOther (a:=⟨q,o,none⟩) (λe=>?_) u,s⟩;have k:g=q:=e;subst k;obtain⟨c,d,_⟩:=i;rw[r]at d;cases d
theorem WU.grow {w:World} {b:Bk} {Z q:Nat} {J:Option Addr} {K c:Nat} {s v:List Hx} {E:Value} {w' F:World} {x u:Hx} {g:Nat} (h:WU w b Z q J K s v E w') (hzw:w.heap.size+1<Z) (hqZ:Z<=q)
 (B:F.ownsRow Z 90 3 (.slice (some ⟨g,0,none⟩) (s.length+1) c) (s.length+1) (aI Hx.cells v++u.cells)) (p:w'.grownBy F E.ownBlock) (N:x.Like u) (O:eS Z w' u):
 WU w b Z q J K (s++[x]) (v++[u]) (.slice (some ⟨g,0,none⟩) (s.length+1) c) (F.setCell ⟨q,2,none⟩ (.slice (some ⟨g,0,none⟩) (s.length+1) c)):=by
 have j:∀k,E.ownBlock=some k->∃d,w'.heap[k]?=some (.cells d 90):=λk l=>by
  obtain⟨_,⟨rfl,_⟩|⟨g,c,d,rfl,_,e,_⟩⟩:=h.h;·simp[Value.ownBlock]at l
  ·simp[Value.ownBlock]at l;subst l;exact⟨d,e⟩
 have A:∀k,E.ownBlock=some k->Z<=k:=λk l=>fB h.h l;have i:=SM p j h.q (by decide);have m:∀k o,k<Z->w'.heap[k]?=some o->F.heap[k]?=some o:=λk o l e=>(p.block k (bU e) (λL=>by have:=A k L.symm;omega)).trans e;refine⟨?_,?_,?_,?_,?_,?_,?_,h.k.snoc N,?_⟩;·refine Below.setCell (h.n.grown p (Nat.le_trans (by have:=h.n.size;omega) (nlq _)) (λk l=>by have:=A k l;omega)) (by show w.heap.size<=q;omega) _
 ·have:=h.z;have:=p.size;simp;omega
 ·exact bX (m _ _ (by omega) h.a) (by show w.heap.size≠q;omega) _
 ·exact bX (m _ _ (by omega) h.r) (by show w.heap.size+1≠q;omega) _
 ·exact aO i 2 _
 ·exact(h.f.gkeep p j).setObj i (by decide) 2 _
 ·obtain⟨P,⟨H,_⟩|⟨g',cp,d,H,Q,I,R⟩⟩:=B;·cases H
  ·cases H
   have G:g≠q:=λe=>by
    subst e;rw[i]at I;cases I
   have M:aI Hx.cells (v++[u])=aI Hx.cells v++u.cells:=by rw[gB,rK]
   rw[M];refine⟨by simpa using P,.inr ⟨g,c,d,by simp,Q,bX I (by show g≠q;exact G) _,by simpa using R⟩⟩
 ·intro y D;simp only[lma,List.mem_singleton]at D
  have C:eS Z w' y:=by
   rcases D with D|rfl;·exact h.t y D
   ·exact O
  exact⟨(C.t.gkeep p j).setBook i _ _,(C.n.gkeep p j).setBook i _ _⟩
theorem jV (b:Bk)(w:World)(hf:Xs 3 Fx.cells w b.fa b.fl)(hnf:b.fl.length<=1048576)(hh:Xs 3 Hx.cells w b.ha b.hl)(hnh:b.hl.length<=1048576)(hg:∀h∈b.hl,h.In w/\h.Fit):
 aY 37 #[b.val] w λe w'=>(∃b':Bk,e=.returned b'.val/\b'.now=b.now/\b'.fl=b.fl/\aU b.hl b'.hl/\eF w.heap.size w' b')/\aF w w':=by
 obtain⟨i0,yo,yu,yv,yw⟩:=info_parts Tryz.info74;obtain⟨j0,yp,yr,ys,yt⟩:=info_parts Tryz.info90;have zg:aF w ((w.alloc b.obj).alloc (.cells #[.int .i64 0,.slice none 0 0,.slice none 0 0] 30)):=aB (aB (br _ _) _) _;have A0:=(halq (w.alloc b.obj) (.cells #[.int .i64 0,.slice none 0 0,.slice none 0 0] 30) w.heap.size (by simp)).trans (wnq w b.obj);have R0:=wnq (w.alloc b.obj) (.cells #[.int .i64 0,.slice none 0 0,.slice none 0 0] 30);rw[wsa]at R0
 go_enter Tryz.func37,Tryz.ntmps37
 go_wp2_with fail
 obtain⟨I,zy⟩:=cK ((w.alloc b.obj).alloc (.cells #[.int .i64 0,.slice none 0 0,.slice none 0 0] 30));rw[zy]at zg A0 R0 ⊢;have HA:Hid _:=A0;have HR:Hid _:=R0;have yg:w.heap.size+1<I.heap.size:=(bU R0);clear zy A0 R0;refine pG 8 [some 5,some 6,some 7,some 8,some 9,some 10,some 11,some 3] (L1 w.heap.size b I.heap.size) L1.zL ?step ?fin
 case step=>
  intro i o l w' zl d B A;have S:=aC zg B
  match i,zl with
  |0,_|3,_=>
   simp at d;subst d;simp only[aE,Act.put];gi_wp2;exact⟨_,by simp[aH],rfl,br _ _⟩
  |1,_=>
   simp at d;subst d;have y:l 0=_:=Zq A 0;have k0:w'.cell? ⟨w.heap.size,0,none⟩=some (.int .i64 b.now):=aJ (bJ HA.oQ B) rfl;simp only[aE,Act.put];rw[y];gi_wp2;exact⟨_,by simp[aH,y],rfl,br _ _⟩
  |2,_|7,_=>
   simp at d;subst d;simp only[aE,Act.put];gi_wp2;exact⟨_,by simp[aH],⟨_,rfl,B.size,wnq _ _⟩,aB (br _ _) _⟩
  |4,_=>
   simp at d;subst d;have d3:l 3=_:=Zq A 3;have k1:w'.cell? ⟨w.heap.size,1,none⟩=some (.slice b.fa b.fl.length b.fc):=aJ (bJ HA.oQ B) rfl;simp only[aE,Act.put];rw[d3];gi_wp2;exact⟨_,by simp[aH,d3],rfl,br _ _⟩
  |5,_=>
   simp at d;subst d;obtain⟨p,d2,V,yd⟩:∃p,l 2=.slice (some ⟨p,0,none⟩) 0 0/\I.heap.size<=p/\w'.heap[p]?=some (.cells #[] 74):=Zq A 2;have d4:l 4=_:=Zq A 4;have hX:=hf.zL S
   have ya:b.fa=none->b.fl.length=0:=λe=>by
    rcases hX with h|⟨L,m,e',_⟩
    ·rw[h];rfl
    ·rw[e]at e';cases e'
   have C:∀ad,b.fa=some ad->∀j u,(aI Fx.cells b.fl)[j]?=some u->w'.cell? (ad.add j)=some u:=λad e=>by
    rcases hX with h|⟨L,m,e',hc⟩
    ·rw[h];intro j u h;simp[aI]at h
    ·rw[e]at e';cases e';exact mG Fx.cells_length (by decide) hc
   simp only[aE,Act.put,List.setIfInBounds_toArray,List.set_cons_succ,List.set_cons_zero];rw[d2,d4];refine lD w' rfl (.tmp 7) (.tmp 9) 27 rfl 74 i0 _ 3 32 Tryz.underlying27 yo yu yv yw rfl (by decide) p rfl yd b.fa b.fl.length b.fc (aI Fx.cells b.fl) rfl ya (cG Fx.cells_length b.fl) C (iB nQ b.fl) (by unfold maxLen;omega) (by omega) I.heap.size V (λv' w1 D hb=>?_);have HO:Hid (bQ 74 3 Fx.cells w1 I.heap.size v' b.fl/\mZ v'):=⟨iY Fx.cells_length D,lI D⟩;clear D hX ya C A yd;gi_wp2;exact⟨v',by simp[aH,d2,d4,Act.put],HO.oQ,hb⟩
  |6,_=>
   simp at d;subst d;have d1:l 1=_:=Zq A 1;have h5:bQ 74 3 Fx.cells w' I.heap.size (l 5) b.fl/\mZ (l 5):=Zq A 5;obtain⟨a5,c5,d5⟩:=h5.1.slice;rw[d5]at h5;have HO:Hid _:=h5;clear h5;simp only[aE,Act.put];rw[d1,d5];gi_wp2;exact⟨_,by simp[aH,d1,d5],⟨a5,c5,rfl,HO.oQ⟩,br _ _⟩
  |j+8,h=>exact absurd h (by omega)
 case fin=>
  intro l w' B V;obtain⟨K,M,d6,h2,yb⟩:∃a c,l 6=.agg #[.int .i64 b.now,.slice a b.fl.length c,.slice none 0 0]/\bQ 74 3 Fx.cells w' I.heap.size (.slice a b.fl.length c) b.fl/\mZ (.slice a b.fl.length c):=V 6 (by decide);have yh:=aG yb;clear yb;obtain⟨q,d7,hq,G⟩:∃q,l 7=.pointer (some ⟨q,0,none⟩)/\I.heap.size<=q/\w'.heap[q]?=some (.cells #[.int .i64 0,.slice none 0 0,.slice none 0 0] 30):=V 7 (by decide);clear V;simp only[lds,List.drop_zero,aE,Act.put];rw[d6,d7];clear d6 d7;generalize l 0=v0;generalize l 1=v1;generalize l 2=v2;generalize l 3=v3;generalize l 4=v4;generalize l 5=v5;have c0:w'.cell? ⟨q,0,none⟩=some (.int .i64 0):=aJ G rfl;have c1:w'.cell? ⟨q,1,none⟩=some (.slice none 0 0):=aJ G rfl;have yj:w'.cell? ⟨q,2,none⟩=some (.slice none 0 0):=aJ G rfl;have cf:=iQ G;have Q2:=aO (aO (aO G 0 (.int .i64 b.now)) 1 (.slice K b.fl.length M)) 2 (.slice none 0 0);have W:∀(X:World) (o:Nat) (u:Value),(∃cs,X.heap[q]?=some (.cells cs 30))->bQ 74 3 Fx.cells X I.heap.size (.slice K b.fl.length M) b.fl->bQ 74 3 Fx.cells (X.setCell ⟨q,o,none⟩ u) I.heap.size (.slice K b.fl.length M) b.fl:=λX o u ⟨cs,yn⟩ h=>h.setObj yn (by decide) o u;have zf:=W _ 2 (.slice none 0 0) ⟨_,aO (aO G 0 (.int .i64 b.now)) 1 (.slice K b.fl.length M)⟩ (W _ 1 (.slice K b.fl.length M) ⟨_,aO G 0 (.int .i64 b.now)⟩ (W _ 0 (.int .i64 b.now) ⟨_,G⟩ h2));have zh:=(((aC zg B).setCell (p:=⟨q,0,none⟩) (by show w.heap.size<=q;omega) (.int .i64 b.now)).setCell (p:=⟨q,1,none⟩) (by show w.heap.size<=q;omega) (.slice K b.fl.length M)).setCell (p:=⟨q,2,none⟩) (by show w.heap.size<=q;omega) (.slice none 0 0);have A2:=bX (bX (bX (bJ HA.oQ B) (p:=⟨q,0,none⟩) (by show w.heap.size≠q;omega) (.int .i64 b.now)) (p:=⟨q,1,none⟩) (by show w.heap.size≠q;omega) (.slice K b.fl.length M)) (p:=⟨q,2,none⟩) (by show w.heap.size≠q;omega) (.slice none 0 0);have R2:=bX (bX (bX (bJ HR.oQ B) (p:=⟨q,0,none⟩) (by show w.heap.size+1≠q;omega) (.int .i64 b.now)) (p:=⟨q,1,none⟩) (by show w.heap.size+1≠q;omega) (.slice K b.fl.length M)) (p:=⟨q,2,none⟩) (by show w.heap.size+1≠q;omega) (.slice none 0 0);have yl:=B.size;obtain⟨W1,zi⟩:=cK (((w'.setCell ⟨q,0,none⟩ (.int .i64 b.now)).setCell ⟨q,1,none⟩ (.slice K b.fl.length M)).setCell ⟨q,2,none⟩ (.slice none 0 0));have yx:I.heap.size<=W1.heap.size:=by rw[←zi];simp;exact yl
  rw[zi]at Q2 zf zh A2 R2;have zp:=aG Q2;have zo:Hid _:=A2;have zq:Hid _:=R2;have H2:Hid _:=zf;clear h2 G Q2 A2 R2 zf W B HA HR;gi_wp2_with fail
  clear zi c0 c1 yj cf;go_wp2_with fail
  go_loopw [4] (λi wr=>∃(y rs O:List Hx) (Z:Value),Hid (b.hl=y++rs)/\i=.int .i64 (y.length:Int)/\WU w b I.heap.size q K M y O Z wr) (λi _=>b.hl.length-(intOf i).toNat)
  case atStart=>exact⟨[],b.hl,[],.slice none 0 0,rfl,rfl,⟨zh,yx,zo.oQ,zq.oQ,zp.oQ,H2.oQ,World.ownsRow_nil _ _ _ _,⟨rfl,λk h=>absurd h (by simp)⟩,λx h=>by simp at h⟩⟩
  case round=>
   clear zo zq zp H2 zh;obtain⟨y,rs,O,Z,hm,rfl,F⟩:=hrel;have U:b.hl.length=y.length+rs.length:=by rw[hm.out];simp
   have HS:Hid _:=F;have za:=aG F.a
   cases rs with
   |cons x rs=>
    have zm:y.length<b.hl.length:=by rw[U];simp
    obtain⟨yf,ye⟩:=hg x (by rw[hm.out];simp)
    obtain⟨L,m,ea,hc⟩:∃L m,b.ha=some ⟨L,m,none⟩/\∀k (h:k<b.hl.length),aZ w L (m+k*3) b.hl[k].cells:=by
     rcases hh with h|h
     ·rw[h]at zm;simp at zm
     ·exact h
    have hx:b.hl[y.length]=x:=by
     have:b.hl[y.length]?=some x:=by rw[hm.out,List.getElem?_append_right (nlq _),Nat.sub_self];rfl
     exact(lgs.1 this).2
    have zk:=(hc y.length zm).zL F.n;rw[hx]at zk;obtain⟨e0,e1,e2⟩:=iI zk;have zb:Hid _:=ea;have k2:wr.cell? ⟨w.heap.size,2,none⟩=some (.slice (some ⟨L,m,none⟩) b.hl.length b.hc):=by rw[←ea];exact aJ F.a rfl
    have hzr:=F.z;clear hc hx zk U ea F;go_wp2_with fail
    clear k2;refine pG 24 [some 19,some 20,some 21,some 22,some 23,some 24,some 25,some 26,some 27,some 28,some 29,some 30,some 31,some 32,some 33,some 34,some 35,some 36,some 37,some 38,some 39,some 40,some 41,some 42] (L5 w.heap.size q Z (.slice (some ⟨L,m,none⟩) b.hl.length b.hc) y.length ⟨L,m+y.length*3,none⟩ x wr.heap.size) L5.zL ?step ?fin
    case step=>
     intro i o l w' zl d B A;have S:=aC HS.oQ.n B
     match i,zl with
     |0,_|2,_|4,_=>
      simp at d;subst d;simp only[aE,Act.put];gi_wp2;exact⟨_,by simp[aH],rfl,br _ _⟩
     |1,_=>
      simp at d;subst d;have y:l 0=_:=Zq A 0;have kq:w'.cell? ⟨q,2,none⟩=some Z:=aJ (bJ HS.oQ.q B) rfl;simp only[aE,Act.put];rw[y];gi_wp2;exact⟨_,by simp[aH,y],rfl,br _ _⟩
     |3,_=>
      simp at d;subst d;have d2:l 2=_:=Zq A 2;have k2:w'.cell? ⟨w.heap.size,2,none⟩=some (.slice (some ⟨L,m,none⟩) b.hl.length b.hc):=by rw[←zb.oQ];exact aJ (bJ za.oQ B) rfl
      simp only[aE,Act.put];rw[d2];gi_wp2;exact⟨_,by simp[aH,d2],rfl,br _ _⟩
     |5,_|6,_|11,_|12,_|18,_|19,_=>
      simp at d;subst d
      simp[Region.binds,L5]at A
      simp only[aE,Act.put,A];gi_wp2;exact⟨_,by simp[aH,A],rfl,br _ _⟩
     |7,_=>
      simp at d;subst d;have d6:l 6=_:=Zq A 6;have kx:w'.cell? ⟨L,m+y.length*3,none⟩=some (.string x.n):=(B.cell (aA e0)).trans e0;simp only[aE,Act.put];rw[d6];gi_wp2;exact⟨_,by simp[aH,d6],rfl,br _ _⟩
     |8,_|10,_|15,_|17,_=>
      simp at d;subst d;simp only[aE,Act.put];gi_wp2;exact⟨_,by simp[aH],rfl,br _ _⟩
     |9,_=>
      simp at d;subst d;have d8:l 8=_:=Zq A 8;have k2:w'.cell? ⟨w.heap.size,2,none⟩=some (.slice (some ⟨L,m,none⟩) b.hl.length b.hc):=by rw[←zb.oQ];exact aJ (bJ za.oQ B) rfl
      simp only[aE,Act.put];rw[d8];gi_wp2;exact⟨_,by simp[aH,d8],rfl,br _ _⟩
     |13,_=>
      simp at d;subst d;have zr:l 12=_:=Zq A 12;have kx:w'.cell? ⟨L,m+y.length*3+1,none⟩=some (.slice x.ta x.tl.length x.tc):=(B.cell (aA e1)).trans e1;simp only[aE,Act.put];rw[zr];gi_wp2;exact⟨_,by simp[aH,zr],rfl,br _ _⟩
     |14,_=>
      simp at d;subst d;have zs:l 13=_:=Zq A 13;simp only[aE,Act.put];rw[zs];gi_wp2_with fail
      refine⟨trivial,rfl,?_⟩;refine(cw.2 (p9 x.tl x.ta x.tc w' (yf.1.zL S) ye.tn)).mono ?_;rintro e w3 ⟨⟨v,rfl,P⟩,zj⟩;have HP:Hid _:=P;clear P;gi_wp2;exact⟨_,by simp[aH,zs],aP.weak HP.oQ B.size,zj⟩
     |16,_=>
      simp at d;subst d;have zt:l 15=_:=Zq A 15;have k2:w'.cell? ⟨w.heap.size,2,none⟩=some (.slice (some ⟨L,m,none⟩) b.hl.length b.hc):=by rw[←zb.oQ];exact aJ (bJ za.oQ B) rfl
      simp only[aE,Act.put];rw[zt];gi_wp2;exact⟨_,by simp[aH,zt],rfl,br _ _⟩
     |20,_=>
      simp at d;subst d;have zu:l 19=_:=Zq A 19;have kx:w'.cell? ⟨L,m+y.length*3+2,none⟩=some (.slice x.na x.nl.length x.nc):=(B.cell (aA e2)).trans e2;simp only[aE,Act.put];rw[zu];gi_wp2;exact⟨_,by simp[aH,zu],rfl,br _ _⟩
     |21,_=>
      simp at d;subst d;have zv:l 20=_:=Zq A 20;simp only[aE,Act.put];rw[zv];gi_wp2_with fail
      refine⟨trivial,rfl,?_⟩;refine(cw.2 (p9 x.nl x.na x.nc w' (yf.2.zL S) ye.nn)).mono ?_;rintro e w3 ⟨⟨v,rfl,P⟩,zj⟩;have HP:Hid _:=P;clear P;gi_wp2;exact⟨_,by simp[aH,zv],aP.weak HP.oQ B.size,zj⟩
     |22,_=>
      simp at d;subst d;have d7:l 7=_:=Zq A 7;have Q:aP w' wr.heap.size (l 14) x.tl:=Zq A 14;have R:aP w' wr.heap.size (l 21) x.nl:=Zq A 21;obtain⟨a1,c1,zd,_⟩:=Q.slice;obtain⟨a3,c3,ze,_⟩:=R.slice;rw[zd]at Q;rw[ze]at R;have HO:Hid (eS wr.heap.size w' ⟨x.n,a1,x.tl,c1,a3,x.nl,c3⟩):=⟨Q,R⟩;clear Q R;simp only[aE,Act.put];rw[d7,zd,ze];gi_wp2;exact⟨_,by simp[aH,d7,zd,ze],⟨⟨x.n,a1,x.tl,c1,a3,x.nl,c3⟩,rfl,⟨rfl,rfl,rfl⟩,HO.oQ⟩,br _ _⟩
     |23,_=>
      simp at d;subst d;obtain⟨H,zw,hl,ht⟩:∃H,l 22=Hx.val H/\x.Like H/\eS wr.heap.size w' H:=Zq A 22;have HL:Hid _:=hl;have HT:Hid _:=ht;clear hl ht;simp only[aE,Act.put];rw[zw];gi_wp2;exact⟨_,by simp[aH,zw],⟨_,H,rfl,wnq _ _,HL.oQ,eS.zL HT.oQ (aB (br _ _) _)⟩,aB (br _ _) _⟩
     |j+24,h=>exact absurd h (by omega)
    case fin=>
     intro l w' B V;have d1:l 1=Z:=V 1 (by decide);obtain⟨s,H,zx,Y,hl,ht⟩:∃(s:Nat) (H:Hx),l 23=.slice (some ⟨s,0,none⟩) 1 1/\w'.heap[s]?=some (.cells #[.string H.n,.slice H.ta H.tl.length H.tc,.slice H.na H.nl.length H.nc] 90)/\x.Like H/\eS wr.heap.size w' H:=V 23 (by decide);have E:Hid _:=HS.oQ.zL B
     have C:∀j u,(H.cells)[j]?=some u->w'.cell? ((⟨s,0,none⟩:Addr).add j)=some u:=λj u h=>by
      rw[Addr.add_lit,Nat.zero_add]
      match j,h with
      |0,h=>simp[Hx.cells]at h;subst h;exact aJ Y rfl
      |1,h=>simp[Hx.cells]at h;subst h;exact aJ Y rfl
      |2,h=>simp[Hx.cells]at h;subst h;exact aJ Y rfl
     have yq:∃cs,w'.heap[q]?=some (.cells cs 30):=⟨_,E.oQ.q⟩;have HL:Hid _:=hl;have HT:Hid _:=ht.weak HS.oQ.z;clear V hl ht;simp only[lds,List.drop_zero,aE,Act.put,List.setIfInBounds_toArray,List.set_cons_succ,List.set_cons_zero];rw[d1,zx];clear d1 zx;refine wpListIn_append_own w' rfl (.tmp 20) (.tmp 42) 28 rfl I.heap.size 90 j0 _ 3 64 Tryz.underlying28 yp yr ys yt rfl (by decide) Z y.length (aI Hx.cells O) rfl E.oQ.h ⟨s,0,none⟩ 1 1 H.cells rfl rfl C (lH H) (by unfold maxLen;omega) (by omega) E.oQ.z (λv' w2 D T _=>?_)
     obtain⟨g,N,rfl⟩:∃g N,v'=.slice (some ⟨g,0,none⟩) (y.length+1) N:=by
      obtain⟨_,⟨_,e⟩|⟨g,N,_,e,_⟩⟩:=D
      ·omega
      ·exact⟨g,N,e⟩
     have hN:=E.oQ.grow yg hq D T HL.oQ HT.oQ;have HN:Hid _:=hN
     have kq:w2.cell? ⟨q,2,none⟩=some Z:=aJ (SM T (λk J=>by
      obtain⟨_,⟨e,_⟩|⟨g,N,zc,e,_,e2,_⟩⟩:=E.oQ.h
      ·rw[e]at J;simp[Value.ownBlock]at J
      ·rw[e]at J;simp[Value.ownBlock]at J;subst J;exact⟨zc,e2⟩) E.oQ.q (by decide)) rfl
     have kf:∀i,w2.frozen? ⟨q,i,none⟩=false:=λi=>by
      have:=SM T (λk J=>by
       obtain⟨_,⟨e,_⟩|⟨g,N,zc,e,_,e2,_⟩⟩:=E.oQ.h
       ·rw[e]at J;simp[Value.ownBlock]at J
       ·rw[e]at J;simp[Value.ownBlock]at J;subst J;exact⟨zc,e2⟩) E.oQ.q (by decide)
      simp[World.frozen?,this]
     have yi:Hid (b.hl=(y++[x])++rs):=by rw[Hid,hm.out];simp
     clear D T C hN Y yq E;gi_wp2_with fail
     go_wp2
     go_roundw
     case rel=>exact⟨y++[x],rs,_,_,yi,by simp,HN.oQ⟩
     case measure=>simp[intOf];omega
   |nil=>
    have hjn:b.hl.length<=y.length:=by simp at U;omega
    have yc:b.hl=y:=by simpa using hm.out
    have k2:wr.cell? ⟨w.heap.size,2,none⟩=some (.slice b.ha b.hl.length b.hc):=aJ F.a rfl
    obtain⟨ah,ch,zn,zz⟩:∃ah ch,Z=.slice ah O.length ch/\bQ 90 3 Hx.cells wr I.heap.size Z O:=by
     have d:=F.h;rw[←F.k.len]at d;have:=iY Hx.cells_length d;obtain⟨a,c,e⟩:=bQ.slice this;exact⟨a,c,e,this⟩
    have HL:Hid (aU b.hl O):=by rw[Hid,yc];exact F.k
    have HX:Hid _:=zz;have q0:wr.cell? ⟨q,0,none⟩=some (.int .i64 b.now):=aJ F.q rfl;have q1:wr.cell? ⟨q,1,none⟩=some (.slice K b.fl.length M):=aJ F.q rfl;have q2:wr.cell? ⟨q,2,none⟩=some (.slice ah O.length ch):=by rw[←zn];exact aJ F.q rfl
    obtain⟨r0,r1,r2⟩:=aM F.r;have rf:=iQ F.r;have HV:=aG zn;clear U yc hm zn zz F;go_wp2_with fail
    have hlen:O.length=b.hl.length:=HL.oQ.len;have hA:eF I.heap.size wr ⟨b.now,K,b.fl,M,ah,O,ch⟩:=⟨HS.oQ.f,by have:=HX.oQ;rw[HV.oQ]at this;exact this,HS.oQ.t,yh.oQ⟩;have F:aT (λk=>k=w.heap.size+1) wr (((wr.setCell ⟨w.heap.size+1,0,none⟩ (.int .i64 b.now)).setCell ⟨w.heap.size+1,1,none⟩ (.slice K b.fl.length M)).setCell ⟨w.heap.size+1,2,none⟩ (.slice ah O.length ch)):=(((aT.refl (λk=>k=w.heap.size+1) wr).set (g:=w.heap.size+1) rfl _ _).set (g:=w.heap.size+1) rfl _ _).set (g:=w.heap.size+1) rfl _ _;have yk:=(hA.but F (λk J=>by rw[J];exact yg)).weak (z':=w.heap.size) (by omega);have ym:=F.under HS.oQ.n (nlq _) (λk J=>by rw[J];omega);exact bpr (v:=Bk.val ⟨b.now,K,b.fl,M,ah,O,ch⟩) (by simp[results,Tryz.results37,go_sem,r0,r1,r2]) rfl ⟨⟨_,rfl,rfl,rfl,HL.oQ,yk⟩,ym⟩
def j6 (frm:Int)(l:List Hx):List Hx:=(l.map (jC frm)).filter (λx=>!x.tl.isEmpty)
theorem SC {a:Int}{l:List Hx}{x:Hx}(h:(jC a x).tl≠[]):j6 a (l++[x])=j6 a l++[jC a x]:=by
 unfold j6;rw[List.map_append,List.filter_append];simp[h]
theorem UC {a:Int}{l:List Hx}{x:Hx}(h:(jC a x).tl=[]):j6 a (l++[x])=j6 a l:=by
 unfold j6;rw[List.map_append,List.filter_append];simp[h]
theorem Q7 (a:Int)(l:List Hx):(j6 a l).length<=l.length:=by
 unfold j6;exact Nat.le_trans (List.length_filter_le _ _) (by simp)
theorem IB (a:Int){x:Hx}(h:x.Fit):(jC a x).Fit:=by
 unfold jC;split;·exact⟨Nat.le_trans (fK a x.nl) h.nn,by simp,h.sn⟩
 ·exact⟨Nat.le_trans (fK a x.tl) h.tn,Nat.le_trans (fK a x.nl) h.nn,h.sn⟩
def cV (b:Bk)(n:Int):Int:=if n<0∨10000-b.now<n then 2 else 0
def fF (b:Bk)(n:Int):Int:=if cV b n=0 then b.now+n else b.now
def eR (b:Bk)(n:Int):List Hx:=if cV b n=0 then j6 (b.now+n) b.hl else b.hl
theorem gY.butPage {z P:Nat}{w w':World}{b:Bk}{m:Array Value}(h:gY z w b)(i:aT (λk=>k=P) w w')(o:w.heap[P]?=some (.cells m 178)):gY z w' b:=by
 have j:∀{t n:Nat} {f:Nat->Value},t≠178->w.rowIs P t n f->False:=λs g=>by
  obtain⟨c,l,_⟩:=g;rw[o]at l;cases l;exact s rfl
 refine⟨h.f.butRow i (λk _ _ _ g e=>by have a:k=P:=e;subst a;exact j (by decide) g),h.h.butRow i (λk _ _ _ g e=>by have a:k=P:=e;subst a;exact j (by decide) g),λx hx=>(h.t x hx).but i (λq p e=>?_),h.d,h.c,h.cf⟩;have a:q=P:=e;subst a;obtain⟨_,_,r⟩:=(h.t x hx).bs_row q p;exact j (by decide) r
structure PM (Wn:World)(frm:Int)(d0 dn:List Hx)(v:Value)(wr:World):Prop where
 n:aF Wn wr
 h:wr.ownsRow Wn.heap.size 90 3 v dn.length (aI Hx.cells dn)
 k:aU (j6 frm d0) dn
 t:∀x∈dn,eS Wn.heap.size wr x
 d:(dn.flatMap Hx.bs).Nodup
theorem lM {w w':World}{base:Nat}{e:TypeId}{size:Nat}{v:Value}{n:Nat}{xs:List Value}(h:w.ownsRow base e size v n xs)(j:aF w w'):w'.ownsRow base e size v n xs:=by
 obtain⟨f,⟨d,k⟩|⟨g,a,b,d,c,i,l⟩⟩:=h;·exact⟨f,.inl ⟨d,k⟩⟩
 ·exact⟨f,.inr ⟨g,a,b,d,c,(j.block _ (bU i)).trans i,l⟩⟩
theorem PM.zL {c:World}{a:Int}{e f:List Hx}{v:Value}{wr w':World}(h:PM c a e f v wr)(b:aF wr w'):PM c a e f v w':=
 ⟨aC h.n b,lM h.h b,h.k,λx hx=>(h.t x hx).zL b,h.d⟩
theorem PM.len {d:World}{a:Int}{b c:List Hx}{v:Value}{wr:World}(h:PM d a b c v wr):c.length<=b.length:=by
 rw[h.k.len];exact Q7 a b
theorem PM.skip {b:World}{a:Int}{c e:List Hx}{v:Value}{wr:World}{x:Hx}(h:PM b a c e v wr)(hx:(jC a x).tl=[]):PM b a (c++[x]) e v wr:=
 ⟨h.n,h.h,by rw[UC hx];exact h.k,h.t,h.d⟩
theorem PM.grow {j:World} {a:Int} {z c:List Hx} {v D:Value} {w' w:World} {x f:Hx} {B:Nat} (h:PM j a z c v w') (G:(jC a x).Like f) (hx:(jC a x).tl≠[]) (C:eS B w' f) (E:f.bs.Nodup) (A:j.heap.size<=B/\∀y∈c,∀q∈y.bs,q<B)
 (m:w.ownsRow j.heap.size 90 3 D (c.length+1) (aI Hx.cells c++f.cells)) (s:w'.grownBy w v.ownBlock):
 PM j a (z++[x]) (c++[f]) D w:=by
 have o:∀k,v.ownBlock=some k->∃b,w'.heap[k]?=some (.cells b 90):=λk l=>by
  obtain⟨_,⟨rfl,_⟩|⟨g,cap,b,rfl,_,e,_⟩⟩:=h.h;·simp[Value.ownBlock]at l
  ·simp[Value.ownBlock]at l;subst l;exact⟨b,e⟩
 have F:aI Hx.cells (c++[f])=aI Hx.cells c++f.cells:=by rw[gB,rK]
 refine⟨h.n.grown s h.n.size (λk l=>fB h.h l),by rw[F,List.length_append];exact m,by rw[SC hx];exact h.k.snoc G,λy i=>?_,?_⟩
 ·simp only[lma,List.mem_singleton]at i
  have p:eS j.heap.size w' y:=by
   rcases i with i|rfl;·exact h.t y i
   ·exact C.weak A.1
  exact⟨p.t.gkeep s o,p.n.gkeep s o⟩
 ·rw[List.flatMap_append,List.nodup_append];refine⟨h.d,by simpa using E,λq u r H e=>?_⟩;subst e;obtain⟨y,i,u⟩:=List.mem_flatMap.1 u;have h1:=A.2 y i q u;have h2:=(C.bs_in q (by simpa using H)).1;omega
def P8 (P:Nat)(frm:Int)(x:Hx)(Z:Nat)(j:Nat)(v:Value)(w:World):Prop:=
 match j with
 |0=>v=x.val
 |1=>v=.pointer (some ⟨P,0,none⟩)
 |2=>v=.pointer (some ⟨P,0,none⟩)
 |3=>v=.pointer (some ⟨P,0,none⟩)
 |4=>v=.pointer (some ⟨P,0,none⟩)
 |5=>v=.int .i64 frm
 |6=>∃x':Hx,v=x'.val/\(jC frm x).Like x'/\eS Z w x'/\x'.bs.Nodup
 |_=>True
theorem P8.zL {P:Nat}{a:Int}{x:Hx}{Z:Nat}(j:Nat)(v:Value)(w w':World)(h:P8 P a x Z j v w)(f:aF w w'):P8 P a x Z j v w':=by
 unfold P8 at h ⊢;split
 all_goals first
  |exact h
  |(obtain⟨g,e,b,c,d⟩:=h;exact⟨g,e,b,c.zL f,d⟩)
  |trivial
theorem SN (z P:Nat)(b:Bk)(nm:ByteArray)(i:Nat)(f:Bool)(n:Int)(w:World)(hI:kR z P w b nm i f)(yl:z<=w.heap.size)(zk:∀h∈b.hl,h.Fit)(hnh:b.hl.length<=64)(hn0:0<=b.now)(hn1:b.now<=10000):
 aY 207 #[.pointer (some ⟨P,0,none⟩),.int .i64 n] w λe w'=>∃l:Bk,e=.returned (pT (cV b n))/\l.now=fF b n/\l.fl=b.fl/\aU (eR b n) l.hl/\kR z P w' l nm i f/\aT (λk=>z<=k) w w':=by
 have p0:w.cell? ⟨P,0,none⟩=some (.int .i64 b.now):=aJ hI.p rfl;have T:Hid _:=hI;have zz:Hid _:=zk;clear hI zk;have zo:cV b n=2->∃l:Bk,Ending.returned (pT 2)=.returned (pT (cV b n))/\l.now=fF b n/\l.fl=b.fl/\aU (eR b n) l.hl/\kR z P w l nm i f/\aT (λk=>z<=k) w w:=λh=>⟨b,by rw[h],by unfold fF;rw[h];rfl,rfl,by unfold eR;rw[h];exact aU.refl _,T.oQ,aT.refl _ _⟩;have F:Hid _:=zo;clear zo
 by_cases X:n<0
 · have zh:decide (n<0)=true:=by simp[X]
   have L:Hid (cV b n=2):=by
    have:cV b n=2:=by unfold cV;rw[if_pos (.inl X)]
    exact this
   clear X
   go_enter Tryz.func207,Tryz.ntmps207
   go_wp2_with fail
   go_ret
   first
    |exact F.oQ L.oQ
    |(obtain⟨l,X,Y⟩:=F.oQ L.oQ;exact⟨X,l,Y⟩)
 have zh:decide (n<0)=false:=by simp;omega
 by_cases Y:10000-b.now<n
 · have zi:decide (10000-b.now<n)=true:=by simp[Y]
   have L:Hid (cV b n=2):=by
    have:cV b n=2:=by unfold cV;rw[if_pos (.inr Y)]
    exact this
   clear Y
   go_enter Tryz.func207,Tryz.ntmps207
   go_wp2_with fail
   go_ret
   first
    |exact F.oQ L.oQ
    |(obtain⟨l,X,Y⟩:=F.oQ L.oQ;exact⟨X,l,Y⟩)
 have zi:decide (10000-b.now<n)=false:=by simp;omega
 have L:Hid (cV b n=0):=by
  have:cV b n=0:=by unfold cV;rw[if_neg (by omega)]
  exact this
 clear F;obtain⟨j0,yg,yi,yj,yk⟩:=info_parts Tryz.info90;have pf:=iQ T.oQ.p;have Pn:=aO T.oQ.p 0 (.int .i64 (b.now+n));have bN:aT (λk=>k=P) w (w.setCell ⟨P,0,none⟩ (.int .i64 (b.now+n))):=(aT.refl (λk=>k=P) w).set (g:=P) rfl _ _;have E:Hid _:=T.oQ.a.butPage bN T.oQ.p;have p2:(w.setCell ⟨P,0,none⟩ (.int .i64 (b.now+n))).cell? ⟨P,2,none⟩=some (.slice b.ha b.hl.length b.hc):=aJ Pn rfl;have J:(w.setCell ⟨P,0,none⟩ (.int .i64 (b.now+n))).heap.size=w.heap.size:=by simp
 obtain⟨V,zg⟩:=cK (w.setCell ⟨P,0,none⟩ (.int .i64 (b.now+n)));rw[zg]at Pn bN E p2 J;have zd:=aG Pn;have zv:Hid _:=bN;have hzn:z<=V.heap.size:=by rw[J];exact yl
 clear Pn bN J
 go_enter Tryz.func207,Tryz.ntmps207
 go_wp2_with fail
 clear zg p0 pf zh zi
 go_loopw [5,37] (λv iv wr=>∃(m R B:List Hx) (vv:Value),Hid (b.hl=m++R)/\v=vv/\iv=.int .i64 (m.length:Int)/\PM V (b.now+n) m B vv wr) (λ_ iv _=>b.hl.length-(intOf iv).toNat)
 case atStart=>exact⟨[],b.hl,[],_,rfl,rfl,rfl,⟨br _ _,World.ownsRow_nil _ _ _ _,⟨rfl,λk h=>by simp[j6]at h⟩,λx hx=>by simp at hx,by simp⟩⟩
 case round=>
  obtain⟨m,R,B,v,hm,rfl,rfl,A⟩:=hrel;have za:b.hl.length=m.length+R.length:=by rw[hm.out];simp
  have HS:=aG A
  cases R with
  |cons x R=>
   have r:m.length<b.hl.length:=by rw[za];simp
   have K:b.hl[m.length]=x:=by
    have:b.hl[m.length]?=some x:=by rw[hm.out,List.getElem?_append_right (nlq _),Nat.sub_self];rfl
    rw[lge r]at this;exact Option.some.inj this
   have H:x∈b.hl:=by rw[←K];exact lgm r
   have zt:=zz.oQ x H;obtain⟨g,ha,hgz,hcap,fv,I,hf⟩:=gY.held E.oQ r;have N:=I.of_block (A.n.block _ I.lt);have e0:=N.cell (i:=m.length*3+0) (by omega);have e1:=N.cell (i:=m.length*3+1) (by omega);have e2:=N.cell (i:=m.length*3+2) (by omega);rw[show fv (m.length*3+0)=.string x.n from by rw[←K];exact hf m.length r r 0 _ rfl]at e0;rw[show fv (m.length*3+1)=.slice x.ta x.tl.length x.tc from by rw[←K];exact hf m.length r r 1 _ rfl]at e1;rw[show fv (m.length*3+2)=.slice x.na x.nl.length x.nc from by rw[←K];exact hf m.length r r 2 _ rfl]at e2;rw[Nat.add_zero]at e0;have zu:x.In V:=gY.ans E.oQ |>.inn x H
   have zb:Hid (b.hl=(m++[x])++R):=by rw[Hid,hm.out];simp
   have M2:aF wr (wr.alloc (.cells #[.string x.n,.slice x.ta x.tl.length x.tc,.slice x.na x.nl.length x.nc] 90)):=aB (br _ _) _;have Y2:=wnq wr (.cells #[.string x.n,.slice x.ta x.tl.length x.tc,.slice x.na x.nl.length x.nc] 90);have hp2:V.heap.size<=wr.heap.size:=A.n.size;have ze:=aG ((zu.zL A.n).zL M2);have p0:(wr.alloc (.cells #[.string x.n,.slice x.ta x.tl.length x.tc,.slice x.na x.nl.length x.nc] 90)).cell? ⟨P,0,none⟩=some (.int .i64 (b.now+n)):=aJ (bJ (bJ zd.oQ A.n) M2) rfl;have zq:(wr.alloc (.cells #[.string x.n,.slice x.ta x.tl.length x.tc,.slice x.na x.nl.length x.nc] 90)).heap.size=wr.heap.size+1:=by simp
   obtain⟨W2,zf⟩:=cK (wr.alloc (.cells #[.string x.n,.slice x.ta x.tl.length x.tc,.slice x.na x.nl.length x.nc] 90));rw[zf]at M2 Y2 ze p0 zq;have yc:=aG Y2;obtain⟨y0,y1,y2⟩:=aM Y2;have HW:Hid (V.heap.size<=W2.heap.size/\∀y∈B,∀q∈y.bs,q<W2.heap.size):=⟨by omega,λy hy q hq=>by have:=((A.t y hy).bs_in q hq).2;omega⟩;rw[ha];clear hf I N K H zu A hm Y2 ha za;go_wp2_with fail
   clear zf e0 e1 e2;refine pG 7 [some 41,some 42,some 43,some 44,some 45,some 46,some 47] (P8 P (b.now+n) x W2.heap.size) P8.zL ?step ?fin
   case step=>
    intro ii o C w' yf s G M
    match ii,yf with
    |0,_=>
     simp at s;subst s;have q0:=(G.cell (aA y0)).trans y0;have q1:=(G.cell (aA y1)).trans y1;have q2:=(G.cell (aA y2)).trans y2;simp only[aE,Act.put];gi_wp2;exact⟨_,by simp[aH],rfl,br _ _⟩
    |1,_=>
     simp at s;subst s;simp only[aE,Act.put];gi_wp2;exact⟨_,by simp[aH],rfl,br _ _⟩
    |2,_=>
     simp at s;subst s;have d1:C 1=_:=Zq M 1;simp only[aE,Act.put];rw[d1];gi_wp2;exact⟨_,by simp[aH,d1],rfl,br _ _⟩
    |3,_=>
     simp at s;subst s;have d2:C 2=_:=Zq M 2;simp only[aE,Act.put];rw[d2];gi_wp2;exact⟨_,by simp[aH,d2],rfl,br _ _⟩
    |4,_=>
     simp at s;subst s;have d3:C 3=_:=Zq M 3;simp only[aE,Act.put];rw[d3];gi_wp2;exact⟨_,by simp[aH,d3],rfl,br _ _⟩
    |5,_=>
     simp at s;subst s;have d4:C 4=_:=Zq M 4;have c0:=(G.cell (aA p0)).trans p0;simp only[aE,Act.put];rw[d4];gi_wp2;exact⟨_,by simp[aH,d4],rfl,br _ _⟩
    |6,_=>
     simp at s;subst s;have m:C 0=_:=Zq M 0;have d5:C 5=_:=Zq M 5;simp only[aE,Act.put];rw[m,d5];gi_wp2_with fail
     refine⟨trivial,rfl,?_⟩;refine(cw.2 (KJ x (b.now+n) w' (Hx.In.zL ze.oQ G) zt)).mono ?_;rintro e w5 ⟨⟨S,rfl,zn,zr,zj⟩,ye⟩;have ya:Hid (∃c,Value.agg #[.string S.n,.slice S.ta S.tl.length S.tc,.slice S.na S.nl.length S.nc]=Hx.val c/\(jC (b.now+n) x).Like c/\eS W2.heap.size w5 c/\c.bs.Nodup):=⟨S,rfl,zn,zr.weak G.size,zj⟩;clear zn zr zj;gi_wp2;exact⟨_,by simp[aH,m,d5],ya.oQ,ye⟩
    |q+7,h=>exact absurd h (by omega)
   case fin=>
    intro C w3 G hp;obtain⟨c,d6,hl,ht,M⟩:∃c,C 6=Hx.val c/\(jC (b.now+n) x).Like c/\eS W2.heap.size w3 c/\c.bs.Nodup:=hp 6 (by decide);have M3:=aC M2 G;have Y3:=bJ yc.oQ G;have hs3:=G.size;clear hp G y0 y1 y2 p0;simp only[lds,List.drop_zero,aE,Act.put];rw[d6];clear d6;generalize C 0=v0;generalize C 1=v1;generalize C 2=v2;generalize C 3=v3;generalize C 4=v4;generalize C 5=v5
    have rk:w3.rowIs wr.heap.size 90 3 (λi=>(#[.string x.n,.slice x.ta x.tl.length x.tc,.slice x.na x.nl.length x.nc]:Array Value).getD i undef):=⟨_,Y3,rfl,λi hi=>by match i,hi with|0,_=>rfl|1,_=>rfl|2,_=>rfl⟩
    obtain⟨k0,k1,k2⟩:=aM Y3;have kf:=λi=>rk.frozen i;have r4:=((rk.set 0 (.string c.n)).set 1 (.slice c.ta c.tl.length c.tc)).set 2 (.slice c.na c.nl.length c.nc);have bK:=(((aT.refl (λk=>k=wr.heap.size) w3).set (g:=wr.heap.size) rfl 0 (.string c.n)).set (g:=wr.heap.size) rfl 1 (.slice c.ta c.tl.length c.tc)).set (g:=wr.heap.size) rfl 2 (.slice c.na c.nl.length c.nc);have c0:(((w3.setCell ⟨wr.heap.size,0,none⟩ (.string c.n)).setCell ⟨wr.heap.size,1,none⟩ (.slice c.ta c.tl.length c.tc)).setCell ⟨wr.heap.size,2,none⟩ (.slice c.na c.nl.length c.nc)).cell? ⟨wr.heap.size,0,none⟩=some (.string c.n):=r4.cell (i:=0) (by decide);have c1:(((w3.setCell ⟨wr.heap.size,0,none⟩ (.string c.n)).setCell ⟨wr.heap.size,1,none⟩ (.slice c.ta c.tl.length c.tc)).setCell ⟨wr.heap.size,2,none⟩ (.slice c.na c.nl.length c.nc)).cell? ⟨wr.heap.size,1,none⟩=some (.slice c.ta c.tl.length c.tc):=r4.cell (i:=1) (by decide);have c2:(((w3.setCell ⟨wr.heap.size,0,none⟩ (.string c.n)).setCell ⟨wr.heap.size,1,none⟩ (.slice c.ta c.tl.length c.tc)).setCell ⟨wr.heap.size,2,none⟩ (.slice c.na c.nl.length c.nc)).cell? ⟨wr.heap.size,2,none⟩=some (.slice c.na c.nl.length c.nc):=r4.cell (i:=2) (by decide);have M4:=bK.under M3 (nlq _) (λk hk=>by have hk':k=wr.heap.size:=hk;omega);have T4:=ht.but bK (λq hq e=>by have e':q=wr.heap.size:=e;have:=(ht.bs_in q hq).1;omega);obtain⟨w4,zs⟩:=cK (((w3.setCell ⟨wr.heap.size,0,none⟩ (.string c.n)).setCell ⟨wr.heap.size,1,none⟩ (.slice c.ta c.tl.length c.tc)).setCell ⟨wr.heap.size,2,none⟩ (.slice c.na c.nl.length c.nc));rw[zs]at c0 c1 c2 M4 T4;have D:Hid _:=HS.oQ.zL M4;have yb:=aG T4;have U:=aG hl;have zy:=aG M;have yh:c.tl.length<=1048576:=by rw[←hl.t];exact(IB (b.now+n) zt).tn
    have hsz4:=M4.size;clear rk r4 bK T4 M3 ht hl M Y3;gi_wp2_with fail
    clear zs k0 k1 k2 kf
    by_cases O:c.tl=[]
    · have zm:c.tl.length=0:=by rw[O];rfl
      have HZ:Hid ((jC (b.now+n) x).tl=[]):=by rw[Hid,U.oQ.t];exact O
      rw[zm]at c1;clear O zm yh;go_wp2_with fail
      go_roundw
      case rel=>exact⟨m++[x],R,B,_,zb,rfl,by simp,D.oQ.skip HZ.oQ⟩
      case measure=>simp[intOf];omega
    · have hpos:0<c.tl.length:=List.length_pos_iff.2 O
      have hgt:decide ((0:Int)<(c.tl.length:Int))=true:=by simp;omega
      have HZ:Hid ((jC (b.now+n) x).tl≠[]):=by rw[Hid,U.oQ.t];exact O
      clear O
      go_wp2_with (at_builtin;refine wpList_append_own _ rfl (.tmp 52) (.tmp 54) 28 rfl V.heap.size 90 j0 _ 3 64 Tryz.underlying28 yg yi yj yk rfl (by decide) _ B.length (aI Hx.cells B) rfl (D.oQ.h.alloc _) ⟨w4.heap.size,0,none⟩ 1 1 c.cells rfl rfl ?qc1 (lH c) ?qc3 ?qc4 ?qc5 ?_)
      case qc1=>
       intro j u h;rw[Addr.add_lit,Nat.zero_add]
       match j,h with
       |0,h=>simp[Hx.cells]at h;subst h;exact aJ (wnq w4 _) rfl
       |1,h=>simp[Hx.cells]at h;subst h;exact aJ (wnq w4 _) rfl
       |2,h=>simp[Hx.cells]at h;subst h;exact aJ (wnq w4 _) rfl
      case qc3=>have:=D.oQ.len;unfold maxLen;omega
      case qc4=>have:=D.oQ.len;omega
      case qc5=>have:=D.oQ.n.size;(try simp);omega
      intro v' w6 Q zl _;have HN:Hid _:=(D.oQ.zL (aB (br _ _) _)).grow (by have:=U.oQ;exact this) HZ.oQ (yb.oQ.zL (aB (br _ _) _)) zy.oQ HW.oQ Q zl;clear Q zl;go_wp2_with fail
      go_roundw
      case rel=>exact⟨m++[x],R,B++[c],_,zb,rfl,by simp,HN.oQ⟩
      case measure=>simp[intOf];omega
  |nil=>
   have Z:b.hl=m:=by simpa using hm.out
   have hge:b.hl.length<=m.length:=by rw[Z];exact nlq _
   have s:=iY Hx.cells_length A.h;obtain⟨ah,W,hv⟩:=bQ.slice s;have HO:Hid (bQ 90 3 Hx.cells wr V.heap.size (.slice ah B.length W) B):=by rw[hv]at s;exact s
   have zw:Hid (W<=maxLen):=lI A.h _ _ _ hv;have P3:=bJ zd.oQ A.n;have q2:wr.cell? ⟨P,2,none⟩=some (.slice b.ha b.hl.length b.hc):=aJ P3 rfl;have pf:=iQ P3;have zc:=aG P3;have zx:=aG Z;rw[hv];clear s P3 A hm za Z hv;go_wp2_with fail
   go_ret;have A:=HS.oQ;have P4:=aO zc.oQ 2 (.slice ah B.length W);have b4:aT (λk=>k=P) wr (wr.setCell ⟨P,2,none⟩ (.slice ah B.length W)):=(aT.refl (λk=>k=P) wr).set (g:=P) rfl _ _
   have yd:gY z (wr.setCell ⟨P,2,none⟩ (.slice ah B.length W)) ⟨b.now+n,b.fa,b.fl,b.fc,ah,B,W⟩:=by
    refine gY.butPage (P:=P) ⟨(gY.zL E.oQ A.n).f,HO.oQ.weak (by omega),λx hx=>(A.t x hx).weak (by omega),A.d,zw.oQ,(gY.zL E.oQ A.n).cf⟩ b4 zc.oQ
   refine⟨⟨b.now+n,b.fa,b.fl,b.fc,ah,B,W⟩,by rw[L.oQ];rfl,by unfold fF;rw[L.oQ];rfl,rfl,by unfold eR;rw[L.oQ,zx.oQ];exact A.k,⟨P4,yd,T.oQ.zp⟩,?_⟩;have O:=T.oQ.zp;exact((zv.oQ.wide (S':=λk=>z<=k) (λk hk=>by rw[hk];exact O)).trans (aT.below A.n)).trans (b4.wide (λk hk=>by rw[hk];exact O))
theorem GT (v:Value)(w:World):(Instr.typeAssert (.iface 148 v) 184 245 true).run Tryz.prog w=.ok (.tuple #[.nilIface,.bool false]) w:=run_typeAssert_lacksB Tryz.underlying245 (by kernel_rfl) (by kernel_rfl) v _ w
def YI:Value:=.agg #[.string ByteArray.empty,.int .i64 0,.int .i64 0,.int .i64 0,.int .i64 0,.int .i64 0,.slice none 0 0,.slice none 0 0]
def WY:Value:=.agg #[.string ByteArray.empty,.slice none 0 0]
def YS:Value:=.agg #[.string ByteArray.empty,.bool false]
theorem KH (v:Value)(w:World):(Instr.typeAssert (.iface 148 v) 184 248 true).run Tryz.prog w=.ok (.tuple #[YI,.bool false]) w:=by kernel_rfl
theorem GM (v:Value)(w:World):(Instr.typeAssert (.iface 148 v) 184 250 true).run Tryz.prog w=.ok (.tuple #[WY,.bool false]) w:=by kernel_rfl
theorem JR (v:Value)(w:World):(Instr.typeAssert (.iface 148 v) 184 252 true).run Tryz.prog w=.ok (.tuple #[YS,.bool false]) w:=by kernel_rfl
theorem T3 (v:Value)(w:World):(Instr.typeAssert (.iface 148 v) 184 148 true).run Tryz.prog w=.ok (.tuple #[v,.bool true]) w:=by kernel_rfl
theorem GS (n:Int)(w:World):
 aY 149 #[.iface 148 (.agg #[.int .i64 n])] w λe w'=>e=.returned (.string ⟨#[]⟩)/\w'=w:=by
 have h0:=GT;go_enter Tryz.func149,Tryz.ntmps149;go_wp2;go_ret;exact⟨rfl,rfl⟩
theorem U9 (z P:Nat)(b:Bk)(nm:ByteArray)(i:Nat)(f:Bool)(n:Int)(w:World)(t:kR z P w b nm i f)(hzw:z<=w.heap.size)(j:∀h∈b.hl,h.Fit)(o:b.hl.length<=64)(l:0<=b.now)(m:b.now<=10000):
 aY 151 #[.pointer (some ⟨P,0,none⟩),.iface 148 (.agg #[.int .i64 n])] w λe w'=>∃a:Bk,e=.returned (pT (cV b n))/\a.now=fF b n/\a.fl=b.fl/\aU (eR b n) a.hl/\kR z P w' a nm i f/\aT (λk=>z<=k) w w':=by
 have c:aF w (w.alloc (.cells #[.int .i64 n] 148)):=aB (br _ _) _;have p:(w.alloc (.cells #[.int .i64 n] 148)).cell? ⟨w.heap.size,0,none⟩=some (.int .i64 n):=aJ (wnq w _) rfl;obtain⟨W,u⟩:=cK (w.alloc (.cells #[.int .i64 n] 148));rw[u]at c p;have hs:=c.size;have h0:=KH;have h1:=GM;have h2:=JR;have h3:=T3;go_enter Tryz.func151,Tryz.ntmps151;go_wp2_with fail;refine(SN z P b nm i f n W (t.zL c) (by omega) j o l m).mono ?_;rintro e w1 ⟨a,rfl,q,r,s,d,g⟩;go_wp2_with fail;go_ret;exact⟨a,rfl,q,r,s,d,(aT.below c).trans g⟩
def XQ (nm:ByteArray)(tl:List Bx)(b':Bk)(i:Nat)(f:Bool)(b'':Bk)(c:Int):Prop:=c=jH b' nm i f tl/\b''.now=b'.now/\b''.fl=b'.fl/\aU (lG b' nm i f tl) b''.hl
theorem UZ {b:Bk}(h:aN b=true):kK Hx.n b.hl=true:=by
 simp only[aN,dN,bV,bat]at h;exact h.2.2.2.1.2
theorem lS {b:Bk}(h:aN b=true):b.hl.length<=16:=by
 simp only[aN,gA,bat,dte]at h;exact h.2.2.1
theorem BC (d:List Bx)(ta:Option Addr)(n:Nat)(T:Nat)(b:Bk)(nm:ByteArray)(w:World)(p:w.cell? ⟨T,0,none⟩=some (.slice ta d.length n))(u:jJ w ta d)(hnt:d.length<=1048576)(l:b.fl.length<=1048576)(k:∀h∈b.hl,h.Fit):
 oS 104 #[.pointer (some ⟨T,0,none⟩)] b nm (XQ nm d) w:=by
 intro b' i f P z W c a hz m t o;have c0:W.cell? ⟨T,0,none⟩=some (.slice ta d.length n):=(o.cell (aA p)).trans p;have h16:=lS c;have HBK:Hid _:=c;clear c;show aY 104 #[.pointer (some ⟨P,0,none⟩),.pointer (some ⟨T,0,none⟩)] W _;go_enter Tryz.func104,Tryz.ntmps104;go_wp2_with fail;refine(PY z P b' nm i f d ta n W t m (λe=>by obtain⟨h,_⟩:=a.hd.1 e;rw[a.lk.len];exact h) (a.lk.fit k) (by rw[a.fl];exact l) (by rw[a.lk.len];omega) (u.zL o) hnt).mono ?_;rintro e w1 ⟨b'',rfl,q,r,s,g,j⟩;go_wp2;go_ret;exact⟨_,_,rfl,⟨rfl,q,r,s⟩,g,j⟩
theorem CI (b:Bk)(nm:ByteArray)(d:List Bx)(ta:Option Addr)(o:Nat)(w:World)(U:j9 w)(V:Xs 3 Fx.cells w b.fa b.fl)(z:b.fl.length<=1048576)(D:b.fl.length<=b.fc)(y:b.fc<=9223372036854775807)(I:∀f∈b.fl,f.n.size<=9223372036854775807)(W:Xs 3 Hx.cells w b.ha b.hl)(G:b.hl.length<=1048576)(E:∀h∈b.hl,h.In w/\h.Fit)(X:jJ w ta d)(hnt:d.length<=1048576):
 aY 64 #[b.val,.string nm,.slice ta d.length o] w λe w'=>rG b nm (XQ nm d) w.heap.size e w'/\aF w w':=by
 have a:aF w (((w.alloc b.obj).alloc (.cells #[.slice ta d.length o] 31)).alloc (.cells #[.int .i64 0,.slice none 0 0,.slice none 0 0] 30)):=aB (aB (aB (br _ _) _) _) _;have A:=(halq ((w.alloc b.obj).alloc (.cells #[.slice ta d.length o] 31)) (.cells #[.int .i64 0,.slice none 0 0,.slice none 0 0] 30) (w.alloc b.obj).heap.size (by simp)).trans (wnq (w.alloc b.obj) (.cells #[.slice ta d.length o] 31));have q:=wnq ((w.alloc b.obj).alloc (.cells #[.slice ta d.length o] 31)) (.cells #[.int .i64 0,.slice none 0 0,.slice none 0 0] 30);simp only[wsa]at A q;go_enter Tryz.func64,Tryz.ntmps64;go_wp2_with fail;obtain⟨B,t⟩:=cK (((w.alloc b.obj).alloc (.cells #[.slice ta d.length o] 31)).alloc (.cells #[.int .i64 0,.slice none 0 0,.slice none 0 0] 30));rw[t]at a A q ⊢;have hz1:w.heap.size+1+1<B.heap.size:=(bU q);have P:B.cell? ⟨w.heap.size+1,0,none⟩=some (.slice ta d.length o):=aJ A rfl;clear t;refine(CF (.pointer (some ⟨w.heap.size+1,0,none⟩)) b nm (XQ nm d) B (BC d ta o (w.heap.size+1) b nm B P (X.zL a) hnt z (λh m=>(E h m).2)) (U.zL a) (V.zL a) z D y I (W.zL a) G (λh m=>⟨(E h m).1.zL a,(E h m).2⟩)).mono ?_;rintro e J ⟨T,l⟩;have R:=aC a l;have C:=bJ q l;obtain⟨M,N,O⟩:=aM C;have rf:=iQ C;have hs1:=l.size;clear A q C l a P;have L:∀u v x:Value,aT (λk=>k=w.heap.size+1+1) J (((J.setCell ⟨w.heap.size+1+1,0,none⟩ u).setCell ⟨w.heap.size+1+1,1,none⟩ v).setCell ⟨w.heap.size+1+1,2,none⟩ x):=λu v x=>(((aT.refl (λk=>k=w.heap.size+1+1) J).set (g:=w.heap.size+1+1) rfl _ _).set (g:=w.heap.size+1+1) rfl _ _).set (g:=w.heap.size+1+1) rfl _ _;have s:=λu v x=>(L u v x).under R (nlq _) (λk F=>by rw[F];omega);rcases T with⟨j,rfl⟩|⟨j,b',i,f,r,c,H,K,rfl,S⟩
 ·have p:Hid _:=j;clear j;go_wp2_with fail;exact bpr (v:=.tuple #[Bk.val ⟨0,none,[],0,none,[],0⟩,.int .i64 1]) (by simp[results,Tryz.results64,go_sem,M,N,O]) rfl ⟨.inl ⟨p.oQ,rfl⟩,s _ _ _⟩
 ·have p:Hid _:=j;have Q:Hid _:=K;clear j K;go_wp2_with fail;exact bpr (v:=.tuple #[r.val,.int .i64 c]) (by simp[results,Tryz.results64,go_sem,M,N,O]) rfl ⟨.inr ⟨p.oQ,b',i,f,r,c,H,Q.oQ,rfl,(S.but (L _ _ _) (λk F=>by rw[F];omega)).weak (by omega)⟩,s _ _ _⟩
def wD (b:Bk)(C nw:Int)(L:List Hx)(z:Nat)(v:Value)(w':World):Prop:=
 (aN b=false/\v=.tuple #[Bk.val ⟨0,none,[],0,none,[],0⟩,.int .i64 1])∨(aN b=true/\∃b'':Bk,v=.tuple #[b''.val,.int .i64 C]/\b''.now=nw/\b''.fl=b.fl/\aU L b''.hl/\gY z w' b'')
def DB (b:Bk)(nw:Int)(L:List Hx)(z:Nat)(v:Value)(w':World):Prop:=
 (aN b=false/\v=Bk.val ⟨0,none,[],0,none,[],0⟩)∨(aN b=true/\∃b'':Bk,v=b''.val/\b''.now=nw/\b''.fl=b.fl/\aU L b''.hl/\gY z w' b'')
theorem wD.zL {b:Bk}{C nw:Int}{L:List Hx}{z:Nat}{v:Value}{w w':World}(h:wD b C nw L z v w)(j:aF w w'):wD b C nw L z v w':=by
 rcases h with h|⟨c,a,d,e,f,g,i⟩;·exact .inl h
 ·exact .inr ⟨c,a,d,e,f,g,i.zL j⟩
theorem wD.weak {b:Bk}{C nw:Int}{L:List Hx}{z z':Nat}{v:Value}{w:World}(h:wD b C nw L z v w)(j:z'<=z):wD b C nw L z' v w:=by
 rcases h with h|⟨c,a,d,e,f,g,i⟩;·exact .inl h
 ·exact .inr ⟨c,a,d,e,f,g,i.weak j⟩
theorem DB.zL {b:Bk}{nw:Int}{L:List Hx}{z:Nat}{v:Value}{w w':World}(h:DB b nw L z v w)(j:aF w w'):DB b nw L z v w':=by
 rcases h with h|⟨c,a,d,e,f,g,i⟩;·exact .inl h
 ·exact .inr ⟨c,a,d,e,f,g,i.zL j⟩
theorem VO {b:Bk}{nm:ByteArray}{R:Bk->Nat->Bool->Bk->Int->Prop}{C nw:Int}{L:List Hx}{z:Nat}{e:Ending}{w':World}(l:∀b' i f a c,aN b=true->kZ b nm b' i f->R b' i f a c->c=C/\a.now=nw/\a.fl=b.fl/\aU L a.hl)(h:rG b nm R z e w'):∃v,e=.returned v/\wD b C nw L z v w':=by
 rcases h with⟨d,e⟩|⟨d,b',i,f,a,c,g,j,e,k⟩;·exact⟨_,e,.inl ⟨d,rfl⟩⟩
 ·obtain⟨rfl,m,n,o⟩:=l b' i f a c d g j;exact⟨_,e,.inr ⟨d,a,rfl,m,n,o,k⟩⟩
def LH (b:Bk)(nm:ByteArray)(ev:Value)(T:Nat)(C nw:Int)(L:List Hx)(Z:Nat)(j:Nat)(v:Value)(w:World):Prop:=
 match j with
 |0=>v=b.val
 |1=>v=ev
 |2=>v=.string nm
 |3=>v=.func (.func 150) #[] #[.pointer (some ⟨T,0,none⟩)]
 |4=>wD b C nw L Z v w
 |5=>DB b nw L Z v w
 |6=>v=.int .i64 (if aN b then C else 1)
 |_=>True
theorem LH.zL {b:Bk}{nm:ByteArray}{a:Value}{T:Nat}{C nw:Int}{L:List Hx}{Z:Nat}(j:Nat)(v:Value)(w w':World)(h:LH b nm a T C nw L Z j v w)(c:aF w w'):LH b nm a T C nw L Z j v w':=by
 unfold LH at h ⊢;split
 all_goals first
  |exact h
  |exact wD.zL h c
  |exact DB.zL h c
  |trivial
theorem CN (t:Value)(zc:(∃et eu,t=.iface et eu)∨t=.nilIface)(b:Bk)(nm:ByteArray)(R:Bk->Nat->Bool->Bk->Int->Prop)(C nw:Int)(L:List Hx)(w:World)(hL:j9 w)(hf:Xs 3 Fx.cells w b.fa b.fl)(ze:b.fl.length<=1048576)(zb:b.fl.length<=b.fc)(U:b.fc<=9223372036854775807)(zg:∀f∈b.fl,f.n.size<=9223372036854775807)(hh:Xs 3 Hx.cells w b.ha b.hl)(zf:b.hl.length<=1048576)(hg:∀h∈b.hl,h.In w/\h.Fit)
 (P:∀W,aF w W->aY 149 #[t] W λe w'=>e=.returned (.string nm)/\aF W w')
 (N:∀T W,aF w W->W.cell? ⟨T,0,none⟩=some t->oS 150 #[.pointer (some ⟨T,0,none⟩)] b nm R W)
 (hR:∀b' i f a c,aN b=true->kZ b nm b' i f->R b' i f a c->c=C/\a.now=nw/\a.fl=b.fl/\aU L a.hl):
 aY 107 #[b.val,t] w λe w'=>(∃v,e=.returned v/\wD b C nw L w.heap.size v w')/\aF w w':=by
 obtain⟨o,l⟩:=bP (Obj.cells #[t] 184);have y:aF w (((w.alloc b.obj).alloc o).alloc (.cells #[.int .i64 0,.slice none 0 0,.slice none 0 0] 30)):=aB (aB (aB (br _ _) _) _) _;have Y:=(halq ((w.alloc b.obj).alloc o) (.cells #[.int .i64 0,.slice none 0 0,.slice none 0 0] 30) w.heap.size (by simp;omega)).trans ((halq (w.alloc b.obj) o w.heap.size (by simp)).trans (wnq w b.obj));have K:=(halq ((w.alloc b.obj).alloc o) (.cells #[.int .i64 0,.slice none 0 0,.slice none 0 0] 30) (w.alloc b.obj).heap.size (by simp)).trans (wnq (w.alloc b.obj) o);have J:=wnq ((w.alloc b.obj).alloc o) (.cells #[.int .i64 0,.slice none 0 0,.slice none 0 0] 30);simp only[wsa]at K J
 rcases zc with⟨et,eu,rfl⟩|rfl
 all_goals go_enter Tryz.func107,Tryz.ntmps107
 all_goals go_wp2_with fail
 all_goals rw[←l]
 rotate_left
 generalize Value.nilIface=t at*
 rotate_left
 generalize Value.iface et eu=t at*
 all_goals
  obtain⟨z,S⟩:=cK (((w.alloc b.obj).alloc o).alloc (.cells #[.int .i64 0,.slice none 0 0,.slice none 0 0] 30));rw[S]at y Y K J ⊢;rw[l]at K;have hz1:w.heap.size+1+1<z.heap.size:=(bU J);obtain⟨k0,k1,k2⟩:=aM Y;have V:z.cell? ⟨w.heap.size+1,0,none⟩=some t:=aJ K rfl;have Z:Hid _:=J;clear S Y K J;refine pG 7 [some 6,some 7,some 8,some 9,some 10,some 11,some 12] (LH b nm t (w.heap.size+1) C nw L z.heap.size) LH.zL ?step ?fin
  case step=>
   intro ii o p w' zd l j I
   match ii,zd with
   |0,_=>
    simp at l;subst l;have k0':=(j.cell (aA k0)).trans k0;have k1':=(j.cell (aA k1)).trans k1;have k2':=(j.cell (aA k2)).trans k2;simp only[aE,Act.put];gi_wp2;exact⟨_,by simp[aH],rfl,br _ _⟩
   |1,_=>
    simp at l;subst l;have t0':=(j.cell (aA V)).trans V;simp only[aE,Act.put];gi_wp2;exact⟨_,by simp[aH],rfl,br _ _⟩
   |2,_=>
    simp at l;subst l;have d1:p 1=_:=Zq I 1;simp only[aE,Act.put];rw[d1];gi_wp2_with fail
    refine⟨trivial,rfl,?_⟩;refine(cw.2 (P w' (aC y j))).mono ?_;rintro e w5 ⟨rfl,G⟩;gi_wp2;exact⟨_,by simp[aH,d1],rfl,G⟩
   |3,_=>
    simp at l;subst l;simp only[aE,Act.put];gi_wp2;exact⟨_,by simp[aH],rfl,br _ _⟩
   |4,_=>
    simp at l;subst l;have d0:p 0=_:=Zq I 0;have d2:p 2=_:=Zq I 2;have d3:p 3=_:=Zq I 3;simp only[aE,Act.put];rw[d0,d2,d3];gi_wp2_with fail
    refine⟨trivial,rfl,?_⟩;refine(cw.2 (J0 (.pointer (some ⟨w.heap.size+1,0,none⟩)) b nm R w' (N _ w' (aC y j) ((j.cell (aA V)).trans V)) (hL.zL (aC y j)) (hf.zL (aC y j)) ze zb U zg (hh.zL (aC y j)) zf (λh m=>⟨(hg h m).1.zL (aC y j),(hg h m).2⟩))).mono ?_;rintro e w5 ⟨M,G⟩;obtain⟨v5,rfl,Q⟩:=VO (C:=C) (nw:=nw) (L:=L) (λb' i f a c h1 h2 h3=>hR b' i f a c h1 h2 h3) M;have za:Hid _:=Q.weak (z':=z.heap.size) j.size;clear Q M;gi_wp2;exact⟨_,by simp[aH,d0,d2,d3],za.oQ,G⟩
   |5,_=>
    simp at l;subst l;have F:wD b C nw L z.heap.size (p 4) w':=Zq I 4
    rcases F with⟨d,s⟩|⟨d,a,s,B,D,E,H⟩
    ·have r:Hid _:=d
     clear d;simp only[aE,Act.put];rw[s];gi_wp2;exact⟨_,by simp[aH,s],.inl ⟨r.oQ,rfl⟩,br _ _⟩
    have r:Hid _:=d;have HP:Hid (a.now=nw/\a.fl=b.fl/\aU L a.hl/\gY z.heap.size w' a):=⟨B,D,E,H⟩;clear d B D E H;simp only[aE,Act.put];rw[s];gi_wp2;exact⟨_,by simp[aH,s],.inr ⟨r.oQ,a,rfl,HP.oQ⟩,br _ _⟩
   |6,_=>
    simp at l;subst l;have F:wD b C nw L z.heap.size (p 4) w':=Zq I 4
    rcases F with⟨d,s⟩|⟨d,a,s,B,D,E,H⟩
    ·have r:Hid _:=d
     clear d;simp only[aE,Act.put];rw[s];gi_wp2;exact⟨.int .i64 1,by simp[aH,s],by unfold LH;rw[r.oQ];rfl,br _ _⟩
    have r:Hid _:=d;clear d B D E H;simp only[aE,Act.put];rw[s];gi_wp2;exact⟨.int .i64 C,by simp[aH,s],by unfold LH;rw[r.oQ];rfl,br _ _⟩
   |q+7,h=>exact absurd h (by omega)
  case fin=>
   intro p X j hp;have A:DB b nw L z.heap.size (p 5) X:=hp 5 (by decide);have d6:p 6=.int .i64 (if aN b then C else 1):=hp 6 (by decide);have N1:=aC y j;have R1:=bJ Z.oQ j;have hs1:=j.size;obtain⟨r0,r1,r2⟩:=aM R1;have rf:=iQ R1;have hS:∀u v x:Value,aT (λk=>k=w.heap.size+1+1) X (((X.setCell ⟨w.heap.size+1+1,0,none⟩ u).setCell ⟨w.heap.size+1+1,1,none⟩ v).setCell ⟨w.heap.size+1+1,2,none⟩ x):=λu v x=>(((aT.refl (λk=>k=w.heap.size+1+1) X).set (g:=w.heap.size+1+1) rfl _ _).set (g:=w.heap.size+1+1) rfl _ _).set (g:=w.heap.size+1+1) rfl _ _;have O:=λu v x=>(hS u v x).under N1 (nlq _) (λk hk=>by rw[hk];omega);clear hp j R1 k0 k1 k2 V P N hR;simp only[lds,List.drop_zero,aE,Act.put];rw[d6];clear d6;generalize p 0=v0;generalize p 1=v1;generalize p 2=v2;generalize p 3=v3;generalize p 4=v4
   rcases A with⟨d,A⟩|⟨d,a,A,B,D,E,H⟩
   ·have r:Hid _:=d
    rw[A,d];clear A d;gi_wp2_with fail
    go_wp2_with fail
    exact bpr (v:=.tuple #[Bk.val ⟨0,none,[],0,none,[],0⟩,.int .i64 1]) (by simp[results,Tryz.results107,go_sem,r0,r1,r2]) rfl ⟨⟨_,rfl,.inl ⟨r.oQ,rfl⟩⟩,O _ _ _⟩
   ·have r:Hid _:=d
    have HP:Hid (a.now=nw/\a.fl=b.fl/\aU L a.hl):=⟨B,D,E⟩;rw[A,d];clear A d B D E;gi_wp2_with fail
    go_wp2_with fail
    exact bpr (v:=.tuple #[a.val,.int .i64 C]) (by simp[results,Tryz.results107,go_sem,r0,r1,r2]) rfl ⟨⟨_,rfl,.inr ⟨r.oQ,a,rfl,HP.oQ.1,HP.oQ.2.1,HP.oQ.2.2,(H.but (hS _ _ _) (λk hk=>by rw[hk];omega)).weak (by omega)⟩⟩,O _ _ _⟩
def WE (n:Int)(b':Bk)(_:Nat)(_:Bool)(b'':Bk)(c:Int):Prop:=c=cV b' n/\b''.now=fF b' n/\b''.fl=b'.fl/\aU (eR b' n) b''.hl
theorem KI {b:Bk}(h:aN b=true):0<=b.now/\b.now<=10000:=by
 simp only[aN,bat]at h;have a:=h.1;simp only[nT,dte]at a;exact a
theorem PH (n:Int)(T:Nat)(b:Bk)(nm:ByteArray)(w:World)(m:w.cell? ⟨T,0,none⟩=some (.iface 148 (.agg #[.int .i64 n])))(k:∀h∈b.hl,h.Fit):
 oS 150 #[.pointer (some ⟨T,0,none⟩)] b nm (WE n) w:=by
 intro b' i f P z W a c hz l r s;have c0:W.cell? ⟨T,0,none⟩=some (.iface 148 (.agg #[.int .i64 n])):=(s.cell (aA m)).trans m;have h16:=lS a;have d:=KI a;have HBK:Hid _:=a;clear a;show aY 150 #[.pointer (some ⟨P,0,none⟩),.pointer (some ⟨T,0,none⟩)] W _;go_enter Tryz.func150,Tryz.ntmps150;go_wp2_with fail;refine(U9 z P b' nm i f n W r l (c.lk.fit k) (by rw[c.lk.len];omega) (by rw[c.now];exact d.1) (by rw[c.now];exact d.2)).mono ?_;rintro e w1 ⟨b'',rfl,o,p,q,g,j⟩;go_wp2;go_ret;exact⟨_,_,rfl,⟨rfl,o,p,q⟩,g,j⟩
theorem zK {l m:List Hx}(b:Int)(h:aU l m):j6 b l=j6 b m:=by
 unfold j6;rw[h.map (jC b) (λa c g=>by unfold jC;rw[g.n,g.t,g.x])]
theorem wL {b b':Bk}(n:Int)(c:b'.now=b.now)(h:aU b.hl b'.hl):cV b' n=cV b n/\fF b' n=fF b n/\aU (eR b n) (eR b' n):=by
 have a:cV b' n=cV b n:=by unfold cV;rw[c]
 refine⟨a,by unfold fF;rw[a,c],?_⟩;unfold eR;rw[a,c,zK _ h];split;·exact aU.refl _
 ·exact h
theorem FP (b:Bk)(n:Int)(w:World)(hL:j9 w)(hf:Xs 3 Fx.cells w b.fa b.fl)(C:b.fl.length<=1048576)(z:b.fl.length<=b.fc)(s:b.fc<=9223372036854775807)(F:∀f∈b.fl,f.n.size<=9223372036854775807)(hh:Xs 3 Hx.cells w b.ha b.hl)(D:b.hl.length<=1048576)(A:∀h∈b.hl,h.In w/\h.Fit):
 aY 66 #[b.val,.int .i64 n] w λe w'=>(∃v,e=.returned v/\wD b (cV b n) (fF b n) (eR b n) w.heap.size v w')/\aF w w':=by
 have o:aF w ((w.alloc b.obj).alloc (.cells #[.int .i64 0,.slice none 0 0,.slice none 0 0] 30)):=aB (aB (br _ _) _) _;have H:=(halq (w.alloc b.obj) (.cells #[.int .i64 0,.slice none 0 0,.slice none 0 0] 30) w.heap.size (by simp)).trans (wnq w b.obj);have p:=wnq (w.alloc b.obj) (.cells #[.int .i64 0,.slice none 0 0,.slice none 0 0] 30);rw[wsa]at p
 go_enter Tryz.func66,Tryz.ntmps66
 go_wp2_with fail
 obtain⟨I,r⟩:=cK ((w.alloc b.obj).alloc (.cells #[.int .i64 0,.slice none 0 0,.slice none 0 0] 30));rw[r]at o H p ⊢;have hz1:w.heap.size+1<I.heap.size:=(bU p);clear r
 refine(CN (.iface 148 (.agg #[.int .i64 n])) (.inl ⟨_,_,rfl⟩) b ⟨#[]⟩ (WE n) (cV b n) (fF b n) (eR b n) I (hL.zL o) (hf.zL o) C z s F (hh.zL o) D (λh m=>⟨(A h m).1.zL o,(A h m).2⟩)
  (λW _=>(GS n W).mono (λe w' h=>⟨h.1,by rw[h.2];exact br _ _⟩))
  (λT W _ y=>PH n T b ⟨#[]⟩ W y (λh m=>(A h m).2))
  (λb' i f a c _ E hr=>by
   obtain⟨X,Y,Z,h4⟩:=hr;obtain⟨S,U,V⟩:=wL n E.now E.lk
   exact⟨X.trans S,Y.trans U,Z.trans E.fl,V.trans h4⟩)).mono ?_
 rintro e G ⟨⟨v,rfl,y⟩,j⟩;have Q:=aC o j;have t:=bJ p j;obtain⟨N,O,P⟩:=aM t;have rf:=iQ t;have hs1:=j.size;clear H p t j;have M:∀u v x:Value,aT (λk=>k=w.heap.size+1) G (((G.setCell ⟨w.heap.size+1,0,none⟩ u).setCell ⟨w.heap.size+1,1,none⟩ v).setCell ⟨w.heap.size+1,2,none⟩ x):=λu v x=>(((aT.refl (λk=>k=w.heap.size+1) G).set (g:=w.heap.size+1) rfl _ _).set (g:=w.heap.size+1) rfl _ _).set (g:=w.heap.size+1) rfl _ _;have q:=λu v x=>(M u v x).under Q (nlq _) (λk B=>by rw[B];omega)
 rcases y with⟨d,rfl⟩|⟨d,a,rfl,J,K,L,R⟩
 ·have l:Hid _:=d
  clear d;go_wp2_with fail
  exact bpr (v:=.tuple #[Bk.val ⟨0,none,[],0,none,[],0⟩,.int .i64 1]) (by simp[results,Tryz.results66,go_sem,N,O,P]) rfl ⟨⟨_,rfl,.inl ⟨l.oQ,rfl⟩⟩,q _ _ _⟩
 ·have l:Hid _:=d
  have HP:Hid (a.now=fF b n/\a.fl=b.fl/\aU (eR b n) a.hl):=⟨J,K,L⟩;clear d J K L;go_wp2_with fail
  exact bpr (v:=.tuple #[a.val,.int .i64 (cV b n)]) (by simp[results,Tryz.results66,go_sem,N,O,P]) rfl ⟨⟨_,rfl,.inr ⟨l.oQ,a,rfl,HP.oQ.1,HP.oQ.2.1,HP.oQ.2.2,(R.but (M _ _ _) (λk B=>by rw[B];omega)).weak (by omega)⟩⟩,q _ _ _⟩
theorem mP (l:List Hx)(nm:ByteArray):j8 l nm=-1∨∃j,j<l.length/\j8 l nm=(j:Int):=by
 unfold j8;cases h:l.findIdx? (λh=>h.n.toList==nm.toList)with
 |none=>exact .inl rfl
 |some i=>exact .inr ⟨i,(List.findIdx?_eq_some_iff_getElem.1 h).1,rfl⟩
theorem eF.put {z:Nat}{w w':World}{b:Bk}{g a i n:Nat}{o:Hx}{f:Nat->Value}(h:eF z w b)(ha:b.ha=some ⟨g,0,none⟩)(l:z<=g)(r:w.rowIs g 90 n f)(q:aT (λk=>k=g) w w')(C:fP 90 3 Hx.cells w' g a (b.hl.set i o) b.hl.length)(d:b.hl.length<=a)(D:b.hc=a)(hx:eS z w' o):
 eF z w' ⟨b.now,b.fa,b.fl,b.fc,b.ha,b.hl.set i o,b.hc⟩:=by
 refine⟨?_,.inr ⟨g,a,by rw[ha,D],l,by simpa using d,by simpa using C⟩,λy m=>?_,h.c⟩
 ·rcases h.f with e|⟨p,s,e,x,A,v,j,B⟩;·exact .inl e
  ·refine .inr ⟨p,s,e,x,A,v,j.of_block (q.block p j.lt (λe=>?_)),B⟩;have u:p=g:=e;subst u;exact absurd (kH r j) (by decide)
 ·rcases List.mem_or_eq_of_mem_set m with m|rfl;·exact(h.t y m).butHeld r q
  ·exact hx
def Z1 (X g n cap j:Nat)(na:Value)(i:Nat)(v:Value)(_w:World):Prop:=
 match i with
 |0=>v=.pointer (some ⟨X,2,none⟩)
 |1=>v=.slice (some ⟨g,0,none⟩) n cap
 |2=>v=.int .i64 (j:Int)
 |3=>v=.pointer (some ⟨X,2,none⟩)
 |4=>v=.slice (some ⟨g,0,none⟩) n cap
 |5=>v=.int .i64 (j:Int)
 |6=>v=.pointer (some ⟨g,j*3,none⟩)
 |7=>v=.pointer (some ⟨g,j*3+2,none⟩)
 |8=>v=na
 |_=>True
theorem y6 {w:World}{z E:Nat}(b:w.heap[E]?=some (.cells #[] 56))(c:z<=E):aP w z (.slice (some ⟨E,0,none⟩) ([]:List Bx).length 0) []:=
 .inr ⟨E,0,rfl,c,nlq _,λ_=>undef,⟨#[],b,rfl,λi a=>absurd a (by omega)⟩,λi a=>absurd a (by simp)⟩
def BG (b:Bk)(w:World):Prop:=∀W,aF w W->aY 38 #[b.val] W λe w'=>e=.returned (.bool (aN b))/\aF W w'
def cJ (b:Bk)(nm:ByteArray):Int:=if j8 b.hl nm<0 then 6 else(match b.hl[(j8 b.hl nm).toNat]? with|some x=>if x.nl=[]then 8 else 0|none=>6)
def dK (b:Bk)(nm:ByteArray)(took:Bool):List Hx:=if cJ b nm=0 then(match b.hl[(j8 b.hl nm).toNat]? with|some x=>b.hl.set (j8 b.hl nm).toNat (j7 took x)|none=>b.hl)else b.hl
def tP (b:Bk)(l:List Hx)(c:Int)(z:Nat)(e:Ending)(w':World):Prop:=
 (aN b=false/\e=.returned (.tuple #[Bk.val ⟨0,none,[],0,none,[],0⟩,.int .i64 1]))∨
 (aN b=true/\∃b':Bk,e=.returned (.tuple #[b'.val,.int .i64 c])/\b'.now=b.now/\b'.fl=b.fl/\aU l b'.hl/\eF z w' b')
theorem FO (b:Bk)(nm:ByteArray)(took:Bool)(w:World)(ym:BG b w)(hf:Xs 3 Fx.cells w b.fa b.fl)(yv:b.fl.length<=1048576)(hh:Xs 3 Hx.cells w b.ha b.hl)(zx:b.hl.length<=1048576)(hg:∀h∈b.hl,h.In w/\h.Fit):
 aY 19 #[b.val,.string nm,.bool took] w λe w'=>tP b (dK b nm took) (cJ b nm) w.heap.size e w'/\aF w w':=by
 have zh:aF w ((w.alloc b.obj).alloc (.cells #[.int .i64 0,.slice none 0 0,.slice none 0 0] 30)):=aB (aB (br _ _) _) _;have A0:=(halq (w.alloc b.obj) (.cells #[.int .i64 0,.slice none 0 0,.slice none 0 0] 30) w.heap.size (by simp)).trans (wnq w b.obj);have R0:=wnq (w.alloc b.obj) (.cells #[.int .i64 0,.slice none 0 0,.slice none 0 0] 30);rw[wsa]at R0;go_enter Tryz.func19,Tryz.ntmps19;go_wp2_with fail;obtain⟨W0,yh⟩:=cK ((w.alloc b.obj).alloc (.cells #[.int .i64 0,.slice none 0 0,.slice none 0 0] 30));rw[yh]at zh A0 R0 ⊢;have hz1:w.heap.size+1<W0.heap.size:=(bU R0);clear yh;refine(ym W0 zh).mono ?_;rintro e w1 ⟨rfl,Y⟩;have N1:=aC zh Y;have A1:=bJ A0 Y;have R1:=bJ R0 Y;have hs1:=Y.size;clear A0 R0 Y zh ym;have zd:∀(X:World) (u v x:Value),aT (λk=>k=w.heap.size+1) X (((X.setCell ⟨w.heap.size+1,0,none⟩ u).setCell ⟨w.heap.size+1,1,none⟩ v).setCell ⟨w.heap.size+1,2,none⟩ x):=λX u v x=>(((aT.refl (λk=>k=w.heap.size+1) X).set (g:=w.heap.size+1) rfl _ _).set (g:=w.heap.size+1) rfl _ _).set (g:=w.heap.size+1) rfl _ _;cases hbk:aN b with
 |false=>
  have zo:Hid _:=hbk;obtain⟨r0,r1,r2⟩:=aM R1;have rf:=iQ R1;clear A1 R1 hbk;go_wp2_with fail;exact bpr (v:=.tuple #[Bk.val ⟨0,none,[],0,none,[],0⟩,.int .i64 1]) (by simp[results,Tryz.results19,go_sem,r0,r1,r2]) rfl ⟨.inl ⟨zo.oQ,rfl⟩,(zd w1 _ _ _).under N1 (nlq _) (λk hk=>by rw[hk];omega)⟩
 |true=>
  have zo:Hid _:=hbk;obtain⟨k0,k1,k2⟩:=aM A1;have zz:Hid _:=A1;have yc:Hid _:=R1;clear A1 R1 hbk;go_wp2_with fail;refine(jV b w1 (hf.zL N1) yv (hh.zL N1) zx (λh m=>⟨(hg h m).1.zL N1,(hg h m).2⟩)).mono ?_;rintro e C ⟨⟨x,rfl,e1,e2,yk,hA⟩,Z⟩;have za:aF C (C.alloc x.obj):=aB (br _ _) _;have X3:=wnq C x.obj;have N3:=aC (aC N1 Z) za;have A3:=bJ (bJ zz.oQ Z) za;have zs:Hid _:=bJ (bJ yc.oQ Z) za;have zu:=hA.zL za;have hs2:=Z.size;obtain⟨w3,yn⟩:=cK (C.alloc x.obj);rw[yn]at X3 N3 A3 zs zu;have yf:Hid _:=X3;have ya:Hid _:=A3;have yd:Hid _:=zu;have ze:Hid _:=e1;have zf:Hid _:=e2;have J:Hid _:=yk;have hs3:C.heap.size<w3.heap.size:=(bU X3);clear k0 k1 k2;obtain⟨k0,k1,k2⟩:=aM A3;clear X3 A3 zu hA za Z N1 zz yc e1 e2 yk;go_wp2_with fail;clear yn;refine(AZ b nm w3 (hh.zL N3) zx).mono ?_;rintro e r ⟨rfl,M⟩;have N4:=aC N3 M;have X4:=bJ yf.oQ M;have A4:=bJ ya.oQ M;have zg:Hid _:=bJ zs.oQ M;have O:Hid _:=yd.oQ.zL M;have hs4:=M.size;clear k0 k1 k2 M yf ya zs yd N3
  have N:Hid (∀(X:World) (y:Bk),y.now=b.now->y.fl=b.fl->aF w X->eF w1.heap.size X y->∀l c,aU l y.hl->dK b nm took=l->cJ b nm=c->tP b (dK b nm took) (cJ b nm) w.heap.size (.returned (.tuple #[y.val,.int .i64 c])) (((X.setCell ⟨w.heap.size+1,0,none⟩ (.int .i64 y.now)).setCell ⟨w.heap.size+1,1,none⟩ (.slice y.fa y.fl.length y.fc)).setCell ⟨w.heap.size+1,2,none⟩ (.slice y.ha y.hl.length y.hc))/\aF w (((X.setCell ⟨w.heap.size+1,0,none⟩ (.int .i64 y.now)).setCell ⟨w.heap.size+1,1,none⟩ (.slice y.fa y.fl.length y.fc)).setCell ⟨w.heap.size+1,2,none⟩ (.slice y.ha y.hl.length y.hc))):=λX y h1 h2 hN hS l c hl el ec=>by
   refine⟨.inr ⟨zo.oQ,y,by rw[ec],h1,h2,by rw[el];exact hl,(hS.but (zd X _ _ _) (λk hk=>by rw[hk];omega)).weak (by omega)⟩,(zd X _ _ _).under hN (nlq _) (λk hk=>by rw[hk];omega)⟩
  obtain⟨at0,zi⟩:=cK (j8 b.hl nm);obtain⟨r0,r1,r2⟩:=aM zg.oQ;have rf:=iQ zg.oQ;obtain⟨x0,x1,R⟩:=aM X4;rcases mP b.hl nm with h|⟨j,hj,h⟩
  ·have yl:decide (j8 b.hl nm<0)=true:=by rw[h];rfl
   have HC:Hid (cJ b nm=6/\dK b nm took=b.hl):=by
    have h6:cJ b nm=6:=by unfold cJ;rw[h];rfl
    exact⟨h6,by unfold dK;rw[h6];rfl⟩
   clear h zi X4 A4;generalize j8 b.hl nm=at1 at yl;have zr:Hid _:=N4;go_wp2_with fail;exact bpr (v:=.tuple #[x.val,.int .i64 6]) (by simp[results,Tryz.results19,go_sem,r0,r1,r2]) rfl (N.oQ r x ze.oQ zf.oQ zr.oQ O.oQ _ _ J.oQ HC.oQ.2 HC.oQ.1)
  ·obtain⟨bl,zm,ea,hc⟩:∃bl zm,b.ha=some ⟨bl,zm,none⟩/\∀k (h:k<b.hl.length),aZ w bl (zm+k*3) b.hl[k].cells:=by
    rcases hh with h|h;·rw[h]at hj;simp at hj
    ·exact h
   obtain⟨e0,e1,e2⟩:=iI ((hc j hj).zL N4);have k2:r.cell? ⟨w.heap.size,2,none⟩=some (.slice (some ⟨bl,zm,none⟩) b.hl.length b.hc):=by rw[←ea];exact aJ A4 rfl
   have hnn:=(hg b.hl[j] (lgm hj)).2.nn;rw[h];cases hnl:b.hl[j].nl with
   |nil=>
    have HC:Hid (cJ b nm=8/\dK b nm took=b.hl):=by
     have h8:cJ b nm=8:=by
      unfold cJ;rw[h,if_neg (by omega)];simp[lge hj,hnl]
     exact⟨h8,by unfold dK;rw[h8];rfl⟩
    rw[hnl]at e2;have zr:Hid _:=N4;clear h zi X4 A4 hc ea hnl e0 e1;go_wp2_with fail;exact bpr (v:=.tuple #[x.val,.int .i64 8]) (by simp[results,Tryz.results19,go_sem,r0,r1,r2]) rfl (N.oQ r x ze.oQ zf.oQ zr.oQ O.oQ _ _ J.oQ HC.oQ.2 HC.oQ.1)
   |cons y ys=>
    have HC:Hid (cJ b nm=0/\dK b nm took=b.hl.set j (j7 took b.hl[j])):=by
     have h0:cJ b nm=0:=by
      unfold cJ;rw[h,if_neg (by omega)];simp[lge hj,hnl]
     refine⟨h0,?_⟩;unfold dK;rw[h0,h];simp[lge hj]
    have hlen:0<b.hl[j].nl.length:=by rw[hnl];simp
    have hz2:((b.hl[j].nl.length:Int)==0)=false:=beq_false_of_ne (by omega);have A:j<x.hl.length:=by rw[J.oQ.len];exact hj
    obtain⟨y,hy⟩:=bP (x.hl[j]);have B:b.hl[j].Like y:=by rw[hy];exact J.oQ.like j hj
    obtain⟨g,s,zk,zl,yj,zn,f,d,zb⟩:∃g s,x.ha=some ⟨g,0,none⟩/\x.hc=s/\w1.heap.size<=g/\x.hl.length<=s/\fP 90 3 Hx.cells r g s x.hl x.hl.length:=by
     rcases O.oQ.h with⟨_,e⟩|⟨g,s,e,h1,h2,h3⟩;·rw[e]at A;simp at A
     ·simp only[Value.slice.injEq]at e;exact⟨g,s,e.1,e.2.2,h1,h2,h3⟩
    have D:C.heap.size≠g:=λe=>by
     obtain⟨cs,yi,_⟩:=d;rw[←e,X4]at yi;cases yi
    have G:w.heap.size+1≠g:=by omega
    have HY:Hid _:=hy;have P:Hid _:=zk;have Q:=aG zl;have ye:Hid (eS w1.heap.size r y):=O.oQ.t y (by rw[hy];exact lgm A);have zp:Hid _:=zb;rw[zk,zl]at R;have f1:=d.cell (i:=j*3+1) (by omega);have f2:=d.cell (i:=j*3+2) (by omega);rw[show f (j*3+1)=.slice y.ta y.tl.length y.tc from by rw[hy];exact zb j A A 1 _ rfl]at f1;rw[show f (j*3+2)=.slice y.na y.nl.length y.nc from by rw[hy];exact zb j A A 2 _ rfl]at f2;have cf:=λi=>d.frozen i;have hjb:(j:Int)<(b.hl.length:Int):=by omega
    have hjx2:(j:Int)<(x.hl.length:Int):=by omega
    have hxl:x.hl.length<=1048576:=by rw[J.oQ.len];exact zx
    cases took with
    |false=>
     have zq:Hid (∀y':Hx,(j7 false b.hl[j]).Like y'->aU (b.hl.set j (j7 false b.hl[j])) (x.hl.set j y')):=λy' h=>J.oQ.set j h;have yg:(j7 false b.hl[j]).Like ⟨y.n,y.ta,y.tl,y.tc,some ⟨r.heap.size,0,none⟩,[],0⟩:=⟨B.n,B.t,rfl⟩;have yo:Hid _:=yg;have z:aT (λk=>k=g) r r:=aT.refl _ _
     have H:r.rowIs g 90 (s*3) (λi=>if i=j*3+1 then .slice y.ta y.tl.length y.tc else f i):=by
      have h2:f=(λi=>if i=j*3+1 then .slice y.ta y.tl.length y.tc else f i):=by
       funext i;by_cases e:i=j*3+1
       ·subst e;rw[if_pos rfl,HY.oQ];exact zp.oQ j A A 1 _ rfl
       ·rw[if_neg e]
      rw[←h2];exact d
     have W:=wnq r (.cells #[] 56);have E:=H.alloc (.cells #[] 56);have zc:=E.set (j*3+2) (.slice (some ⟨r.heap.size,0,none⟩) 0 0);have a:aT (λk=>k=g) r ((r.alloc (.cells #[] 56)).setCell ⟨g,j*3+2,none⟩ (.slice (some ⟨r.heap.size,0,none⟩) 0 0)):=(z.trans (aT.below (aB (br _ _) _))).set (g:=g) rfl _ _;have U:=bX W (p:=⟨g,j*3+2,none⟩) (by show r.heap.size≠g;have:=H.lt;omega) (.slice (some ⟨r.heap.size,0,none⟩) 0 0);have cb:=E.cell (i:=j*3+2) (by omega);have zt:=λi=>E.frozen i;have zy:(r.alloc (.cells #[] 56)).cell? ⟨C.heap.size,2,none⟩=some (.slice (some ⟨g,0,none⟩) x.hl.length s):=(z.trans (aT.below (aB (br _ _) _))).cell (p:=⟨C.heap.size,2,none⟩) D R;have yx:r.cell? ⟨C.heap.size,2,none⟩=some (.slice (some ⟨g,0,none⟩) x.hl.length s):=z.cell (p:=⟨C.heap.size,2,none⟩) D R;have y0:=a.cell (p:=⟨C.heap.size,0,none⟩) D x0;have y1:=a.cell (p:=⟨C.heap.size,1,none⟩) D x1;have y2:=a.cell (p:=⟨C.heap.size,2,none⟩) D R;have s0:=a.cell (p:=⟨w.heap.size+1,0,none⟩) G r0;have s1:=a.cell (p:=⟨w.heap.size+1,1,none⟩) G r1;have s2:=a.cell (p:=⟨w.heap.size+1,2,none⟩) G r2;have sB:=bE zg.oQ a G;have yw:r.heap.size ≥ w1.heap.size:=by omega
     have V:eF w1.heap.size ((r.alloc (.cells #[] 56)).setCell ⟨g,j*3+2,none⟩ (.slice (some ⟨r.heap.size,0,none⟩) 0 0)) ⟨x.now,x.fa,x.fl,x.fc,x.ha,x.hl.set j ⟨y.n,y.ta,y.tl,y.tc,some ⟨r.heap.size,0,none⟩,[],0⟩,x.hc⟩:=
      O.oQ.put P.oQ yj d a (fP.lists (h:=y) zc zp.oQ (by rw[HY.oQ];exact lge A) rfl) zn Q.oQ ⟨(ye.oQ.butHeld d a).t,y6 U (by omega)⟩
     have L:Hid _:=V;have K:Hid _:=a.under N4 (nlq _) (λk hk=>by have yt:k=g:=hk;omega);obtain⟨Wb,zv⟩:=cK (r.alloc (.cells #[] 56));rw[zv]at cb zt zy y0 y1 y2 s0 s1 s2 sB L K;obtain⟨Wc,zw⟩:=cK (Wb.setCell ⟨g,j*3+2,none⟩ (.slice (some ⟨r.heap.size,0,none⟩) 0 0));rw[zw]at y0 y1 y2 s0 s1 s2 sB L K;have sf:=iQ sB;clear E zc a U W V sB H z x0 x1 R r0 r1 r2 rf;clear f1 f2 cf d zb hy zk zl h zi X4 A4 hc ea hnl e0 e1 B yg;go_wp2_with fail;have yu:(x.hl.set j (⟨y.n,y.ta,y.tl,y.tc,some ⟨r.heap.size,0,none⟩,[],0⟩:Hx)).length=x.hl.length:=by simp
     exact bpr (v:=.tuple #[Bk.val ⟨x.now,x.fa,x.fl,x.fc,x.ha,x.hl.set j ⟨y.n,y.ta,y.tl,y.tc,some ⟨r.heap.size,0,none⟩,[],0⟩,x.hc⟩,.int .i64 0]) (by simp[results,Tryz.results19,go_sem,s0,s1,s2,P.oQ,Q.oQ]) rfl (by
      have:=N.oQ Wc ⟨x.now,x.fa,x.fl,x.fc,x.ha,x.hl.set j ⟨y.n,y.ta,y.tl,y.tc,some ⟨r.heap.size,0,none⟩,[],0⟩,x.hc⟩ ze.oQ zf.oQ K.oQ L.oQ _ _ (zq.oQ _ yo.oQ) HC.oQ.2 HC.oQ.1;simpa[P.oQ,Q.oQ]using this)
    |true=>
     have zq:Hid (∀y':Hx,(j7 true b.hl[j]).Like y'->aU (b.hl.set j (j7 true b.hl[j])) (x.hl.set j y')):=λy' h=>J.oQ.set j h;have yb:Hid _:=B;have yp:=aG d;clear zb hy zk zl h zi X4 A4 hc ea hnl e0 e1 B d;go_wp2_with fail;have d:=yp.oQ;refine pG 9 [some 32,some 33,some 34,some 35,some 36,some 37,some 38,some 39,some 40] (Z1 C.heap.size g x.hl.length s j (.slice y.na y.nl.length y.nc)) (λ_ _ _ _ h _=>h) ?step ?fin
     case step=>
      intro i o I w' yr T hB hd;match i,yr with
      |0,_|2,_|3,_|5,_=>
       simp at T;subst T;simp only[aE,Act.put];gi_wp2;exact⟨_,by simp[aH],rfl,br _ _⟩
      |1,_=>
       simp at T;subst T;have d0:I 0=_:=Zq hd 0;have kx:w'.cell? ⟨C.heap.size,2,none⟩=some (.slice (some ⟨g,0,none⟩) x.hl.length s):=(hB.cell (aA R)).trans R;simp only[aE,Act.put];rw[d0];gi_wp2;exact⟨_,by simp[aH,d0],rfl,br _ _⟩
      |4,_=>
       simp at T;subst T;have d3:I 3=_:=Zq hd 3;have kx:w'.cell? ⟨C.heap.size,2,none⟩=some (.slice (some ⟨g,0,none⟩) x.hl.length s):=(hB.cell (aA R)).trans R;simp only[aE,Act.put];rw[d3];gi_wp2;exact⟨_,by simp[aH,d3],rfl,br _ _⟩
      |6,_=>
       simp at T;subst T;have d4:I 4=_:=Zq hd 4;have d5:I 5=_:=Zq hd 5;simp only[aE,Act.put];rw[d4,d5];gi_wp2;exact⟨_,by simp[aH,d4,d5],rfl,br _ _⟩
      |7,_=>
       simp at T;subst T;have d6:I 6=_:=Zq hd 6;simp only[aE,Act.put];rw[d6];gi_wp2;exact⟨_,by simp[aH,d6],rfl,br _ _⟩
      |8,_=>
       simp at T;subst T;have d7:I 7=_:=Zq hd 7;have kn:w'.cell? ⟨g,j*3+2,none⟩=some (.slice y.na y.nl.length y.nc):=(hB.cell (aA f2)).trans f2;simp only[aE,Act.put];rw[d7];gi_wp2;exact⟨_,by simp[aH,d7],rfl,br _ _⟩
      |q+9,h=>exact absurd h (by omega)
     case fin=>
      intro I w5 hB hp;have d1:I 1=_:=hp 1 (by decide);have d2:I 2=_:=hp 2 (by decide);have d8:I 8=_:=hp 8 (by decide);clear hp;simp only[lds,List.drop_zero,aE,Act.put];rw[d1,d2,d8];clear d1 d2 d8;generalize I 0=v0;generalize I 3=v3;generalize I 4=v4;generalize I 5=v5;generalize I 6=v6;generalize I 7=v7;have zj:=d.of_block (hB.block _ d.lt);have c5:=zj.cell (i:=j*3+1) (by omega);have cf5:=λi=>zj.frozen i;have z:aT (λk=>k=g) r (w5.setCell ⟨g,j*3+1,none⟩ (.slice y.na y.nl.length y.nc)):=(aT.below (S:=λk=>k=g) hB).set (g:=g) rfl _ _;have H:=zj.set (j*3+1) (.slice y.na y.nl.length y.nc);obtain⟨F,yq⟩:=cK (w5.setCell ⟨g,j*3+1,none⟩ (.slice y.na y.nl.length y.nc));rw[yq]at z H;have hs5:=hB.size;have hsa:r.heap.size<=F.heap.size:=z.size;clear f1 f2 cf zj hB;have W:=wnq F (.cells #[] 56);have E:=H.alloc (.cells #[] 56);have zc:=E.set (j*3+2) (.slice (some ⟨F.heap.size,0,none⟩) 0 0);have a:aT (λk=>k=g) r ((F.alloc (.cells #[] 56)).setCell ⟨g,j*3+2,none⟩ (.slice (some ⟨F.heap.size,0,none⟩) 0 0)):=(z.trans (aT.below (aB (br _ _) _))).set (g:=g) rfl _ _;have U:=bX W (p:=⟨g,j*3+2,none⟩) (by show F.heap.size≠g;have:=H.lt;omega) (.slice (some ⟨F.heap.size,0,none⟩) 0 0);have cb:=E.cell (i:=j*3+2) (by omega);have zt:=λi=>E.frozen i;have zy:(F.alloc (.cells #[] 56)).cell? ⟨C.heap.size,2,none⟩=some (.slice (some ⟨g,0,none⟩) x.hl.length s):=(z.trans (aT.below (aB (br _ _) _))).cell (p:=⟨C.heap.size,2,none⟩) D R;have yx:F.cell? ⟨C.heap.size,2,none⟩=some (.slice (some ⟨g,0,none⟩) x.hl.length s):=z.cell (p:=⟨C.heap.size,2,none⟩) D R;have y0:=a.cell (p:=⟨C.heap.size,0,none⟩) D x0;have y1:=a.cell (p:=⟨C.heap.size,1,none⟩) D x1;have y2:=a.cell (p:=⟨C.heap.size,2,none⟩) D R;have s0:=a.cell (p:=⟨w.heap.size+1,0,none⟩) G r0;have s1:=a.cell (p:=⟨w.heap.size+1,1,none⟩) G r1;have s2:=a.cell (p:=⟨w.heap.size+1,2,none⟩) G r2;have sB:=bE zg.oQ a G;have yw:F.heap.size ≥ w1.heap.size:=by have:=z.size;omega
      have V:eF w1.heap.size ((F.alloc (.cells #[] 56)).setCell ⟨g,j*3+2,none⟩ (.slice (some ⟨F.heap.size,0,none⟩) 0 0)) ⟨x.now,x.fa,x.fl,x.fc,x.ha,x.hl.set j ⟨y.n,y.na,y.nl,y.nc,some ⟨F.heap.size,0,none⟩,[],0⟩,x.hc⟩:=
       O.oQ.put P.oQ yj d a (fP.lists (h:=y) zc zp.oQ (by rw[HY.oQ];exact lge A) rfl) zn Q.oQ ⟨(ye.oQ.butHeld d a).n,y6 U (by omega)⟩
      have L:Hid _:=V;have K:Hid _:=a.under N4 (nlq _) (λk hk=>by have yt:k=g:=hk;omega);obtain⟨Wb,zv⟩:=cK (F.alloc (.cells #[] 56));rw[zv]at cb zt zy y0 y1 y2 s0 s1 s2 sB L K;obtain⟨Wc,zw⟩:=cK (Wb.setCell ⟨g,j*3+2,none⟩ (.slice (some ⟨F.heap.size,0,none⟩) 0 0));rw[zw]at y0 y1 y2 s0 s1 s2 sB L K;have sf:=iQ sB;clear d E zc a U W V sB H z x0 x1 R r0 r1 r2 rf;gi_wp2_with fail;go_wp2_with fail;have yu:(x.hl.set j (⟨y.n,y.na,y.nl,y.nc,some ⟨F.heap.size,0,none⟩,[],0⟩:Hx)).length=x.hl.length:=by simp
      exact bpr (v:=.tuple #[Bk.val ⟨x.now,x.fa,x.fl,x.fc,x.ha,x.hl.set j ⟨y.n,y.na,y.nl,y.nc,some ⟨F.heap.size,0,none⟩,[],0⟩,x.hc⟩,.int .i64 0]) (by simp[results,Tryz.results19,go_sem,s0,s1,s2,P.oQ,Q.oQ]) rfl (by
       have:=N.oQ Wc ⟨x.now,x.fa,x.fl,x.fc,x.ha,x.hl.set j ⟨y.n,y.na,y.nl,y.nc,some ⟨F.heap.size,0,none⟩,[],0⟩,x.hc⟩ ze.oQ zf.oQ K.oQ L.oQ _ _ (zq.oQ _ ⟨yb.oQ.n,yb.oQ.x,rfl⟩) HC.oQ.2 HC.oQ.1;simpa[P.oQ,Q.oQ]using this)
def dX (b:Bk)(nm:ByteArray)(tl:List Bx):Int:=jH b nm (j8 b.hl nm).toNat (decide (0<=j8 b.hl nm)) tl
def fX (b:Bk)(nm:ByteArray)(tl:List Bx):List Hx:=lG b nm (j8 b.hl nm).toNat (decide (0<=j8 b.hl nm)) tl
def XV (X g n cap j:Nat)(tv:Value)(Z:Nat)(tl:List Bx)(i:Nat)(v:Value)(w:World):Prop:=
 match i with
 |0=>v=.pointer (some ⟨X,2,none⟩)
 |1=>v=.slice (some ⟨g,0,none⟩) n cap
 |2=>v=.int .i64 (j:Int)
 |3=>v=tv
 |4=>aP w Z v tl
 |_=>True
theorem XV.zL {X g n a j:Nat}{c:Value}{Z:Nat}{b:List Bx}(i:Nat)(v:Value)(w w':World)(h:XV X g n a j c Z b i v w)(d:aF w w'):XV X g n a j c Z b i v w':=by
 unfold XV at h ⊢;split
 all_goals first
  |exact h
  |exact aP.zL h d
  |trivial
theorem CS (b:Bk)(nm:ByteArray)(a:List Bx)(ta:Option Addr)(tc:Nat)(w:World)(yl:BG b w)(r:pU w b a ta):
 aY 18 #[b.val,.string nm,.slice ta a.length tc] w λe w'=>tP b (fX b nm a) (dX b nm a) w.heap.size e w'/\aF w w':=by
 have za:aF w ((w.alloc b.obj).alloc (.cells #[.int .i64 0,.slice none 0 0,.slice none 0 0] 30)):=aB (aB (br _ _) _) _;have A0:=(halq (w.alloc b.obj) (.cells #[.int .i64 0,.slice none 0 0,.slice none 0 0] 30) w.heap.size (by simp)).trans (wnq w b.obj);have R0:=wnq (w.alloc b.obj) (.cells #[.int .i64 0,.slice none 0 0,.slice none 0 0] 30);rw[wsa]at R0;go_enter Tryz.func18,Tryz.ntmps18;go_wp2_with fail;obtain⟨W0,yg⟩:=cK ((w.alloc b.obj).alloc (.cells #[.int .i64 0,.slice none 0 0,.slice none 0 0] 30));rw[yg]at za A0 R0 ⊢;have hz1:w.heap.size+1<W0.heap.size:=(bU R0);clear yg;refine(yl W0 za).mono ?_;rintro e w1 ⟨rfl,Q⟩;have N1:=aC za Q;have A1:=bJ A0 Q;have R1:=bJ R0 Q;have hs1:=Q.size;clear A0 R0 Q za yl;have W:∀(X:World) (u v x:Value),aT (λk=>k=w.heap.size+1) X (((X.setCell ⟨w.heap.size+1,0,none⟩ u).setCell ⟨w.heap.size+1,1,none⟩ v).setCell ⟨w.heap.size+1,2,none⟩ x):=λX u v x=>(((aT.refl (λk=>k=w.heap.size+1) X).set (g:=w.heap.size+1) rfl _ _).set (g:=w.heap.size+1) rfl _ _).set (g:=w.heap.size+1) rfl _ _;cases hbk:aN b with
 |false=>
  have zd:Hid _:=hbk;obtain⟨r0,r1,r2⟩:=aM R1;have rf:=iQ R1;clear A1 R1 hbk;go_wp2_with fail;exact bpr (v:=.tuple #[Bk.val ⟨0,none,[],0,none,[],0⟩,.int .i64 1]) (by simp[results,Tryz.results18,go_sem,r0,r1,r2]) rfl ⟨.inl ⟨zd.oQ,rfl⟩,(W w1 _ _ _).under N1 (nlq _) (λk hk=>by rw[hk];omega)⟩
 |true=>
  have zd:Hid _:=hbk;obtain⟨k0,k1,k2⟩:=aM A1;have zr:Hid _:=A1;have zy:Hid _:=R1;clear A1 R1 hbk;go_wp2_with fail;refine(jV b w1 (r.hf.zL N1) r.hnf (r.hh.zL N1) r.hnh (λh m=>⟨(r.hgood h m).1.zL N1,(r.hgood h m).2⟩)).mono ?_;rintro e N ⟨⟨x,rfl,e1,e2,yk,hA⟩,R⟩;have U:aF N (N.alloc x.obj):=aB (br _ _) _;have X3:=wnq N x.obj;have N3:=aC (aC N1 R) U;have A3:=bJ (bJ zr.oQ R) U;have ze:Hid _:=bJ (bJ zy.oQ R) U;have zh:=hA.zL U;have hs2:=R.size;obtain⟨w3,ym⟩:=cK (N.alloc x.obj);rw[ym]at X3 N3 A3 ze zh;have yc:Hid _:=X3;have zs:Hid _:=A3;have zz:Hid _:=zh;have G:Hid _:=e1;have H:Hid _:=e2;have z:Hid _:=yk;have hs3:N.heap.size<w3.heap.size:=(bU X3);clear k0 k1 k2;obtain⟨k0,k1,k2⟩:=aM A3;clear X3 A3 zh hA U R N1 zr zy e1 e2 yk;go_wp2_with fail;clear ym;refine(AZ b nm w3 (r.hh.zL N3) r.hnh).mono ?_;rintro e w4 ⟨rfl,E⟩;have N4:=aC N3 E;have X4:=bJ yc.oQ E;have A4:=bJ zs.oQ E;have I:Hid _:=bJ ze.oQ E;have C:Hid _:=zz.oQ.zL E;have hs4:=E.size;clear k0 k1 k2 E yc zs ze zz N3
  have s:Hid (∀(X:World) (y:Bk),y.now=b.now->y.fl=b.fl->aF w X->eF w1.heap.size X y->∀l c,aU l y.hl->fX b nm a=l->dX b nm a=c->tP b (fX b nm a) (dX b nm a) w.heap.size (.returned (.tuple #[y.val,.int .i64 c])) (((X.setCell ⟨w.heap.size+1,0,none⟩ (.int .i64 y.now)).setCell ⟨w.heap.size+1,1,none⟩ (.slice y.fa y.fl.length y.fc)).setCell ⟨w.heap.size+1,2,none⟩ (.slice y.ha y.hl.length y.hc))/\aF w (((X.setCell ⟨w.heap.size+1,0,none⟩ (.int .i64 y.now)).setCell ⟨w.heap.size+1,1,none⟩ (.slice y.fa y.fl.length y.fc)).setCell ⟨w.heap.size+1,2,none⟩ (.slice y.ha y.hl.length y.hc))):=λX y h1 h2 hN hS l c hl el ec=>by
   refine⟨.inr ⟨zd.oQ,y,by rw[ec],h1,h2,by rw[el];exact hl,(hS.but (W X _ _ _) (λk hk=>by rw[hk];omega)).weak (by omega)⟩,(W X _ _ _).under hN (nlq _) (λk hk=>by rw[hk];omega)⟩
  obtain⟨k0,k1,k2⟩:=aM A4;have K:Hid _:=X4;have yt:Hid _:=A4;clear X4 A4;obtain⟨yd,zj⟩:=cK (j8 b.hl nm);have zt:=aG zj;rw[zj];clear zj;go_wp2_with fail;refine(oL b.fl a b.fa ta b.fc tc w4 (r.hf.zL N4) (r.ht.zL N4) r.hnf r.hnt).mono ?_;rintro e w5 ⟨rfl,T⟩;obtain⟨v1,zl⟩:∃v,aQ b.fl a=v:=⟨_,rfl⟩;rw[zl];have J:Hid _:=zl;have A:=aC N4 T;have F:=aG T;clear zl k0 k1 k2 T;have A5:=bJ yt.oQ F.oQ;have X5:=bJ K.oQ F.oQ;have R5:=bJ I.oQ F.oQ;obtain⟨r0,r1,r2⟩:=aM R5;have rf:=iQ R5;obtain⟨x0,x1,x2⟩:=aM X5;obtain⟨k0,k1,k2⟩:=aM A5;clear A5 X5 R5;cases v1 with
  |false=>
   have B:Hid (dX b nm a=2/\fX b nm a=b.hl):=by
    have P:dX b nm a=2:=by unfold dX jH;rw[J.oQ];rfl
    exact⟨P,by unfold fX lG;unfold dX at P;rw[P];rfl⟩
   have HN:Hid _:=A;clear A;go_wp2_with fail;exact bpr (v:=.tuple #[x.val,.int .i64 2]) (by simp[results,Tryz.results18,go_sem,r0,r1,r2]) rfl (s.oQ w5 x G.oQ H.oQ HN.oQ (C.oQ.zL F.oQ) _ _ z.oQ B.oQ.2 B.oQ.1)
  |true=>
  go_wp2_with fail;refine(AD a ta tc b.now w5 (r.ht.zL A) r.hnt).mono ?_;rintro e w6 ⟨rfl,rfl⟩;obtain⟨v2,zm⟩:∃v,fJ b.now a=v:=⟨_,rfl⟩;rw[zm];have O:Hid _:=zm;clear zm;cases v2 with
  |false=>
   have B:Hid (dX b nm a=2/\fX b nm a=b.hl):=by
    have P:dX b nm a=2:=by unfold dX jH;rw[J.oQ,O.oQ];rfl
    exact⟨P,by unfold fX lG;unfold dX at P;rw[P];rfl⟩
   have HN:Hid _:=A;clear A;go_wp2_with fail;exact bpr (v:=.tuple #[x.val,.int .i64 2]) (by simp[results,Tryz.results18,go_sem,r0,r1,r2]) rfl (s.oQ w6 x G.oQ H.oQ HN.oQ (C.oQ.zL F.oQ) _ _ z.oQ B.oQ.2 B.oQ.1)
  |true=>
  rcases mP b.hl nm with h|⟨j,hj,h⟩
  ·obtain rfl:yd=-1:=zt.oQ.symm.trans h
   have B:Hid (dX b nm a=6/\fX b nm a=b.hl):=by
    have P:dX b nm a=6:=by unfold dX jH;rw[J.oQ,O.oQ,h];rfl
    exact⟨P,by unfold fX lG;unfold dX at P;rw[P];rfl⟩
   have HN:Hid _:=A;clear A h;go_wp2_with fail;exact bpr (v:=.tuple #[x.val,.int .i64 6]) (by simp[results,Tryz.results18,go_sem,r0,r1,r2]) rfl (s.oQ w6 x G.oQ H.oQ HN.oQ (C.oQ.zL F.oQ) _ _ z.oQ B.oQ.2 B.oQ.1)
  ·obtain rfl:yd=(j:Int):=zt.oQ.symm.trans h;have hneg:decide ((j:Int)<0)=false:=by simp
   obtain⟨bl,zc,ea,hc⟩:∃bl zc,b.ha=some ⟨bl,zc,none⟩/\∀k (h:k<b.hl.length),aZ w bl (zc+k*3) b.hl[k].cells:=by
    rcases r.hh with e|e;·rw[e]at hj;simp at hj
    ·exact e
   obtain⟨e0,e1,e2⟩:=iI ((hc j hj).zL A);rw[ea]at k2;have hnn:=(r.hgood b.hl[j] (lgm hj)).2.nn;have hhl:=r.hnh;cases hnl:b.hl[j].nl with
   |cons y ys=>
    have B:Hid (dX b nm a=7/\fX b nm a=b.hl):=by
     have h7:dX b nm a=7:=by
      unfold dX jH;rw[J.oQ,O.oQ,h];simp[lge hj,hnl]
     exact⟨h7,by unfold fX lG;unfold dX at h7;rw[h7];rfl⟩
    have hlen:0<b.hl[j].nl.length:=by rw[hnl];simp
    have hgt:decide ((0:Int)<(b.hl[j].nl.length:Int))=true:=by simp;omega
    have HN:Hid _:=A;clear h hc ea hnl e0 e1 A;go_wp2_with fail;exact bpr (v:=.tuple #[x.val,.int .i64 7]) (by simp[results,Tryz.results18,go_sem,r0,r1,r2]) rfl (s.oQ w6 x G.oQ H.oQ HN.oQ (C.oQ.zL F.oQ) _ _ z.oQ B.oQ.2 B.oQ.1)
   |nil=>
   have zx:=aG hnl;rw[hnl]at e2;have hjb:(j:Int)<(b.hl.length:Int):=by omega
   have yu:=aG ea;clear hc hnl e0 e1;go_wp2_with fail;rw[show(Value.agg #[.int .i64 b.now,.slice b.fa b.fl.length b.fc,.slice (some ⟨bl,zc,none⟩) b.hl.length b.hc])=b.val from by rw[←yu.oQ]];refine(sO b nm a ta tc w6 (r.zL A)).mono ?_;rintro e w7 ⟨rfl,zk⟩;obtain⟨v3,zn⟩:∃v,jO nm a b.hl=v:=⟨_,rfl⟩;rw[zn];have yb:Hid _:=zn;have A:=aC A zk;have F:=aG (aC F.oQ zk);have X7:=bJ K.oQ F.oQ;have R7:=bJ I.oQ F.oQ;clear zn k0 k1 k2 e2 x0 x1 x2 r0 r1 r2 rf zk;obtain⟨r0,r1,r2⟩:=aM R7;have rf:=iQ R7;obtain⟨x0,x1,x2⟩:=aM X7;clear X7 R7;cases v3 with
   |false=>
    have B:Hid (dX b nm a=5/\fX b nm a=b.hl):=by
     have h5:dX b nm a=5:=by
      unfold dX jH;rw[J.oQ,O.oQ,h];simp[lge hj,zx.oQ,yb.oQ]
     exact⟨h5,by unfold fX lG;unfold dX at h5;rw[h5];rfl⟩
    have HN:Hid _:=A;clear h ea A;go_wp2_with fail;exact bpr (v:=.tuple #[x.val,.int .i64 5]) (by simp[results,Tryz.results18,go_sem,r0,r1,r2]) rfl (s.oQ w7 x G.oQ H.oQ HN.oQ (C.oQ.zL F.oQ) _ _ z.oQ B.oQ.2 B.oQ.1)
   |true=>
   have B:Hid (dX b nm a=0/\fX b nm a=b.hl.set j (EH a b.hl[j])):=by
    have h0:dX b nm a=0:=by
     unfold dX jH;rw[J.oQ,O.oQ,h];simp[lge hj,zx.oQ,yb.oQ]
    refine⟨h0,?_⟩;unfold fX lG;unfold dX at h0;rw[h0,h];simp[lge hj]
   have L:j<x.hl.length:=by rw[z.oQ.len];exact hj
   obtain⟨y,hy⟩:=bP (x.hl[j]);have zv:Hid (b.hl[j].Like y):=by rw[hy];exact z.oQ.like j hj
   obtain⟨g,D,zo,zp,yz,yh,f,M,yj⟩:∃g D,x.ha=some ⟨g,0,none⟩/\x.hc=D/\w1.heap.size<=g/\x.hl.length<=D/\fP 90 3 Hx.cells w4 g D x.hl x.hl.length:=by
    rcases C.oQ.h with⟨_,e⟩|⟨g,D,e,h1,h2,h3⟩;·rw[e]at L;simp at L
    ·simp only[Value.slice.injEq]at e;exact⟨g,D,e.1,e.2.2,h1,h2,h3⟩
   have zi:N.heap.size≠g:=λe=>by
    obtain⟨cs,yi,_⟩:=M;rw[←e,K.oQ]at yi;cases yi
   have zb:w.heap.size+1≠g:=by omega
   have HY:Hid _:=hy;have zf:Hid _:=zo;have zg:=aG zp;have yx:Hid (eS w1.heap.size w4 y):=C.oQ.t y (by rw[hy];exact lgm L);have zu:Hid _:=yj;have yq:w4.cell? ⟨N.heap.size,0,none⟩=some (.int .i64 x.now):=aJ K.oQ rfl;have yr:w4.cell? ⟨N.heap.size,1,none⟩=some (.slice x.fa x.fl.length x.fc):=aJ K.oQ rfl;have zq:w4.cell? ⟨N.heap.size,2,none⟩=some (.slice x.ha x.hl.length x.hc):=aJ K.oQ rfl;have yn:w4.cell? ⟨w.heap.size+1,0,none⟩=some (.int .i64 0):=aJ I.oQ rfl;have yo:w4.cell? ⟨w.heap.size+1,1,none⟩=some (.slice none 0 0):=aJ I.oQ rfl;have yp:w4.cell? ⟨w.heap.size+1,2,none⟩=some (.slice none 0 0):=aJ I.oQ rfl;rw[zo,zp]at x2 zq;have hjx2:(j:Int)<(x.hl.length:Int):=by omega
   have hxl:x.hl.length<=1048576:=by rw[z.oQ.len];exact r.hnh
   clear yj hy zo zp h ea;go_wp2_with fail;refine pG 5 [some 50,some 51,some 52,some 53,some 54] (XV N.heap.size g x.hl.length D j (.slice ta a.length tc) w7.heap.size a) XV.zL ?step ?fin
   case step=>
    intro ii o vs w' xa ho hB hd;match ii,xa with
    |0,_|2,_|3,_=>
     simp at ho;subst ho;simp only[aE,Act.put];gi_wp2;exact⟨_,by simp[aH],rfl,br _ _⟩
    |1,_=>
     simp at ho;subst ho;have d0:vs 0=_:=Zq hd 0;have kx:=(hB.cell (aA x2)).trans x2;simp only[aE,Act.put];rw[d0];gi_wp2;exact⟨_,by simp[aH,d0],rfl,br _ _⟩
    |4,_=>
     simp at ho;subst ho;have d3:vs 3=_:=Zq hd 3;simp only[aE,Act.put];rw[d3];gi_wp2_with fail;refine⟨trivial,rfl,?_⟩;refine(cw.2 (p9 a ta tc w' (r.ht.zL (aC A hB)) r.hnt)).mono ?_;rintro e w5 ⟨⟨v5,rfl,ye⟩,T⟩;have yw:Hid _:=ye.weak (base':=w7.heap.size) hB.size;clear ye;gi_wp2;exact⟨_,by simp[aH,d3],yw.oQ,T⟩
    |q+5,h=>exact absurd h (by omega)
   case fin=>
    intro vs w8 hB hp;have d1:vs 1=_:=hp 1 (by decide);have d2:vs 2=_:=hp 2 (by decide);have d4:aP w8 w7.heap.size (vs 4) a:=hp 4 (by decide);obtain⟨Y,Z,hv,_⟩:=d4.slice;rw[hv]at d4;have HO:=aG d4;have N8:=aC A hB;have M8:=aC F.oQ hB;have V:=M.of_block (M8.block _ M.lt);have c8:=V.cell (i:=j*3+2) (by omega);have cf:=λi=>V.frozen i;have hs7:=F.oQ.size;clear hp d4;simp only[lds,List.drop_zero,aE,Act.put];rw[d1,d2,hv];clear d1 d2 hv;generalize vs 0=v0;generalize vs 3=v3;have d:aT (λk=>k=g) w4 (w8.setCell ⟨g,j*3+2,none⟩ (.slice Y a.length Z)):=(aT.below (S:=λk=>k=g) M8).set (g:=g) rfl _ _;have h1:=V.set (j*3+2) (.slice Y a.length Z)
    have h2:(λi=>if i=j*3+2 then Value.slice Y a.length Z else f i)=(λi=>if i=j*3+2 then Value.slice Y a.length Z else if i=j*3+1 then .slice y.ta y.tl.length y.tc else f i):=by
     funext i;by_cases e:i=j*3+1
     ·subst e;rw[if_neg (by omega),if_neg (by omega),if_pos rfl,HY.oQ];exact zu.oQ j L L 1 _ rfl
     ·simp[e]
    rw[h2]at h1;have hR:=fP.lists (h:=y) (h':=⟨y.n,y.ta,y.tl,y.tc,Y,a,Z⟩) h1 zu.oQ (by rw[HY.oQ];exact lge L) rfl;have y0:=d.cell (p:=⟨N.heap.size,0,none⟩) zi yq;have y1:=d.cell (p:=⟨N.heap.size,1,none⟩) zi yr;have y2:=d.cell (p:=⟨N.heap.size,2,none⟩) zi zq;have s0:=d.cell (p:=⟨w.heap.size+1,0,none⟩) zb yn;have s1:=d.cell (p:=⟨w.heap.size+1,1,none⟩) zb yo;have s2:=d.cell (p:=⟨w.heap.size+1,2,none⟩) zb yp;have sB:=bE I.oQ d zb
    have yf:eF w1.heap.size (w8.setCell ⟨g,j*3+2,none⟩ (.slice Y a.length Z)) ⟨x.now,x.fa,x.fl,x.fc,x.ha,x.hl.set j ⟨y.n,y.ta,y.tl,y.tc,Y,a,Z⟩,x.hc⟩:=
     C.oQ.put zf.oQ yz M d hR yh zg.oQ ⟨(yx.oQ.butHeld M d).t,((HO.oQ.weak (base':=w1.heap.size) (by omega)).setRow V (by decide) _ _)⟩
    have ya:Hid _:=yf;have zw:Hid _:=d.under N4 (nlq _) (λk hk=>by have hk':k=g:=hk;omega);obtain⟨Wc,yy⟩:=cK (w8.setCell ⟨g,j*3+2,none⟩ (.slice Y a.length Z));rw[yy]at y0 y1 y2 s0 s1 s2 sB ya zw;have sf:=iQ sB;have yv:Hid (aU (b.hl.set j (EH a b.hl[j])) (x.hl.set j ⟨y.n,y.ta,y.tl,y.tc,Y,a,Z⟩)):=z.oQ.set j ⟨zv.oQ.n,zv.oQ.t,rfl⟩;clear d yf sB hR h1 h2 V hB x0 x1 x2 yq yr zq r0 r1 r2 yn yo yp rf M A N8 M8 N4;gi_wp2_with fail;go_wp2_with fail
    exact bpr (v:=.tuple #[Bk.val ⟨x.now,x.fa,x.fl,x.fc,x.ha,x.hl.set j ⟨y.n,y.ta,y.tl,y.tc,Y,a,Z⟩,x.hc⟩,.int .i64 0]) (by simp[results,Tryz.results18,go_sem,s0,s1,s2,zf.oQ,zg.oQ]) rfl (by
     have:=s.oQ Wc ⟨x.now,x.fa,x.fl,x.fc,x.ha,x.hl.set j ⟨y.n,y.ta,y.tl,y.tc,Y,a,Z⟩,x.hc⟩ G.oQ H.oQ zw.oQ ya.oQ _ _ yv.oQ B.oQ.2 B.oQ.1;simpa[zf.oQ,zg.oQ]using this)
set_option maxHeartbeats 16000000
def DM (b:Bk)(nw:Int)(l:List Hx)(c:Int)(z:Nat)(e:Ending)(w':World):Prop:=
 (aN b=false/\e=.returned (.tuple #[Bk.val ⟨0,none,[],0,none,[],0⟩,.int .i64 1]))∨
 (aN b=true/\∃b':Bk,e=.returned (.tuple #[b'.val,.int .i64 c])/\b'.now=nw/\b'.fl=b.fl/\aU l b'.hl/\eF z w' b')
theorem eF.butBook {z P:Nat}{w w':World}{b:Bk}{l:Array Value}(h:eF z w b)(g:aT (λk=>k=P) w w')(m:w.heap[P]?=some (.cells l 30)):eF z w' b:=by
 have i:∀{t n:Nat} {f:Nat->Value},t≠30->w.rowIs P t n f->False:=λp d=>by
  obtain⟨c,j,_⟩:=d;rw[m]at j;cases j;exact p rfl
 refine⟨h.f.butRow g (λk _ _ _ d e=>by have a:k=P:=e;subst a;exact i (by decide) d),h.h.butRow g (λk _ _ _ d e=>by have a:k=P:=e;subst a;exact i (by decide) d),λx hx=>(h.t x hx).but g (λq o e=>?_),h.c⟩;have a:q=P:=e;subst a;obtain⟨_,_,r⟩:=(h.t x hx).bs_row q o;exact i (by decide) r
theorem Y7 {w:World}{K:Nat}{a c d:Value}(h:w.heap[K]?=some (.cells #[a,c,d] 90)):w.rowIs K 90 3 (λi=>(#[a,c,d]:Array Value).getD i undef):=⟨_,h,rfl,λi b=>by match i,b with|0,_=>rfl|1,_=>rfl|2,_=>rfl⟩
theorem UA {l:List Hx}(a:Int)(h:∀x∈l,x.Fit):∀x∈j6 a l,x.Fit:=λx hx=>by
 unfold j6 at hx;obtain⟨y,b,rfl⟩:=List.mem_map.1 (List.mem_filter.1 hx).1;exact IB a (h y b)
theorem UY {b:Bk}{n:Int}(h:∀x∈b.hl,x.Fit):∀x∈eR b n,x.Fit:=by
 unfold eR;split;·exact UA _ h
 ·exact h
theorem F2 (b:Bk)(n:Int)(w:World)(hok:BG b w)(hf:Xs 3 Fx.cells w b.fa b.fl)(hnf:b.fl.length<=1048576)(hh:Xs 3 Hx.cells w b.ha b.hl)(hnh:b.hl.length<=1048576)(hg:∀h∈b.hl,h.In w/\h.Fit):
 aY 20 #[b.val,.int .i64 n] w λe w'=>DM b (fF b n) (eR b n) (cV b n) w.heap.size e w'/\aF w w':=by
 have hB0:aF w ((w.alloc b.obj).alloc (.cells #[.int .i64 0,.slice none 0 0,.slice none 0 0] 30)):=aB (aB (br _ _) _) _;have A0:=(halq (w.alloc b.obj) (.cells #[.int .i64 0,.slice none 0 0,.slice none 0 0] 30) w.heap.size (by simp)).trans (wnq w b.obj);have R0:=wnq (w.alloc b.obj) (.cells #[.int .i64 0,.slice none 0 0,.slice none 0 0] 30);rw[wsa]at R0
 go_enter Tryz.func20,Tryz.ntmps20
 go_wp2_with fail
 obtain⟨W0,hW0⟩:=cK ((w.alloc b.obj).alloc (.cells #[.int .i64 0,.slice none 0 0,.slice none 0 0] 30));rw[hW0]at hB0 A0 R0 ⊢;have hz1:w.heap.size+1<W0.heap.size:=(bU R0);clear hW0;refine(hok W0 hB0).mono ?_;rintro e w1 ⟨rfl,hb1⟩;have N1:=aC hB0 hb1;have A1:=bJ A0 hb1;have R1:=bJ R0 hb1;have hs1:=hb1.size;clear A0 R0 hb1 hB0 hok;have hset:∀(X:World) (u v x:Value),aT (λk=>k=w.heap.size+1) X (((X.setCell ⟨w.heap.size+1,0,none⟩ u).setCell ⟨w.heap.size+1,1,none⟩ v).setCell ⟨w.heap.size+1,2,none⟩ x):=λX u v x=>(((aT.refl (λk=>k=w.heap.size+1) X).set (g:=w.heap.size+1) rfl _ _).set (g:=w.heap.size+1) rfl _ _).set (g:=w.heap.size+1) rfl _ _
 cases hbk:aN b with
 |false=>
  have HBK:Hid _:=hbk;obtain⟨r0,r1,r2⟩:=aM R1;have rf:=iQ R1;clear A1 R1 hbk;go_wp2_with fail
  exact bpr (v:=.tuple #[Bk.val ⟨0,none,[],0,none,[],0⟩,.int .i64 1]) (by simp[results,Tryz.results20,go_sem,r0,r1,r2]) rfl ⟨.inl ⟨HBK.oQ,rfl⟩,(hset w1 _ _ _).under N1 (nlq _) (λk hk=>by rw[hk];omega)⟩
 |true=>
  have HBK:Hid _:=hbk;obtain⟨k0,k1,k2⟩:=aM A1;have HA1:Hid _:=A1;have HR1:Hid _:=R1;clear A1 R1 hbk;go_wp2_with fail
  refine(jV b w1 (hf.zL N1) hnf (hh.zL N1) hnh (λh m=>⟨(hg h m).1.zL N1,(hg h m).2⟩)).mono ?_;rintro e w2 ⟨⟨x,rfl,e1,e2,hlk,hA⟩,hb2⟩;have hbx:aF w2 (w2.alloc x.obj):=aB (br _ _) _;have X3:=wnq w2 x.obj;have N3:=aC (aC N1 hb2) hbx;have A3:=bJ (bJ HA1.oQ hb2) hbx;have HR3:Hid _:=bJ (bJ HR1.oQ hb2) hbx;have hA3:=hA.zL hbx;have hs2:=hb2.size;obtain⟨w3,hw3⟩:=cK (w2.alloc x.obj);rw[hw3]at X3 N3 A3 HR3 hA3;have HX3:Hid _:=X3;have HA3:Hid _:=A3;have HS3:Hid _:=hA3;have HE1:Hid _:=e1;have HE2:Hid _:=e2;have HLK:Hid _:=hlk;have hs3:w2.heap.size<w3.heap.size:=(bU X3);clear k0 k1 k2;obtain⟨k0,k1,k2⟩:=aM A3;clear X3 A3 hA3 hA hbx hb2 N1 HA1 HR1 e1 e2 hlk;have hnow:=KI HBK.oQ;have h16:=lS HBK.oQ;obtain⟨hn0,hn1⟩:=hnow
  have HEnd:Hid (∀(X:World) (y:Bk),y.now=fF b n->y.fl=b.fl->aF w X->eF w1.heap.size X y->∀c,aU (eR b n) y.hl->cV b n=c->DM b (fF b n) (eR b n) (cV b n) w.heap.size (.returned (.tuple #[y.val,.int .i64 c])) (((X.setCell ⟨w.heap.size+1,0,none⟩ (.int .i64 y.now)).setCell ⟨w.heap.size+1,1,none⟩ (.slice y.fa y.fl.length y.fc)).setCell ⟨w.heap.size+1,2,none⟩ (.slice y.ha y.hl.length y.hc))/\aF w (((X.setCell ⟨w.heap.size+1,0,none⟩ (.int .i64 y.now)).setCell ⟨w.heap.size+1,1,none⟩ (.slice y.fa y.fl.length y.fc)).setCell ⟨w.heap.size+1,2,none⟩ (.slice y.ha y.hl.length y.hc))):=λX y h1 h2 hN hS c hl ec=>
   ⟨.inr ⟨HBK.oQ,y,by rw[ec],h1,h2,hl,(hS.but (hset X _ _ _) (λk hk=>by rw[hk];omega)).weak (by omega)⟩,(hset X _ _ _).under hN (nlq _) (λk hk=>by rw[hk];omega)⟩
  obtain⟨x0,x1,x2⟩:=aM HX3.oQ;have xf:=iQ HX3.oQ;obtain⟨r0,r1,r2⟩:=aM HR3.oQ;have rf:=iQ HR3.oQ;have HN3:Hid _:=N3;have HNo:Hid (cV b n=2->x.now=fF b n/\aU (eR b n) x.hl):=λh=>⟨by unfold fF;rw[h];exact HE1.oQ,by unfold eR;rw[h];exact HLK.oQ⟩;clear N3
  by_cases h1:n<0
  ·have hd1:decide (n<0)=true:=by simp[h1]
   have HC:Hid (cV b n=2):=by
    have:cV b n=2:=by unfold cV;rw[if_pos (.inl h1)]
    exact this
   clear h1;go_wp2_with fail
   exact bpr (v:=.tuple #[x.val,.int .i64 2]) (by simp[results,Tryz.results20,go_sem,r0,r1,r2]) rfl (HEnd.oQ w3 x (HNo.oQ HC.oQ).1 HE2.oQ HN3.oQ HS3.oQ _ (HNo.oQ HC.oQ).2 HC.oQ)
  have hd1:decide (n<0)=false:=by simp;omega
  by_cases h2:10000<n
  ·have hd2:decide (10000<n)=true:=by simp[h2]
   have HC:Hid (cV b n=2):=by
    have:cV b n=2:=by unfold cV;rw[if_pos (.inr (by omega))]
    exact this
   clear h2;go_wp2_with fail
   exact bpr (v:=.tuple #[x.val,.int .i64 2]) (by simp[results,Tryz.results20,go_sem,r0,r1,r2]) rfl (HEnd.oQ w3 x (HNo.oQ HC.oQ).1 HE2.oQ HN3.oQ HS3.oQ _ (HNo.oQ HC.oQ).2 HC.oQ)
  have hd2:decide (10000<n)=false:=by simp;omega
  by_cases h3:10000<b.now+n
  ·have hd3:decide (10000<b.now+n)=true:=by simp[h3]
   have HC:Hid (cV b n=2):=by
    have:cV b n=2:=by unfold cV;rw[if_pos (.inr (by omega))]
    exact this
   clear h3;go_wp2_with fail
   exact bpr (v:=.tuple #[x.val,.int .i64 2]) (by simp[results,Tryz.results20,go_sem,r0,r1,r2]) rfl (HEnd.oQ w3 x (HNo.oQ HC.oQ).1 HE2.oQ HN3.oQ HS3.oQ _ (HNo.oQ HC.oQ).2 HC.oQ)
  have hd3:decide (10000<b.now+n)=false:=by simp;omega
  have HC:Hid (cV b n=0):=by
   have:cV b n=0:=by unfold cV;rw[if_neg (by omega)]
   exact this
  obtain⟨j0,hih,hy0,hy1,hy2⟩:=info_parts Tryz.info90;have hxn:x.now=b.now:=HE1.oQ;rw[hxn]at x0;have Xn:=aO HX3.oQ 0 (.int .i64 (b.now+n));have bN:aT (λk=>k=w2.heap.size) w3 (w3.setCell ⟨w2.heap.size,0,none⟩ (.int .i64 (b.now+n))):=(aT.refl (λk=>k=w2.heap.size) w3).set (g:=w2.heap.size) rfl _ _;have HSn:=aG (HS3.oQ.butBook bN HX3.oQ);have HRn:Hid _:=bE HR3.oQ bN (λe=>by have e':w.heap.size+1=w2.heap.size:=e;omega);have HNn:Hid _:=bN.under HN3.oQ (nlq _) (λk hk=>by have hk':k=w2.heap.size:=hk;omega);have hszn:(w3.setCell ⟨w2.heap.size,0,none⟩ (.int .i64 (b.now+n))).heap.size=w3.heap.size:=by simp
  obtain⟨Wn,hWn⟩:=cK (w3.setCell ⟨w2.heap.size,0,none⟩ (.int .i64 (b.now+n)));rw[hWn]at Xn HSn HRn HNn hszn;have HXn:=aG Xn;have hzn:w1.heap.size<=Wn.heap.size:=by omega
  have hxl:x.hl.length<=16:=by rw[HLK.oQ.len];exact h16
  have HFt:Hid (∀h∈x.hl,h.Fit):=HLK.oQ.fit (λh m=>(hg h m).2);clear Xn bN hszn hxn;go_wp2_with fail
  clear hWn x0 x1 x2 xf r0 r1 r2 rf hd1 hd2 hd3
  go_loopw [7,8] (λv iv wr=>∃(d0 rs dn:List Hx) (vv:Value),Hid (x.hl=d0++rs)/\v=vv/\iv=.int .i64 (d0.length:Int)/\PM Wn (b.now+n) d0 dn vv wr) (λ_ iv _=>x.hl.length-(intOf iv).toNat)
  case atStart=>exact⟨[],x.hl,[],_,rfl,rfl,rfl,⟨aB (br _ _) _,by simpa[aI]using World.ownsRow_lit (base:=Wn.heap.size) (e:=90) (size:=3) Wn #[] 0 (nlq _) (nz _) rfl,⟨rfl,λk h=>by simp[j6]at h⟩,λx hx=>by simp at hx,by simp⟩⟩
  case round=>
   obtain⟨d0,rs,dn,v,hm,rfl,rfl,hS⟩:=hrel;have hml:x.hl.length=d0.length+rs.length:=by rw[hm.out];simp
   have HS:=aG hS;have Xr:=bJ HXn.oQ hS.n;have x2:wr.cell? ⟨w2.heap.size,2,none⟩=some (.slice x.ha x.hl.length x.hc):=aJ Xr rfl
   cases rs with
   |cons y rs=>
    have hlt:d0.length<x.hl.length:=by rw[hml];simp
    have hxe:x.hl[d0.length]=y:=by
     have:x.hl[d0.length]?=some y:=by rw[hm.out,List.getElem?_append_right (nlq _),Nat.sub_self];rfl
     rw[lge hlt]at this;exact Option.some.inj this
    have hmem:y∈x.hl:=by rw[←hxe];exact lgm hlt
    have hxf:=HFt.oQ y hmem
    obtain⟨g,ha,fv,hrow,hfv,hcp⟩:∃g,x.ha=some ⟨g,0,none⟩/\∃fv,Wn.rowIs g 90 (x.hc*3) fv/\(∀i (h:i<x.hl.length),i<x.hl.length->∀q u,(x.hl[i].cells)[q]?=some u->fv (i*3+q)=u)/\x.hl.length<=x.hc:=by
     rcases HSn.oQ.h with⟨_,e⟩|⟨g,cap,e,h1,h2,fv,h3,h4⟩
     ·rw[e]at hlt;simp at hlt
     ·simp only[Value.slice.injEq]at e
      obtain⟨e1,_,rfl⟩:=e;exact⟨g,e1,fv,h3,h4,h2⟩
    have hrw:=hrow.of_block (hS.n.block _ hrow.lt);have e0:=hrw.cell (i:=d0.length*3+0) (by omega);have e1:=hrw.cell (i:=d0.length*3+1) (by omega);have e2:=hrw.cell (i:=d0.length*3+2) (by omega);rw[show fv (d0.length*3+0)=.string y.n from by rw[←hxe];exact hfv d0.length hlt hlt 0 _ rfl]at e0;rw[show fv (d0.length*3+1)=.slice y.ta y.tl.length y.tc from by rw[←hxe];exact hfv d0.length hlt hlt 1 _ rfl]at e1;rw[show fv (d0.length*3+2)=.slice y.na y.nl.length y.nc from by rw[←hxe];exact hfv d0.length hlt hlt 2 _ rfl]at e2;rw[Nat.add_zero]at e0;have hyi:y.In Wn:=eF.inn HSn.oQ y hmem;have HMN:Hid (x.hl=(d0++[y])++rs):=by rw[Hid,hm.out];simp
    have M2:aF wr (wr.alloc (.cells #[.string y.n,.slice y.ta y.tl.length y.tc,.slice y.na y.nl.length y.nc] 90)):=aB (br _ _) _;have Y2:=wnq wr (.cells #[.string y.n,.slice y.ta y.tl.length y.tc,.slice y.na y.nl.length y.nc] 90);have hp2:Wn.heap.size<=wr.heap.size:=hS.n.size;have HYr:=aG (hyi.zL hS.n);have HXI:=aG ((hyi.zL hS.n).zL M2);have q0:(wr.alloc (.cells #[.string y.n,.slice y.ta y.tl.length y.tc,.slice y.na y.nl.length y.nc] 90)).cell? ⟨w2.heap.size,0,none⟩=some (.int .i64 (b.now+n)):=aJ (bJ Xr M2) rfl;have hsz2:(wr.alloc (.cells #[.string y.n,.slice y.ta y.tl.length y.tc,.slice y.na y.nl.length y.nc] 90)).heap.size=wr.heap.size+1:=by simp
    obtain⟨W2,hW2⟩:=cK (wr.alloc (.cells #[.string y.n,.slice y.ta y.tl.length y.tc,.slice y.na y.nl.length y.nc] 90));rw[hW2]at M2 Y2 HXI q0 hsz2;have HY2:=aG Y2;obtain⟨y0,y1,y2⟩:=aM Y2;have HW:Hid (Wn.heap.size<=W2.heap.size/\∀z∈dn,∀q∈z.bs,q<W2.heap.size):=⟨by omega,λz hz q hq=>by have:=((hS.t z hz).bs_in q hq).2;omega⟩;have hXK:w2.heap.size≠wr.heap.size:=by have:=(bU HXn.oQ);omega
    have htn:=hxf.tn;have hnn:=hxf.nn;rw[ha]at x2;clear hfv hrow hrw hxe hmem hyi hS hm Y2 ha hml Xr;go_wp2_with fail
    clear hW2 e0 e1 e2 x2;refine(wU y.tl y.ta y.tc (b.now+n) W2 HXI.oQ.1 hxf.tn).mono ?_;rintro e w4 ⟨v1,rfl,ho1,hb4⟩;obtain⟨a1,c1,rfl,_⟩:=ho1.slice;obtain⟨la,hla⟩:=cK ((bI (b.now+n) y.tl).length);have HLa:=aG hla;have hl1:=fK (b.now+n) y.tl;rw[hla]at ho1 hl1 ⊢;clear hla;have hs4:=hb4.size;have r4:=(Y7 HY2.oQ).of_block (hb4.block _ (Y7 HY2.oQ).lt);have k1:w4.cell? ⟨wr.heap.size,1,none⟩=some (.slice y.ta y.tl.length y.tc):=r4.cell (i:=1) (by decide);have kf:=λi=>r4.frozen i;have q4:=(hb4.cell (aA q0)).trans q0;have r5:=r4.set 1 (.slice a1 la c1);have b5:aT (λk=>k=wr.heap.size) w4 (w4.setCell ⟨wr.heap.size,1,none⟩ (.slice a1 la c1)):=(aT.refl (λk=>k=wr.heap.size) w4).set (g:=wr.heap.size) rfl _ _;have k5:(w4.setCell ⟨wr.heap.size,1,none⟩ (.slice a1 la c1)).cell? ⟨wr.heap.size,2,none⟩=some (.slice y.na y.nl.length y.nc):=r5.cell (i:=2) (by decide);have q5:=b5.cell (p:=⟨w2.heap.size,0,none⟩) hXK q4;have M5:=b5.under (aC M2 hb4) (nlq _) (λk hk=>by have hk':k=wr.heap.size:=hk;omega);have HO1:Hid (aP (w4.setCell ⟨wr.heap.size,1,none⟩ (.slice a1 la c1)) W2.heap.size (.slice a1 la c1) (bI (b.now+n) y.tl)):=aP.but ho1 b5 (λu e hk=>by have hk':u.block=wr.heap.size:=hk;have:=ho1.blkGe (q:=u.block) (by rw[ho1.adr,e];rfl);omega);have hsz5:(w4.setCell ⟨wr.heap.size,1,none⟩ (.slice a1 la c1)).heap.size=w4.heap.size:=by simp
    obtain⟨w5,hw5⟩:=cK (w4.setCell ⟨wr.heap.size,1,none⟩ (.slice a1 la c1));rw[hw5]at r5 k5 q5 M5 HO1 hsz5;have hs5:W2.heap.size<=w5.heap.size:=by omega
    have HI5:=aG (HYr.oQ.2.zL M5);have HR5:=aG r5;clear y0 y1 y2 q0 q4 r4 r5 b5 ho1 hb4 hsz5;go_wp2_with fail
    clear hw5 k1 kf;refine(wU y.nl y.na y.nc (b.now+n) w5 HI5.oQ hxf.nn).mono ?_;rintro e w7 ⟨v2,rfl,ho2,hb7⟩;obtain⟨a2,c2,rfl,_⟩:=ho2.slice;obtain⟨lb,hlb⟩:=cK ((bI (b.now+n) y.nl).length);have HLb:=aG hlb;have hl2:=fK (b.now+n) y.nl;rw[hlb]at ho2 hl2 ⊢;clear hlb;have hs7:=hb7.size;have r7:=HR5.oQ.of_block (hb7.block _ HR5.oQ.lt);have k2:w7.cell? ⟨wr.heap.size,2,none⟩=some (.slice y.na y.nl.length y.nc):=r7.cell (i:=2) (by decide);have kf:=λi=>r7.frozen i;have b8:aT (λk=>k=wr.heap.size) w7 (w7.setCell ⟨wr.heap.size,2,none⟩ (.slice a2 lb c2)):=(aT.refl (λk=>k=wr.heap.size) w7).set (g:=wr.heap.size) rfl _ _;have r8:=r7.set 2 (.slice a2 lb c2);have k80:(w7.setCell ⟨wr.heap.size,2,none⟩ (.slice a2 lb c2)).cell? ⟨wr.heap.size,0,none⟩=some (.string y.n):=r8.cell (i:=0) (by decide);have k81:(w7.setCell ⟨wr.heap.size,2,none⟩ (.slice a2 lb c2)).cell? ⟨wr.heap.size,1,none⟩=some (.slice a1 la c1):=r8.cell (i:=1) (by decide);have k82:(w7.setCell ⟨wr.heap.size,2,none⟩ (.slice a2 lb c2)).cell? ⟨wr.heap.size,2,none⟩=some (.slice a2 lb c2):=r8.cell (i:=2) (by decide);have k8f:=λi=>r8.frozen i;have M8:=b8.under (aC M5 hb7) (nlq _) (λk hk=>by have hk':k=wr.heap.size:=hk;omega);have hge1:∀u:Addr,a1=some u->W2.heap.size<=u.block:=λu e=>HO1.oQ.blkGe (q:=u.block) (by rw[HO1.oQ.adr,e];rfl);have hlt1:∀u:Addr,a1=some u->u.block<w5.heap.size:=λu e=>HO1.oQ.blkLt (q:=u.block) (by rw[HO1.oQ.adr,e];rfl);have hge2:∀u:Addr,a2=some u->w5.heap.size<=u.block:=λu e=>ho2.blkGe (q:=u.block) (by rw[ho2.adr,e];rfl);have HO1':Hid (aP (w7.setCell ⟨wr.heap.size,2,none⟩ (.slice a2 lb c2)) W2.heap.size (.slice a1 la c1) (bI (b.now+n) y.tl)):=aP.but (HO1.oQ.zL hb7) b8 (λu e hk=>by have hk':u.block=wr.heap.size:=hk;have:=hge1 u e;omega);have HO2:Hid (aP (w7.setCell ⟨wr.heap.size,2,none⟩ (.slice a2 lb c2)) W2.heap.size (.slice a2 lb c2) (bI (b.now+n) y.nl)):=aP.weak (aP.but ho2 b8 (λu e hk=>by have hk':u.block=wr.heap.size:=hk;have:=hge2 u e;omega)) hs5
    have HDis:Hid (∀q∈(a1.map Addr.block).toList,∀r∈(a2.map Addr.block).toList,q≠r):=λq hq r hr e=>by
     cases a1 with
     |none=>simp at hq
     |some u1=>cases a2 with
      |none=>simp at hr
      |some u2=>
       simp at hq hr;have h1:=hlt1 u1 rfl;have h2:=hge2 u2 rfl;omega
    obtain⟨w8,hw8⟩:=cK (w7.setCell ⟨wr.heap.size,2,none⟩ (.slice a2 lb c2));rw[hw8]at r8 k80 k81 k82 k8f M8 HO1' HO2;have HR8:=aG r8;have hs8:w7.heap.size<=w8.heap.size:=by rw[←hw8];exact b8.size
    clear q5 k5 r7 r8 b8 ho2 hb7 HO1 HI5 HR5 hge1 hlt1 hge2 M5;have hsw:=M8.size;have HW8:=aG HW.oQ
    by_cases hz:bI (b.now+n) y.tl=[]
    ·have HCH:Hid (jC (b.now+n) y=⟨y.n,none,bI (b.now+n) y.nl,0,none,[],0⟩):=by
      have:jC (b.now+n) y=⟨y.n,none,bI (b.now+n) y.nl,0,none,[],0⟩:=by unfold jC;rw[if_pos hz]
      exact this
     obtain rfl:la=0:=by rw[←HLa.oQ,hz];rfl
     clear hz hl1;have ra:=HR8.oQ.set 1 (.slice a2 lb c2);have ba:aT (λk=>k=wr.heap.size) w8 (w8.setCell ⟨wr.heap.size,1,none⟩ (.slice a2 lb c2)):=(aT.refl (λk=>k=wr.heap.size) w8).set (g:=wr.heap.size) rfl _ _;obtain⟨Wa,hWa⟩:=cK (w8.setCell ⟨wr.heap.size,1,none⟩ (.slice a2 lb c2));rw[hWa]at ra ba;have hsa:w8.heap.size<=Wa.heap.size:=ba.size;have hE:=wnq Wa (.cells #[] 56);have hba:aF Wa (Wa.alloc (.cells #[] 56)):=aB (br _ _) _;have rb:=ra.alloc (.cells #[] 56);have cb:(Wa.alloc (.cells #[] 56)).cell? ⟨wr.heap.size,2,none⟩=some (.slice a2 lb c2):=rb.cell (i:=2) (by decide);have cbf:=λi=>rb.frozen i;obtain⟨Wb,hWb⟩:=cK (Wa.alloc (.cells #[] 56));rw[hWb]at hE hba rb cb cbf;have rcc:=rb.set 2 (.slice (some ⟨Wa.heap.size,0,none⟩) 0 0);have bc:aT (λk=>k=wr.heap.size) w8 (Wb.setCell ⟨wr.heap.size,2,none⟩ (.slice (some ⟨Wa.heap.size,0,none⟩) 0 0)):=(ba.trans (aT.below hba)).set (g:=wr.heap.size) rfl _ _;have cc0:(Wb.setCell ⟨wr.heap.size,2,none⟩ (.slice (some ⟨Wa.heap.size,0,none⟩) 0 0)).cell? ⟨wr.heap.size,0,none⟩=some (.string y.n):=rcc.cell (i:=0) (by decide);have cc1:(Wb.setCell ⟨wr.heap.size,2,none⟩ (.slice (some ⟨Wa.heap.size,0,none⟩) 0 0)).cell? ⟨wr.heap.size,1,none⟩=some (.slice a2 lb c2):=rcc.cell (i:=1) (by decide);have cc2:(Wb.setCell ⟨wr.heap.size,2,none⟩ (.slice (some ⟨Wa.heap.size,0,none⟩) 0 0)).cell? ⟨wr.heap.size,2,none⟩=some (.slice (some ⟨Wa.heap.size,0,none⟩) 0 0):=rcc.cell (i:=2) (by decide);have Ec:=bX hE (p:=⟨wr.heap.size,2,none⟩) (by show Wa.heap.size≠wr.heap.size;omega) (.slice (some ⟨Wa.heap.size,0,none⟩) 0 0);have Mc:=bc.under M8 (nlq _) (λk hk=>by have hk':k=wr.heap.size:=hk;omega);have hge2:∀u:Addr,a2=some u->W2.heap.size<=u.block:=λu e=>HO2.oQ.blkGe (q:=u.block) (by rw[HO2.oQ.adr,e];rfl);have hlt2:∀u:Addr,a2=some u->u.block<w8.heap.size:=λu e=>HO2.oQ.blkLt (q:=u.block) (by rw[HO2.oQ.adr,e];rfl);have HTc:Hid (eS W2.heap.size (Wb.setCell ⟨wr.heap.size,2,none⟩ (.slice (some ⟨Wa.heap.size,0,none⟩) 0 0)) (⟨y.n,a2,bI (b.now+n) y.nl,c2,some ⟨Wa.heap.size,0,none⟩,[],0⟩:Hx)):=⟨by show aP _ _ (.slice a2 (bI (b.now+n) y.nl).length c2) _;rw[HLb.oQ];exact aP.but HO2.oQ bc (λu e hk=>by have hk':u.block=wr.heap.size:=hk;have:=hge2 u e;omega),y6 Ec (by omega)⟩
     have HDk:Hid ((⟨y.n,a2,bI (b.now+n) y.nl,c2,some ⟨Wa.heap.size,0,none⟩,[],0⟩:Hx).bs.Nodup):=by
      simp only[Hid,Hx.bs];rw[List.nodup_append];refine⟨gN _,gN _,λq hq r hr e=>?_⟩
      cases a2 with
      |none=>simp at hq
      |some u2=>
       simp at hq hr;have:=hlt2 u2 rfl;omega
     obtain⟨Wc,hWc⟩:=cK (Wb.setCell ⟨wr.heap.size,2,none⟩ (.slice (some ⟨Wa.heap.size,0,none⟩) 0 0));rw[hWc]at cc0 cc1 cc2 Mc HTc;have HSz:Hid _:=HS.oQ.zL Mc;have HLk:Hid ((jC (b.now+n) y).Like (⟨y.n,a2,bI (b.now+n) y.nl,c2,some ⟨Wa.heap.size,0,none⟩,[],0⟩:Hx)):=by rw[Hid,HCH.oQ];exact⟨rfl,rfl,rfl⟩
     have hszc:=Mc.size;clear ra ba rb rcc bc hE hba Ec hge2 hlt2 M8
     by_cases hz2:bI (b.now+n) y.nl=[]
     ·have HZ:Hid ((jC (b.now+n) y).tl=[]):=by rw[Hid,HCH.oQ];exact hz2
      obtain rfl:lb=0:=by rw[←HLb.oQ,hz2];rfl
      clear hz2 hl2;go_wp2_with fail
      go_roundw
      case rel=>exact⟨d0++[y],rs,dn,_,HMN,rfl,by simp,HSz.oQ.skip HZ.oQ⟩
      case measure=>simp[intOf];omega
     ·have hpos:0<lb:=by rw[←HLb.oQ];exact List.length_pos_iff.2 hz2
      have HZ:Hid ((jC (b.now+n) y).tl≠[]):=by rw[Hid,HCH.oQ];exact hz2
      have hgt:decide ((0:Int)<(lb:Int))=true:=by simp;omega
      clear hz2
      go_wp2_with (at_builtin;refine wpList_append_own _ rfl (.tmp 73) (.tmp 75) 28 rfl Wn.heap.size 90 j0 _ 3 64 Tryz.underlying28 hih hy0 hy1 hy2 rfl (by decide) _ dn.length (aI Hx.cells dn) rfl (HSz.oQ.h.alloc _) ⟨Wc.heap.size,0,none⟩ 1 1 (Hx.cells (⟨y.n,a2,bI (b.now+n) y.nl,c2,some ⟨Wa.heap.size,0,none⟩,[],0⟩:Hx)) rfl rfl ?qc1 (lH _) ?qc3 ?qc4 ?qc5 ?_)
      case qc1=>
       intro j u h;rw[Addr.add_lit,Nat.zero_add]
       match j,h with
       |0,h=>simp[Hx.cells]at h;subst h;exact aJ (wnq Wc _) rfl
       |1,h=>simp[Hx.cells]at h;subst h;first|exact aJ (wnq Wc _) rfl|(rw[HLb.oQ];exact aJ (wnq Wc _) rfl)|(rw[HLa.oQ];exact aJ (wnq Wc _) rfl)
       |2,h=>simp[Hx.cells]at h;subst h;first|exact aJ (wnq Wc _) rfl|(rw[HLb.oQ];exact aJ (wnq Wc _) rfl)
      case qc3=>have:=HSz.oQ.len;unfold maxLen;omega
      case qc4=>have:=HSz.oQ.len;omega
      case qc5=>have:=HSz.oQ.n.size;(try simp);omega
      intro v' w6 hown hgr _;have HN:Hid _:=(HSz.oQ.zL (aB (br _ _) _)).grow HLk.oQ HZ.oQ (HTc.oQ.zL (aB (br _ _) _)) HDk.oQ HW.oQ hown hgr;clear hown hgr;go_wp2_with fail
      go_roundw
      case rel=>exact⟨d0++[y],rs,dn++[(⟨y.n,a2,bI (b.now+n) y.nl,c2,some ⟨Wa.heap.size,0,none⟩,[],0⟩:Hx)],_,HMN,rfl,by simp,HN.oQ⟩
      case measure=>simp[intOf];omega
    ·have HCH:Hid (jC (b.now+n) y=⟨y.n,none,bI (b.now+n) y.tl,0,none,bI (b.now+n) y.nl,0⟩):=by
      have:jC (b.now+n) y=⟨y.n,none,bI (b.now+n) y.tl,0,none,bI (b.now+n) y.nl,0⟩:=by unfold jC;rw[if_neg hz]
      exact this
     have hpos:0<la:=by rw[←HLa.oQ];exact List.length_pos_iff.2 hz
     have HZ:Hid ((jC (b.now+n) y).tl≠[]):=by rw[Hid,HCH.oQ];exact hz
     have hgt:decide ((0:Int)<(la:Int))=true:=by simp;omega
     have hz0:((la:Int)==0)=false:=beq_false_of_ne (by omega);have HTc:Hid (eS W2.heap.size w8 (⟨y.n,a1,bI (b.now+n) y.tl,c1,a2,bI (b.now+n) y.nl,c2⟩:Hx)):=⟨by show aP _ _ (.slice a1 (bI (b.now+n) y.tl).length c1) _;rw[HLa.oQ];exact HO1'.oQ,by show aP _ _ (.slice a2 (bI (b.now+n) y.nl).length c2) _;rw[HLb.oQ];exact HO2.oQ⟩
     have HDk:Hid ((⟨y.n,a1,bI (b.now+n) y.tl,c1,a2,bI (b.now+n) y.nl,c2⟩:Hx).bs.Nodup):=by
      simp only[Hid,Hx.bs];rw[List.nodup_append];exact⟨gN _,gN _,λq hq r hr e=>HDis.oQ q hq r hr e⟩
     have HSz:Hid _:=HS.oQ.zL M8;have HLk:Hid ((jC (b.now+n) y).Like (⟨y.n,a1,bI (b.now+n) y.tl,c1,a2,bI (b.now+n) y.nl,c2⟩:Hx)):=by rw[Hid,HCH.oQ];exact⟨rfl,rfl,rfl⟩
     clear hz M8
     go_wp2_with (at_builtin;refine wpList_append_own _ rfl (.tmp 73) (.tmp 75) 28 rfl Wn.heap.size 90 j0 _ 3 64 Tryz.underlying28 hih hy0 hy1 hy2 rfl (by decide) _ dn.length (aI Hx.cells dn) rfl (HSz.oQ.h.alloc _) ⟨w8.heap.size,0,none⟩ 1 1 (Hx.cells (⟨y.n,a1,bI (b.now+n) y.tl,c1,a2,bI (b.now+n) y.nl,c2⟩:Hx)) rfl rfl ?qc1 (lH _) ?qc3 ?qc4 ?qc5 ?_)
     case qc1=>
      intro j u h;rw[Addr.add_lit,Nat.zero_add]
      match j,h with
      |0,h=>simp[Hx.cells]at h;subst h;exact aJ (wnq w8 _) rfl
      |1,h=>simp[Hx.cells]at h;subst h;first|exact aJ (wnq w8 _) rfl|(rw[HLb.oQ];exact aJ (wnq w8 _) rfl)|(rw[HLa.oQ];exact aJ (wnq w8 _) rfl)
      |2,h=>simp[Hx.cells]at h;subst h;first|exact aJ (wnq w8 _) rfl|(rw[HLb.oQ];exact aJ (wnq w8 _) rfl)
     case qc3=>have:=HSz.oQ.len;unfold maxLen;omega
     case qc4=>have:=HSz.oQ.len;omega
     case qc5=>have:=HSz.oQ.n.size;(try simp);omega
     intro v' w6 hown hgr _;have HN:Hid _:=(HSz.oQ.zL (aB (br _ _) _)).grow HLk.oQ HZ.oQ (HTc.oQ.zL (aB (br _ _) _)) HDk.oQ HW.oQ hown hgr;clear hown hgr;go_wp2_with fail
     go_roundw
     case rel=>exact⟨d0++[y],rs,dn++[(⟨y.n,a1,bI (b.now+n) y.tl,c1,a2,bI (b.now+n) y.nl,c2⟩:Hx)],_,HMN,rfl,by simp,HN.oQ⟩
     case measure=>simp[intOf];omega
   |nil=>
    have hd0:x.hl=d0:=by simpa using hm.out
    have hge:x.hl.length<=d0.length:=by rw[hd0];exact nlq _
    have ho:=iY Hx.cells_length hS.h;obtain⟨ah,ch,hv⟩:=bQ.slice ho;have HO:Hid (bQ 90 3 Hx.cells wr Wn.heap.size (.slice ah dn.length ch) dn):=by rw[hv]at ho;exact ho
    have xf:=iQ Xr;have Xs:=aO Xr 2 (.slice ah dn.length ch);have bs:aT (λk=>k=w2.heap.size) wr (wr.setCell ⟨w2.heap.size,2,none⟩ (.slice ah dn.length ch)):=(aT.refl (λk=>k=w2.heap.size) wr).set (g:=w2.heap.size) rfl _ _;have hXlt:=(bU HXn.oQ);have hRn:=bE (bJ HRn.oQ hS.n) bs (λe=>by have e':w.heap.size+1=w2.heap.size:=e;omega);have HNs:Hid _:=bs.under (aC HNn.oQ hS.n) (nlq _) (λk hk=>by have hk':k=w2.heap.size:=hk;omega);have HSs:Hid (eF w1.heap.size (wr.setCell ⟨w2.heap.size,2,none⟩ (.slice ah dn.length ch)) ⟨b.now+n,x.fa,x.fl,x.fc,ah,dn,ch⟩):=eF.butBook (P:=w2.heap.size) ⟨(HSn.oQ.zL hS.n).f,HO.oQ.weak hzn,λz hz=>(hS.t z hz).weak hzn,HSn.oQ.c⟩ bs Xr
    have HLs:Hid (aU (eR b n) dn):=by
     have e:j6 (b.now+n) b.hl=j6 (b.now+n) x.hl:=zK _ HLK.oQ;rw[Hid,eR,HC.oQ,if_pos rfl,e,hd0];exact hS.k
    have hzws:w1.heap.size<=wr.heap.size:=Nat.le_trans hzn hS.n.size;have hszs:(wr.setCell ⟨w2.heap.size,2,none⟩ (.slice ah dn.length ch)).heap.size=wr.heap.size:=by simp
    obtain⟨Ws,hWs⟩:=cK (wr.setCell ⟨w2.heap.size,2,none⟩ (.slice ah dn.length ch));rw[hWs]at Xs bs hRn HNs HSs hszs;have hws:w1.heap.size<=Ws.heap.size:=by omega
    obtain⟨z0,z1,z2⟩:=aM Xs;have HRs:Hid _:=hRn;have hdl:dn.length<=16:=by have:=hS.len;rw[hd0]at hxl;omega
    rw[hv];clear ho hS hm hml hd0 hv Xr Xs bs hRn hszs;go_wp2_with fail
    clear hWs;refine(jV ⟨b.now+n,x.fa,x.fl,x.fc,ah,dn,ch⟩ Ws (bQ.xs Fx.cells_length HSs.oQ.f) (by show x.fl.length<=_;rw[HE2.oQ];exact hnf) (bQ.xs Hx.cells_length HSs.oQ.h) (by show dn.length<=_;omega) (λh m=>⟨eF.inn HSs.oQ h m,(HLs.oQ.fit (UY (λh m=>(hg h m).2))) h m⟩)).mono ?_;rintro e wf ⟨⟨y,rfl,e1,e2,hlk,hA⟩,hbf⟩;have Rf:=bJ HRs.oQ hbf;obtain⟨r0,r1,r2⟩:=aM Rf;have rf:=iQ Rf;have HNf:Hid _:=aC HNs.oQ hbf;have hsf:=hbf.size;have HY:Hid (y.now=fF b n/\y.fl=b.fl/\aU (eR b n) y.hl/\eF w1.heap.size wf y):=⟨by rw[e1];unfold fF;rw[HC.oQ];rfl,by rw[e2];exact HE2.oQ,HLs.oQ.trans hlk,hA.weak hws⟩;clear z0 z1 z2 xf x2 Rf e1 e2 hlk hA hbf;go_wp2_with fail
    exact bpr (v:=.tuple #[y.val,.int .i64 0]) (by simp[results,Tryz.results20,go_sem,r0,r1,r2]) rfl (HEnd.oQ wf y HY.oQ.1 HY.oQ.2.1 HNf.oQ HY.oQ.2.2.2 _ HY.oQ.2.2.1 HC.oQ)
end Go.Proofs.YtcdbcliaepcpfaaGreatDoor
