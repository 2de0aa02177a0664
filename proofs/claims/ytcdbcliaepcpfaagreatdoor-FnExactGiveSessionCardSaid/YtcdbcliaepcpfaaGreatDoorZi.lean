import Derived.Test.YtcdbcliaepcpfaaGreatDoorZn
namespace Go.Proofs.YtcdbcliaepcpfaaGreatDoor
set_option maxRecDepth 100000
set_option maxHeartbeats 4000000
open Go.RowKit Go.BigFrame
theorem J3 (a:ByteArray)(w:World)(F:yL w)(G:a.size<=1048576):
 aY 8 #[.string a] w λe w'=>((20000<a.size/\e=.returned (.tuple #[.slice none 0 0,.bool false]))∨(¬20000<a.size/\∃s,e=.returned (.tuple #[.slice (some ⟨w.heap.size,0,none⟩) (eZ a).length s,.bool (decide ((eZ a).length<=300))])/\Xs 1 dS w' (some ⟨w.heap.size,0,none⟩) (eZ a)))/\aF w w':=by
 by_cases t:20000<a.size
 ·have u:decide ((20000:Int)<(a.size:Int))=true:=by rw[dte];omega
  go_enter Tryz.func8,Tryz.ntmps8;go_wp2;exact bpr (v:=.tuple #[.slice none 0 0,.bool false]) (by simp[results,Tryz.results8,go_sem]) rfl ⟨.inl ⟨t,rfl⟩,br _ _⟩
 have u:decide ((20000:Int)<(a.size:Int))=false:=by rw[decide_eq_false_iff_not];omega
 go_enter Tryz.func8,Tryz.ntmps8;go_wp2_with fail;refine(GN a 10 w F G).mono ?_;rintro e A ⟨⟨rfl,d⟩,p⟩;rw[show(((10:UInt8).toNat:Nat):Int)=10 from rfl]at d ⊢;have g:=yP 10 a;have f:=kP 10 a;have b:Hid (eZ a=if((bH 10 a).getLastD ⟨#[]⟩).toList=[]then(bH 10 a).dropLast else bH 10 a):=rfl;obtain⟨L,C⟩:=bP (bH 10 a);rw[←C]at d g f b ⊢;clear C;obtain⟨m,q⟩:∃m,L.length=m+1:=⟨L.length-1,by have:=List.length_pos_iff.2 g;omega⟩;rw[OA m q]at b;rw[q]
 have E:A.cell? ⟨w.heap.size,m,none⟩=some (.string (L[m]'(by omega))):=by
  have:=gO d m (L[m]'(by omega)) (by rw[lge]);simpa using this
 have hm1:((m+1:Nat):Int)-1=(m:Int):=by omega
 have hmm:m<=1048576:=by omega
 have o:=aG p;obtain⟨z,D⟩:=bP (L[m]'(by omega));rw[←D]at E b;have n:=aG q;clear p D q;by_cases i:z.toList=[]
 ·have c:Hid (eZ a=L.take m):=by
   rw[Hid,b.oQ,if_pos i,List.dropLast_eq_take];congr 1;have:=n.oQ;omega
  have j:Hid ((eZ a).length=m):=by rw[Hid,c.oQ,List.length_take];have:=n.oQ;omega
  have k:Hid (Xs 1 dS A (some ⟨w.heap.size,0,none⟩) (eZ a)):=by rw[Hid,c.oQ];exact d.take m
  have y:(z.toList==[])=true:=by rw[i];rfl
  clear g f b d n c;obtain⟨B,l⟩:=bP (decide (m<=300));have x:decide ((m:Int)<=300)=B:=by rw[l];congr 1;exact propext ⟨λh=>by omega,λh=>by omega⟩
  have r:=aG l;clear l;go_wp2;exact bpr (v:=.tuple #[.slice (some ⟨w.heap.size,0,none⟩) m (m+1),.bool B]) (by simp[results,Tryz.results8,go_sem]) rfl ⟨.inr ⟨t,m+1,by rw[j.oQ,r.oQ],k.oQ⟩,o.oQ⟩
 ·have c:Hid (eZ a=L):=by rw[Hid,b.oQ,if_neg i]
  have j:Hid ((eZ a).length=m+1):=by rw[Hid,c.oQ];exact n.oQ
  have k:Hid (Xs 1 dS A (some ⟨w.heap.size,0,none⟩) (eZ a)):=by rw[Hid,c.oQ];exact d
  have y:(z.toList==[])=false:=by rw[beq_eq_false_iff_ne];exact i
  clear g f b d n c;obtain⟨B,l⟩:=bP (decide (m+1<=300));have x:decide ((m:Int)+1<=300)=B:=by rw[l];congr 1;exact propext ⟨λh=>by omega,λh=>by omega⟩
  have r:=aG l;clear l;go_wp2;exact bpr (v:=.tuple #[.slice (some ⟨w.heap.size,0,none⟩) (m+1) (m+1),.bool B]) (by simp[results,Tryz.results8,go_sem]) rfl ⟨.inr ⟨t,m+1,by rw[j.oQ,r.oQ],k.oQ⟩,o.oQ⟩
set_option maxHeartbeats 8000000
theorem Xs.butS {S:Nat->Prop}{w w':World}{c a:Nat}{l:List ByteArray}(h:Xs 1 dS w (some ⟨c,a,none⟩) l)(d:aT S w w')(m:¬S c):Xs 1 dS w' (some ⟨c,a,none⟩) l:=by
 rcases h with h|⟨b,o,e,f⟩;·exact .inl h
 ·cases e;exact .inr ⟨c,a,rfl,λk i j u g=>d.cell m (f k i j u g)⟩
theorem IS.but {S:Nat->Prop}{T:Nat}{v:Value}{o:ByteArray}{w w':World}(h:IS T v o w)(a:aT S w w')(d:¬S T)(g:∀q,v.ownBlock=some q->¬S q):IS T v o w':=by
 obtain⟨p,f,e⟩:=h.c;refine⟨⟨p,f,bE e a d⟩,vO h.r (λk b=>a.block k (h.r.lt k b).2 (g k b)),h.n⟩
structure OR (W0:World)(S T k:Nat)(L:List ByteArray)(wr:World)(F:Nat->Prop)(b:Bk)(v bv:Value):Prop where
 i:kT F S wr (nP (L.take k)).1 b v
 f:∀q,F q->q=S∨W0.heap.size<=q
 d:IS T bv (nP (L.take k)).2 wr
 b:∀q,bv.ownBlock=some q->W0.heap.size<=q/\¬F q
 w:aT (λq=>q=S∨q=T) W0 wr
theorem OR.step {G:World}{S T k:Nat}{L:List ByteArray}{wr D N E:World}{F m:Nat->Prop}{b b':Bk}{v U x c j:Value}(K:S≠T)(hT:T<G.heap.size)(O:8<=T)(h:OR G S T k L wr F b v x)
 {R:St}(y:kT m S D R b' U)(hF:∀q,m q->F q∨wr.heap.size<=q)(A:aT F wr D)
 (u:∀q,c.ownBlock=some q->x.ownBlock=some q∨D.heap.size<=q)(l:aT (λq=>q=T∨x.ownBlock=some q) D N)
 {Q:ByteArray}(I:IS T j Q E)(C:∀q,j.ownBlock=some q->c.ownBlock=some q∨N.heap.size<=q)(p:aT (λq=>q=T∨c.ownBlock=some q) N E)
 (P:nP (L.take (k+1))=(R,Q)):OR G S T (k+1) L E m b' U j:=by
 have M:¬F T:=λg=>(h.f T g).elim (λe=>K e.symm) (λe=>by omega);have hw:=h.w.size;have n:¬m T:=λg=>(hF T g).elim M (λe=>by omega);have o:∀q,x.ownBlock=some q->¬m q:=λq a g=>(hF q g).elim (h.b q a).2 (λe=>by have:=(h.d.r.lt q a).2;omega);have hs1:=A.size;have hs2:=l.size;have i:∀q,c.ownBlock=some q->¬m q:=λq a g=>(u q a).elim (λe=>o q e g) (λe=>by have:=(y.fl q g).2;omega);have t:∀q,j.ownBlock=some q->¬m q:=λq a g=>(C q a).elim (λe=>i q e g) (λe=>by have:=(y.fl q g).2;omega);have H:aT (λq=>¬m q) D E:=(l.wide (λq e=>e.elim (λe=>by rw[e];exact n) (o q))).trans (p.wide (λq e=>e.elim (λe=>by rw[e];exact n) (i q)));have B:∀q,x.ownBlock=some q->8<=q:=λq a=>by have:=(h.b q a).1;omega
 have J:yL E:=by
  have V:=y.e.but l (λq e=>e.elim (λe=>by rw[e];exact O) (B q));exact V.but p (λq e=>e.elim (λe=>by rw[e];exact O) (λe=>(u q e).elim (B q) (λg=>by have:=y.e.s;omega)))
 have z:∀q,c.ownBlock=some q->G.heap.size<=q:=λq a=>(u q a).elim (λe=>(h.b q e).1) (λe=>by omega);refine⟨by rw[P];exact y.out H J,λq g=>(hF q g).elim (h.f q) (λe=>.inr (by omega)),by rw[P];exact I,λq a=>⟨(C q a).elim (z q) (λe=>by omega),t q a⟩,?_⟩;exact((h.w.past A (λq g=>(h.f q g).elim (λe=>.inl (.inl e)) .inr)).past l (λq e=>e.elim (λe=>.inl (.inr e)) (λe=>.inr (h.b q e).1))).past p (λq e=>e.elim (λe=>.inl (.inr e)) (λe=>.inr (z q e)))
theorem TI {a x:ByteArray}(h:x∈eZ a):x.size<=a.size:=by
 unfold eZ at h;split at h;·exact nS (List.dropLast_sublist _ |>.subset h)
 ·exact nS h
theorem x8 (a:ByteArray)(w:World)(hE:yL w)(hs:a.size<=1048576):
 aY 5 #[.string a] w λe w'=>e=.returned (.string (B6 a))/\aF w w':=by
 have m:Hid (B6 a=if 20000<a.size then CY else if 300<(eZ a).length then CY else(nP (eZ a)).2):=rfl
 go_enter Tryz.func5,Tryz.ntmps5
 go_wp2_with fail
 refine(J3 a w hE hs).mono ?_
 rintro e A ⟨⟨h1,rfl⟩|⟨h1,cap,rfl,hX⟩,j⟩
 ·go_wp2
  go_ret;exact⟨by rw[m.oQ,if_pos h1];rfl,j⟩
 by_cases h3:(eZ a).length<=300
 ·have ze:∀x∈eZ a,x.size<=1048000:=λx hx=>by have:=TI hx;omega
  have HR:Hid (B6 a=(nP (eZ a)).2):=by rw[Hid,m.oQ,if_neg h1,if_neg (by omega)]
  have t:decide ((eZ a).length<=300)=true:=decide_eq_true h3;rw[t];obtain⟨L,hL⟩:=bP (eZ a);rw[←hL]at hX h3 ze HR ⊢;clear hL t m h1;have K:=hE.zL j;have hA:=wnq A (.cells #[.int .i64 0,.slice none 0 0,.slice none 0 0,.slice none 0 0] 38);have p:aF A (A.alloc (.cells #[.int .i64 0,.slice none 0 0,.slice none 0 0,.slice none 0 0] 38)):=aB (br _ _) _;have zy:(A.alloc (.cells #[.int .i64 0,.slice none 0 0,.slice none 0 0,.slice none 0 0] 38)).heap.size=A.heap.size+1:=by simp
  obtain⟨D,zg⟩:=cK (A.alloc (.cells #[.int .i64 0,.slice none 0 0,.slice none 0 0,.slice none 0 0] 38));obtain⟨S,hS⟩:=cK A.heap.size;rw[zg]at hA p zy;go_wp2_with fail
  refine(FJ S D).mono ?_;rintro e w2 ⟨rfl,rfl⟩;have hB:=wnq D (.map (CD S) 9);have l:aF D (D.alloc (.map (CD S) 9)):=aB (br _ _) _;have zz:(D.alloc (.map (CD S) 9)).heap.size=D.heap.size+1:=by simp
  obtain⟨J,zh⟩:=cK (D.alloc (.map (CD S) 9));obtain⟨r,hr⟩:=cK D.heap.size;rw[zh]at hB l zz ⊢;rw[hr]at hB ⊢;have hC:=wnq J (.cells #[.pointer none,.slice none 0 0] 44);have c:aF J (J.alloc (.cells #[.pointer none,.slice none 0 0] 44)):=aB (br _ _) _;have ya:(J.alloc (.cells #[.pointer none,.slice none 0 0] 44)).heap.size=J.heap.size+1:=by simp
  obtain⟨R,zi⟩:=cK (J.alloc (.cells #[.pointer none,.slice none 0 0] 44));obtain⟨T,hT⟩:=cK J.heap.size;rw[zi]at hC c ya;rw[hT]at hC
  have zn:w.heap.size<A.heap.size∨L=[]:=by
   rcases hX with h|⟨bl,off,e,hc⟩
   ·exact .inr h
   ·cases e
    by_cases h0:0<L.length
    ·exact .inl (aA (hc 0 h0 0 _ rfl))
    ·exact .inr (List.eq_nil_of_length_eq_zero (by omega))
  have yr:=K.s
  have H:Hid (w.heap.size<=A.heap.size/\A.heap.size=S/\r=S+1/\T=S+2/\R.heap.size=S+3/\8<=S/\(w.heap.size<S∨L=[])):=by
   have:=j.size;refine⟨this,hS,by omega,by omega,by omega,by omega,?_⟩;rw[←hS];exact zn
  have zb:=aG (aC (aC (aC j p) l) c);have yn:=aG (((hX.zL p).zL l).zL c);have yi:=aG (bJ hB c)
  have yj:Hid (OR R S T 0 L R (λq=>q=S) ⟨0,none,[],0,none,[],0⟩ (.slice none 0 0) (.slice none 0 0)):=by
   obtain⟨U,V,W,X,Y,Z,E⟩:=H.oQ;have ys:R.heap[S]?=some (.cells #[.int .i64 0,.slice none 0 0,.slice none 0 0,.slice none 0 0] 38):=by rw[←hS];exact bJ (bJ hA l) c
   refine⟨⟨ys,⟨rfl,.inl ⟨rfl,rfl⟩⟩,⟨⟨rfl,rfl,aU.refl _⟩,λw' _=>⟨.inl rfl,.inl rfl,λx hx=>by cases hx⟩,nlq _,by show 0<=_;omega⟩,rfl,λq y=>by simp[Value.ownBlock]at y,λq y=>?_,((K.zL p).zL l).zL c⟩,λq y=>.inl y,⟨⟨none,.inl rfl,hC⟩,⟨rfl,.inl ⟨rfl,rfl⟩⟩,by simp[Value.ownBlock]⟩,λq y=>by simp[Value.ownBlock]at y,aT.refl _ _⟩;have e:q=S:=y;rw[e];omega
  clear hA p zy hB l zz hC c ya zn hX K yr j zg zh hE;go_wp2
  clear zi hT hr hS
  go_loopw [20] (λiv wr=>∃k:Nat,k<=L.length/\iv=.int .i64 k/\∃(F:Nat->Prop) (b:Bk) (v bv:Value),Hid (OR R S T k L wr F b v bv)) (λiv _=>L.length-(intOf iv).toNat)
  case atStart=>exact⟨0,nz _,rfl,_,_,_,_,yj⟩
  case round=>
   obtain⟨k,hk,rfl,F,b,v,bv,z⟩:=hrel
   by_cases u:k<L.length
   ·have zt:(k:Int)<(L.length:Int):=by omega
    have zj:Xs 1 dS wr (some ⟨w.heap.size,0,none⟩) L:=yn.oQ.butS z.oQ.w (λe=>by
     obtain⟨U,V,W,X,Y,Z,E|E⟩:=H.oQ
     ·rcases e with e|e<;>omega
     ·rw[E]at u;simp at u)
    have c0:=gO zj k L[k] (lge u);rw[Nat.zero_add]at c0;have zu:=bE yi.oQ z.oQ.w (λe=>by obtain⟨U,V,W,X,Y,Z,E⟩:=H.oQ;rcases e with e|e<;>omega);obtain⟨C,yt⟩:=F7 L k hk;have I:Hid _:=wP L k u;have zs:=ze _ (lgm u);obtain⟨x,hx⟩:=bP (L[k]);rw[←hx]at c0 I zs;obtain⟨st,Q⟩:=bP ((nP (L.take k)).1);obtain⟨o,ho⟩:=bP ((nP (L.take k)).2);have P:=z.oQ.i;have O:=z.oQ.d;have G:=wB C (bH 32 x);rw[←Q]at P C G;rw[←ho]at O yt;have n:Hid (nP (L.take (k+1))=((aX st (bH 32 x)).1,o++(aX st (bH 32 x)).2++XS)):=by rw[Hid,I.oQ,FN,←Q,←ho]
    clear hx Q ho zj I;go_wp2_with fail
    refine(ML F S wr st b v P k C (by omega) x zs r 9 zu).mono ?_;rintro e w4 ⟨⟨F',b',v',B,zd⟩,rfl,M⟩;obtain⟨an,zk⟩:=bP ((aX st (bH 32 x)).2);obtain⟨s4,zv⟩:=bP ((aX st (bH 32 x)).1);rw[←zk]at G n ⊢;rw[←zv]at B n
    have zf:¬F T:=λg=>by
     obtain⟨U,V,W,X,Y,Z,E⟩:=H.oQ
     rcases z.oQ.f T g with e|e<;>omega
    have zo:IS T bv o w4:=O.but M zf (λq y=>(z.oQ.b q y).2);have yg:=aG B;have yf:=aG zd;have yc:=aG M;have za:=aG B.e.s;clear zk zv B zd M zf O P zu c0 C;go_wp2_with fail
    refine(vY T bv o an w4 zo (by omega) za.oQ).mono ?_;rintro e w5 ⟨⟨yp,rfl,zp,zw⟩,N⟩;have yb:=aG (Nat.le_trans za.oQ N.size);have yl:=aG zw;have yd:=aG N
    have yo:Hid ((o++an).size+XS.size<=140737488355328):=by
     have e:XS.size=1:=rfl;rw[Hid,ByteArray.size_append,e];omega
    clear zw N zo;go_wp2_with fail
    refine(vY T yp (o++an) XS w5 zp yo.oQ yb.oQ).mono ?_;rintro e w6 ⟨⟨yq,rfl,zq,zx⟩,zl⟩
    have yh:Hid (OR R S T (k+1) L w6 F' b' v' yq):=by
     obtain⟨U,V,W,X,Y,Z,E⟩:=H.oQ;exact z.oQ.step (by omega) (by omega) (by omega) yg.oQ yf.oQ yc.oQ yl.oQ yd.oQ zq zx zl n.oQ
    clear zp zq zx zl;go_wp2
    go_roundw
    case rel=>exact⟨k+1,by omega,by go_num,_,_,_,_,yh⟩
    case measure=>simp[intOf];omega
   ·have zt:¬(k:Int)<(L.length:Int):=by omega
    have zr:L.take k=L:=ltl (by omega);have hd:=z.oQ.d;rw[zr]at hd;have zc:Hid (aF w wr):=z.oQ.w.under zb.oQ (nlq _) (λq e=>by obtain⟨U,V,W,X,Y,Z,E⟩:=H.oQ;rcases e with e|e<;>omega);have yk:Hid (w.heap.size<=T):=by obtain⟨U,V,W,X,Y,Z,E⟩:=H.oQ;rw[Hid];omega
    have ym:Hid (∀q,bv.ownBlock=some q->w.heap.size<=q):=λq y=>by have:=(z.oQ.b q y).1;have:=zb.oQ.size;omega
    clear zr;go_wp2_with fail
    refine(BK hd w.heap.size yk.oQ ym.oQ zc.oQ.size).mono ?_;rintro e w7 ⟨rfl,zm⟩;have ye:=aG (zc.oQ.trans zm);clear zm hd;go_wp2
    go_ret;exact⟨by rw[HR.oQ];rfl,ye.oQ⟩
 ·have t:decide ((eZ a).length<=300)=false:=decide_eq_false h3
  have HR:Hid (B6 a=CY):=by rw[Hid,m.oQ,if_neg h1,if_pos (by omega)]
  rw[t];clear t m h1 h3;go_wp2
  go_ret;exact⟨by rw[HR.oQ];rfl,j⟩
theorem zW (a:ByteArray)(w:World)(k:yL w):
 aY 3 #[.string a] w λe w'=>e=.returned (.bool true)/\aF w w':=by
 by_cases h1:1048576<a.size
 ·have g:decide ((1048576:Int)<(a.size:Int))=true:=by rw[dte];omega
  go_enter Tryz.func3,Tryz.ntmps3;go_wp2;go_ret;exact⟨rfl,br _ _⟩
 ·have g:decide ((1048576:Int)<(a.size:Int))=false:=by rw[decide_eq_false_iff_not];omega
  go_enter Tryz.func3,Tryz.ntmps3;go_wp2_with fail;refine(yD a w (by omega)).mono ?_;rintro e l ⟨rfl,b⟩;have i:=k.zL b;have d:Hid _:=b;obtain⟨A,h⟩:=cK (B6 a);have j:=aG h;rw[h];clear b h;go_wp2_with fail;refine(x8 a l i (by omega)).mono ?_;rintro e w2 ⟨rfl,c⟩;rw[j.oQ];have f:=aG (aC d.oQ c);have hq:(A.toList !=A.toList)=false:=by simp
  clear c;go_wp2;go_ret;exact⟨rfl,f.oQ⟩
end Go.Proofs.YtcdbcliaepcpfaaGreatDoor
