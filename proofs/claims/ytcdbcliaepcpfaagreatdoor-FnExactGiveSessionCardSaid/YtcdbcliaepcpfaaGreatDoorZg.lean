import Derived.Lib.Builder
import Derived.Lib.AppendStr
import Derived.Laws.Externs
import Derived.Test.YtcdbcliaepcpfaaGreatDoorZa
import Derived.Lib.Join
import Derived.Maps.OwnIn
namespace Go.Proofs.YtcdbcliaepcpfaaGreatDoor
set_option maxRecDepth 100000
set_option maxHeartbeats 2000000
open Go.RowKit Go.BigFrame
theorem wA {P:Program}(w:World)(base:Nat)(t u p e:TypeId)(i:TypeInfo)(x:P.underlying t=some (.slice e))(y:P.underlying u=some .string)(q:P.info? e=some i)(B:i.zero=some (.int .u8 0))(a:i.size=1)(k:i.bytes=1)(v:Value)(n:Nat)(xs:List Value)(b:w.ownsRow base e 1 v n xs)(s:ByteArray)(d:n+s.size<=140737488355328)(h:base<=w.heap.size):
 ∃o w',(Builtin.append_ #[t,u] p #[v,.string s]).run P w=.ok o w'/\w'.ownsRow base e 1 o (n+s.size) (xs++Lib.strCells s)/\w.grownBy w' v.ownBlock/\(o.ownBlock=v.ownBlock∨o.ownBlock=some w.heap.size):=by
 obtain⟨o,w',r,C,D,E⟩:=Lib.run_append_own_string (P:=P) w base t u p e i x y q B a k v n xs b s (by unfold maxLen;omega) d h;refine⟨o,w',r,C,D,?_⟩;have A:xs.length=n:=by simpa using b.1
 rcases b.2 with⟨rfl,rfl⟩|⟨g,f,z,rfl,hbg,F,hnc,hcm,hcs,htake⟩
 ·by_cases G:s.size=0;·rw[E.2 ⟨rfl,G⟩];exact .inl rfl
  ·have c:=run_append_nil_string (P:=P) w t u p e i (.int .u8 0) x y q B s (by omega) (by omega) (by rw[k];omega);cases r.symm.trans c;exact .inr rfl
 ·by_cases m:n+s.size<=f
  ·have c:=Lib.run_append_room_string (P:=P) w t u p e i x y q a g n f z F s m (by omega);cases r.symm.trans c;exact .inl rfl
  ·have l:∀j u,xs[j]?=some u->w.cell? ((⟨g,0,none⟩:Addr).add j)=some u:=b.cells (g:=g) rfl;have c:=Lib.run_append_grow_string (P:=P) w t u p e i (.int .u8 0) x y q B ⟨g,0,none⟩ n f xs (by rw[a];simpa using A) l s (by omega) (by omega) (by rw[k];exact growslice_fits (by omega) (by omega));cases r.symm.trans c;exact .inr rfl
theorem Tryz.infoBld:(Tryz.prog.info? 44).map (λj=>j.size)=some 2:=by kernel_rfl
theorem n5 {P:Program} {w:World} {k:Array Oper} {c:List Oper} {o:Oper} {a:Act} {Q:Exit->Act->World->Prop} (m:o.guard=none) (p x:Operand) (t u:TypeId) (B:o.op=.call { callee:=.builtin .append,args:=#[p,x],argTypes:=#[t,u]})
 (base:Nat) (e:TypeId) (i:TypeInfo) (E:P.underlying t=some (.slice e)) (F:P.underlying u=some .string) (A:P.info? e=some i) (G:i.zero=some (.int .u8 0)) (f:i.size=1) (l:i.bytes=1) (v:Value) (n:Nat) (xs:List Value) (D:a.eval p=v) (j:w.ownsRow base e 1 v n xs) (s:ByteArray) (hx:a.eval x=.string s) (b:n+s.size<=140737488355328) (d:base<=w.heap.size)
 (h:∀g w',w'.ownsRow base e 1 g (n+s.size) (xs++Lib.strCells s)->w.grownBy w' v.ownBlock->(g.ownBlock=v.ownBlock∨g.ownBlock=some w.heap.size)->wpList P k Q c (a.put o.dst g) w'):wpList P k Q (o::c) a w:=by
 refine wpList_plain m λK z=>?_;obtain⟨g,w',C,q,r,y⟩:=wA (P:=P) w base t u o.type e i E F A G f l v n xs j s b d;unfold Oper.wp execOp;simp only[B,resolve,invoke,builtin,Sem.run_bind,Sem.run_pure,Result.andThen_ok,List.map_toArray,List.map_cons,List.map_nil,D,hx,C];exact z _ _ (h g w' q r y)
structure IS (T:Nat)(v:Value)(o:ByteArray)(w:World):Prop where
 c:∃p:Option Addr,(p=none∨p=some ⟨T,0,none⟩)/\w.heap[T]?=some (.cells #[.pointer p,v] 44)
 r:w.ownsRow 8 5 1 v o.size (Lib.strCells o)
 n:v.ownBlock≠some T
theorem BN (T:Nat)(w:World)(h0:w.cell? ⟨T,0,none⟩=some (.pointer (some ⟨T,0,none⟩))):
 aY 34 #[.pointer (some ⟨T,0,none⟩)] w λe w'=>(∃v,e=.returned v)/\w'=w:=by
 obtain⟨j,a,_⟩:=Option.map_eq_some_iff.1 Tryz.infoBld;go_enter Tryz.func34,Tryz.ntmps34;go_wp2;rw[Lib.run_neq_ptr_same w _ Tryz.underlying41 a];go_wp2;exact bodyPost_end (results_none rfl _ _ _) rfl ⟨⟨_,rfl⟩,rfl⟩
theorem yF (T:Nat)(w:World)(h0:w.cell? ⟨T,0,none⟩=some (.pointer none))(a:w.shape? T=some (44,2))(hfz:∀i,w.frozen? ⟨T,i,none⟩=false):
 aY 34 #[.pointer (some ⟨T,0,none⟩)] w λe w'=>(∃v,e=.returned v)/\w'=w.setCell ⟨T,0,none⟩ (.pointer (some ⟨T,0,none⟩)):=by
 obtain⟨j,c,b⟩:=Option.map_eq_some_iff.1 Tryz.infoBld;go_enter Tryz.func34,Tryz.ntmps34;go_wp2;rw[Lib.run_to_unsafe w ⟨T,0,none⟩ Tryz.underlying41 Tryz.underlying111 c (by rw[b];decide) a (Nat.zero_lt_succ 1)];simp only[Result.andThen];rw[Oper.upon_value];go_wp2;rw[run_callFunc_extern Tryz.func73 (by kernel_rfl) (by kernel_rfl) (by kernel_rfl) (e:=Extern.AbiNoEscape.same) (by kernel_rfl)];rw[Lib.run_noEscape];simp only[Result.andThen];rw[Oper.upon_value];go_wp2;rw[Lib.run_from_unsafe w ⟨T,0,none⟩ Tryz.underlying111 Tryz.underlying41 c a (by kernel_rfl)];simp only[Result.andThen];rw[Oper.upon_value];go_wp2;exact bodyPost_end (results_none rfl _ _ _) rfl ⟨⟨_,rfl⟩,rfl⟩
theorem CL {T:Nat}{v:Value}{o:ByteArray}{w:World}(h:IS T v o w):
 aY 34 #[.pointer (some ⟨T,0,none⟩)] w λe w'=>(∃u,e=.returned u)/\w'.heap[T]?=some (.cells #[.pointer (some ⟨T,0,none⟩),v] 44)/\aT (λk=>k=T) w w':=by
 obtain⟨p,rfl|rfl,a⟩:=h.c
 ·refine(yF T w (aJ a rfl) (by simp[World.shape?,a]) (λi=>by simp[World.frozen?,a])).mono ?_;rintro e w' ⟨⟨u,rfl⟩,rfl⟩;exact⟨⟨u,rfl⟩,aO a 0 _,(aT.refl (λk=>k=T) w).set (g:=T) rfl _ _⟩
 ·refine(BN T w (aJ a rfl)).mono ?_;rintro e w' ⟨⟨u,rfl⟩,rfl⟩;exact⟨⟨u,rfl⟩,a,aT.refl _ _⟩
theorem Tryz.infoByte8:(Tryz.prog.info? 5).map (λi=>(i.zero,i.size,i.bytes))=some (some (.int .u8 0),1,1):=by kernel_rfl
theorem ER (a b:ByteArray):Lib.strCells (a++b)=Lib.strCells a++Lib.strCells b:=by simp[Lib.strCells]
theorem vY (T:Nat)(v:Value)(o s:ByteArray)(w:World)(h:IS T v o w)(hlen:o.size+s.size<=140737488355328)(h8:8<=w.heap.size):
 aY 10 #[.pointer (some ⟨T,0,none⟩),.string s] w λe w'=>(∃E,e=.returned (.tuple #[.int .i64 s.size,.nilIface])/\IS T E (o++s) w'/\∀k,E.ownBlock=some k->v.ownBlock=some k∨w.heap.size<=k)/\aT (λk=>k=T∨v.ownBlock=some k) w w':=by
 obtain⟨S,Q,K,L,M⟩:=info_parts Tryz.infoByte8
 go_enter Tryz.func10,Tryz.ntmps10
 go_wp2_with fail
 refine(CL h).mono ?_;rintro e F ⟨⟨u,rfl⟩,y,l⟩
 have D:F.ownsRow 8 5 1 v o.size (Lib.strCells o):=i6 h.r (λk P _ t=>l.block k (gT t) (λe=>by
  have I:k=T:=e;obtain⟨p,_,x⟩:=h.c;rw[I,x]at t
  simp at t))
 have O:F.cell? ⟨T,1,none⟩=some v:=aJ y rfl;have hs1:=l.size
 go_wp2_with (at_builtin;refine n5 rfl _ _ 42 9 rfl 8 5 S Tryz.underlying42 Tryz.underlying9 Q K L M _ _ _ rfl D s rfl ?c4 ?c5 ?_)
 case c4=>omega
 case c5=>omega
 intro E f b a B;have m:aT (λk=>v.ownBlock=some k) F f:=⟨a.os,a.tape,a.output,a.size,λk C R=>a.block k C (λe=>R e.symm)⟩;have d:f.heap[T]?=some (.cells #[.pointer (some ⟨T,0,none⟩),v] 44):=bE y m h.n
 obtain⟨i,A,j,rfl⟩:∃i A j,E=.slice i A j:=by
  rcases b.2 with⟨J,_⟩|⟨g,cap,cur,J,_⟩
  ·exact⟨_,_,_,J⟩
  ·exact⟨_,_,_,J⟩
 have d1:f.cell? ⟨T,1,none⟩=some v:=aJ d rfl;have f1:=iQ d;have q:aT (λk=>k=T) f (f.setCell ⟨T,1,none⟩ (.slice i A j)):=(aT.refl (λk=>k=T) f).set (g:=T) rfl _ _
 have z:∀k,(Value.slice i A j).ownBlock=some k->v.ownBlock=some k∨w.heap.size<=k:=λk C=>by
  rcases B with ha|ha
  ·exact .inl (ha▸C)
  ·rw[ha]at C
   have:F.heap.size=k:=by simpa using C
   exact .inr (by omega)
 have G:Hid (aT (λk=>k=T∨v.ownBlock=some k) w (f.setCell ⟨T,1,none⟩ (.slice i A j))):=((l.wide (λ_ e=>.inl e)).trans (m.wide (λ_ e=>.inr e))).trans (q.wide (λ_ e=>.inl e))
 have H:Hid (IS T (.slice i A j) (o++s) (f.setCell ⟨T,1,none⟩ (.slice i A j))):=by
  refine⟨⟨_,.inr rfl,aO d 1 _⟩,?_,λe=>?_⟩
  ·rw[ByteArray.size_append,ER]
   exact i6 b (λk P _ t=>q.block k (gT t) (λe=>by
    have I:k=T:=e;rw[I,d]at t
    simp at t))
  ·rcases z T e with g|g
   ·exact h.n g
   ·obtain⟨p,_,x⟩:=h.c
    have:=gT x;omega
 have N:=aG z;clear b a B m q z d y D O;go_wp2
 exact bpr (v:=.tuple #[.int .i64 s.size,.nilIface]) (by simp[results,Tryz.results10,go_sem]) rfl ⟨⟨_,rfl,H.oQ,N.oQ⟩,G.oQ⟩
set_option maxHeartbeats 16000000
theorem aT.past {S S':Nat->Prop}{a w w':World}(h:aT S a w)(g:aT S' w w')(d:∀k,S' k->S k∨a.heap.size<=k):aT S a w':=⟨g.os.trans h.os,g.tape.trans h.tape,g.output.trans h.output,Nat.le_trans h.size g.size,λk b c=>(g.block k (Nat.lt_of_lt_of_le b h.size) (λe=>(d k e).elim c (λe2=>absurd b (by omega)))).trans (h.block k b c)⟩
theorem IS.zL {T:Nat}{v:Value}{o:ByteArray}{w w':World}(h:IS T v o w)(a:aF w w'):IS T v o w':=by
 obtain⟨p,d,b⟩:=h.c;exact⟨⟨p,d,bJ b a⟩,eO h.r a,h.n⟩
theorem TZ {w:World}{base base' e sz:Nat}{v:Value}{m:Nat}{xs:List Value}(h:w.ownsRow base e sz v m xs)(i:∀k,v.ownBlock=some k->base'<=k):w.ownsRow base' e sz v m xs:=by
 obtain⟨c,h|⟨g,a,b,d,h2,f⟩⟩:=h;·exact⟨c,.inl h⟩
 ·exact⟨c,.inr ⟨g,a,b,d,i g (by rw[d];rfl),f⟩⟩
theorem BK {T:Nat}{v:Value}{o:ByteArray}{w:World}(h:IS T v o w)(B:Nat)(f:B<=T)(j:∀k,v.ownBlock=some k->B<=k)(b:B<=w.heap.size):
 aY 12 #[.pointer (some ⟨T,0,none⟩)] w λe w'=>e=.returned (.string o)/\Below B w w':=by
 have i:Lib.IsBuilder 44 5 B T (Lib.byteCells o.data.toList) w:=by
  have g:w.ownsRow B 5 1 v (Lib.byteCells o.data.toList).length (Lib.byteCells o.data.toList):=by
   rw[←Lib.strCells_eq,Lib.strCells_length];exact TZ h.r j
  obtain⟨p,d|d,a⟩:=h.c
  ·rw[d]at a;exact .inl ⟨f,v,a,g,h.n⟩
  ·rw[d]at a;exact .inr ⟨f,v,a,g,h.n⟩
 exact Tryz.Builder_String_any B T o.data.toList w i b
theorem kT.tb {F:Nat->Prop}{S:Nat}{w:World}{s:St}{b:Bk}{ta:Option Addr}{a:Nat}(h:kT F S w s b (.slice ta s.t.length a)):jJ w ta s.t:=by
 obtain⟨ta',tc',e,hx⟩:=h.hv;cases e;exact hx
theorem wQz {s:St}{a:List ByteArray}(h:¬a.length=2):mY s a=(s,cX):=by
 unfold mY;split;·simp at h
 ·rfl
def ZJ (vw:Value)(bl off:Nat)(nm x:ByteArray)(n:Int)(j:Nat)(v:Value)(_w:World):Prop:=
 match j with
 |0|3=>v=vw
 |1=>v=.pointer (some ⟨bl,off,none⟩)
 |2=>v=.string nm
 |4=>v=.pointer (some ⟨bl,off+1,none⟩)
 |5=>v=.string x
 |6=>v=.int .i64 n/\0<=n
 |_=>True
def WO (S:Nat)(b:Bk)(nm:ByteArray)(tv:Value)(most:Int)(L:List Sp)(E:Prop)(Z:Nat)(j:Nat)(v:Value)(w:World):Prop:=
 match j with
 |0|1|2|5|6=>v=.pointer (some ⟨S,0,none⟩)
 |3=>v=b.val
 |4=>v=.string nm
 |7=>v=.pointer (some ⟨S,3,none⟩)
 |8=>v=tv
 |9=>v=.int .i64 most
 |10=>kW w Z v L/\E
 |11=>v=.int .i64 L.length
 |12=>v=.int .i64 0
 |_=>True
theorem WO.zL {S:Nat}{b:Bk}{nm:ByteArray}{d:Value}{a:Int}{L:List Sp}{E:Prop}{Z:Nat}(j:Nat)(v:Value)(w w':World)(c:WO S b nm d a L E Z j v w)(e:aF w w'):WO S b nm d a L E Z j v w':=by
 unfold WO at*;split at c
 all_goals first
  |exact c
  |(exact⟨c.1.zL e,c.2⟩)
theorem RS (F:Nat->Prop)(S:Nat)(w:World)(s:St)(b:Bk)(v:Value)(hS:kT F S w s b v)(kk:Nat)(zs:iP kk s)(hkk:kk<=1000)(a:List ByteArray)(ao:Option Addr)(yl:Nat)(hX:Xs 1 dS w ao a):
 aY 32 #[.pointer (some ⟨S,0,none⟩),.slice ao a.length yl] w λe w'=>UW F S w s (mY s a) e w':=by
 by_cases hl:a.length=2
 ·obtain⟨nm,x,rfl⟩:∃nm x,a=[nm,x]:=by
   match a,hl with
   |[nm,x],_=>exact⟨nm,x,rfl⟩
  obtain⟨ta,tc,rfl,_⟩:=hS.hv;have J:=aG hS
  rcases hX with h|⟨bl,i,rfl,zo⟩
  ·cases h
  have c0:w.cell? ⟨bl,i,none⟩=some (.string nm):=by have:=zo 0 (by simp) 0 _ rfl;simpa using this
  have c1:w.cell? ⟨bl,i+1,none⟩=some (.string x):=by have:=zo 1 (by simp) 0 _ rfl;simpa using this
  clear hl zo;obtain⟨n,hx⟩:=cK (aV x);have yk:=aG hx;have zx:Hid (n=-1->mY s [nm,x]=(s,cX)):=λh=>by rw[mY,hx,if_neg (by omega)]
  have xm:Hid (0<=n->mY s [nm,x]=(s,mS s.b nm s.t n)):=λh=>by rw[mY,hx,if_pos h]
  have yg:Hid (s.t.length<=1048576):=by rw[Hid];have:=zs.t;omega
  clear hx hS
  go_enter Tryz.func32,Tryz.ntmps32
  go_wp2_with (go_at_call 36;refine(gD _).mono ?_;rintro e w' ⟨⟨u,rfl⟩,xc⟩;rw[xc];clear xc)
  refine pG 7 [some 16,some 17,some 18,some 19,some 20,some 21,some 22] (ZJ (.slice (some ⟨bl,i,none⟩) 2 yl) bl i nm x n) (λ_ _ _ _ h _=>h) ?step ?fin
  case step=>
   intro ii o y w' R l f j;have xe:=(f.cell (aA c0)).trans c0;have xf:=(f.cell (aA c1)).trans c1
   match ii,R with
   |1,_|2,_|4,_|5,_=>
    simp at l;subst l
    simp[Region.binds,ZJ]at j
    simp only[aE,Act.put,j];gi_wp2;exact⟨_,by simp[aH,j],rfl,br _ _⟩
   |0,_|3,_=>
    simp at l;subst l;simp only[aE,Act.put];gi_wp2;exact⟨_,by simp[aH],rfl,br _ _⟩
   |6,_=>
    simp at l;subst l
    simp[Region.binds,ZJ]at j
    simp only[aE,Act.put,j];gi_wp2_with fail
    refine⟨trivial,rfl,?_⟩;refine(cw.2 (oR x w')).mono ?_
    rintro e w5 ⟨⟨h0,rfl⟩|⟨h1,rfl⟩,za⟩
    ·rw[yk.oQ]at h0 ⊢
     rw[za];clear za;gi_wp2;exact⟨_,by simp[aH,j],⟨rfl,h0⟩,br _ _⟩
    ·have HZ:Hid (mY s [nm,x]=(s,cX)):=zx.oQ (by rw[←yk.oQ];exact h1)
     rw[za];clear za h1;gi_wp2;exact⟨rfl,.inl ⟨HZ.oQ,rfl,f⟩⟩
   |q+7,h=>exact absurd h (by omega)
  case fin=>
   intro y U f m;obtain⟨e6,yv⟩:=m 6 (by decide);have e2:y 2=.string nm:=m 2 (by decide);have HR:=aG (xm.oQ yv);have zw:aF U (U.alloc (.cells #[.pointer none,.slice none 0 0] 44)):=aB (br _ _) _;have zc:=aG (aC f zw);have B:Hid (IS U.heap.size (.slice none 0 0) ⟨#[]⟩ (U.alloc (.cells #[.pointer none,.slice none 0 0] 44))):=⟨⟨none,.inl rfl,wnq U _⟩,⟨rfl,.inl ⟨rfl,rfl⟩⟩,by simp[Value.ownBlock]⟩;have K:=aG f.size;have C:Hid (U.heap.size<(U.alloc (.cells #[.pointer none,.slice none 0 0] 44)).heap.size):=by rw[Hid];simp
   clear m f zw yv;simp only[lds,List.drop_zero,aE,Act.put];rw[e2,e6];clear e2 e6;generalize y=y;gi_wp2_with fail
   go_upto_region 4 with fail
   obtain⟨T,hT⟩:=cK U.heap.size;obtain⟨W1,yq⟩:=cK (U.alloc (.cells #[.pointer none,.slice none 0 0] 44));rw[yq]at zc B C ⊢;rw[hT]at B K C ⊢;have xj:=aG B.oQ;have zf:=aG K.oQ;have xp:=aG C.oQ;have W:=J.oQ.zL zc.oQ;obtain⟨L,hL⟩:=cK (nR s.b nm s.t n);have HL:=aG hL;clear yq hT hL B K C;refine wpIn_wide.1 (uA (F:=Fence.wide) (n:=0) (by kernel_rfl) 13 [some 23,some 24,some 25,some 26,some 27,some 28,some 29,some 30,some 31,some 32,some 33,some 34,some 35] rfl (WO S b nm (.slice ta s.t.length tc) n L (eL s.b nm s.t n L) W1.heap.size) WO.zL (by kernel_rfl) ?step ?fin)
   case step=>
    intro ii o y w' R l f j;obtain⟨xe,xf,xx,xy⟩:=(W.zL f).c
    match ii,R with
    |1,_|2,_|3,_|6,_|7,_|8,_=>
     simp at l;subst l
     simp[Region.binds,WO]at j
     simp only[aE,Act.put,j];gi_wp2;exact⟨_,by simp[aH,j],rfl,br _ _⟩
    |0,_|4,_|5,_|9,_|12,_=>
     simp at l;subst l;simp only[aE,Act.put];gi_wp2;exact⟨_,by simp[aH],rfl,br _ _⟩
    |10,_=>
     simp at l;subst l
     simp[Region.binds,WO]at j
     simp only[aE,Act.put,j];gi_wp2_with fail
     refine⟨trivial,rfl,?_⟩;refine(cw.2 (O9 (W.zL f).b zs.b nm s.t ta tc n (W.zL f).tb yg.oQ)).mono ?_;rintro e w5 ⟨⟨v5,rfl,E,zl⟩,A⟩;rw[HL.oQ]at E zl;have xo:=aG (E.weak f.size);have xn:=aG zl;clear E zl;gi_wp2;exact⟨_,by simp[aH,j],⟨xo.oQ,xn.oQ⟩,A⟩
    |11,_=>
     simp at l;subst l;obtain⟨E,_⟩:=Zq j 10;obtain⟨ao,cp,ym,_⟩:=E.xs;clear E j;simp only[aE,Act.put,ym];gi_wp2;exact⟨_,by simp[aH,ym],rfl,br _ _⟩
    |q+13,h=>exact absurd h (by omega)
   case fin=>
    intro y w4 f m;obtain⟨zm,zk⟩:=m 10 (by decide);have yn:y 11=.int .i64 L.length:=m 11 (by decide);have yo:y 12=.int .i64 0:=m 12 (by decide);have zr:=yG zk;have hl3:=zk.len;have yd:=aG (aC zc.oQ f);have xk:=aG (xj.oQ.zL f);obtain⟨ao,cp,D,xd⟩:=zm.xs;have yj:=aG xd
    have yc:Hid (∀g i,ao=some ⟨g,i,none⟩->g≠T):=λg i e e2=>by
     rcases zm with⟨h,_⟩|⟨g',cap',h1,h2,_⟩
     ·rw[h]at D
      injection D with e3
      rw[←e3]at e
      cases e
     ·rw[h1]at D
      cases D
      cases e
      have:=xp.oQ;omega
    clear m f zm xd zk W;simp only[aE,Act.put,List.setIfInBounds_toArray,List.set_cons_succ,List.set_cons_zero,Nat.reduceAdd];rw[D,yn,yo];clear D yn yo;generalize y=y;gi_wp2_with fail
    go_wp2
    obtain⟨W4,hW4⟩:=bP w4;have xh:=aG xk.oQ
    go_loopw [35] (λiv wr=>∃k:Nat,k<=L.length/\iv=.int .i64 k/\∃bv:Value,Hid (IS T bv ((L.take k).foldl mJ ⟨#[]⟩) wr)/\Hid (∀q,bv.ownBlock=some q->w4.heap.size<=q)/\Hid (aT (λr=>r=T) w4 wr)) (λiv _=>L.length-(intOf iv).toNat)
    case atStart=>exact⟨0,nz _,rfl,_,xh,λq hq=>by simp[Value.ownBlock]at hq,aT.refl _ _⟩
    case round=>
     obtain⟨k,hk,rfl,bv,HD,HV,HW⟩:=hrel;have Z:=wK (L.take k) (λp m=>⟨(zr p (List.mem_of_mem_take m)).2.1,(zr p (List.mem_of_mem_take m)).2.2.2⟩) ⟨#[]⟩;have zb:(L.take k).length<=301:=by rw[List.length_take];omega
     have xa:(ByteArray.mk #[]).size=0:=rfl;have zd:Hid (aF w wr):=HW.oQ.under yd.oQ (nlq _) (λk e=>by rw[e];exact zf.oQ)
     by_cases G:k<L.length
     ·have yu:(k:Int)<(L.length:Int):=by omega
      rcases yj.oQ with h|⟨g,i,yr,zp⟩
      ·rw[h]at G;simp at G
      have yb:=aG (yc.oQ g i yr);subst yr;have k0:wr.cell? ⟨g,i+k*2,none⟩=some (.int .i64 L[k].lo):=HW.oQ.cell yb.oQ (zp k G 0 _ rfl);have k1:wr.cell? ⟨g,i+k*2+1,none⟩=some (.int .i64 L[k].hi):=HW.oQ.cell yb.oQ (zp k G 1 _ rfl);obtain⟨yx,zt,yy,zu⟩:=zr _ (lgm G);have z:(L.take (k+1)).foldl mJ ⟨#[]⟩=mJ ((L.take k).foldl mJ ⟨#[]⟩) L[k]:=by rw[List.take_succ_eq_append_getElem G,List.foldl_append];rfl
      obtain⟨s0,yz⟩:∃s,s=(L.take k).foldl mJ ⟨#[]⟩:=⟨_,rfl⟩;obtain⟨p,m⟩:=bP (L[k]);rw[←yz]at z Z HD;rw[←m]at z k0 k1 yx zt yy zu;clear yz m zp
      have xw:(pK p.lo p.hi).size<=4000003:=by
       have:=bG zt;have:=bG zu;have e1:UJ.size=1:=rfl;simp only[pK,ByteArray.size_append,e1];omega
      have g1:¬9223372036854775807<(pK p.lo p.hi).size+1:=by omega
      have HT:Hid ((L.take (k+1)).foldl mJ ⟨#[]⟩=s0++(pK p.lo p.hi++⟨#[32]⟩)):=by rw[Hid,z,mJ,pK];simp only[ByteArray.append_assoc]
      have zh:Hid (s0.size+(pK p.lo p.hi++⟨#[32]⟩).size<=140737488355328):=by
       have e1:(ByteArray.mk #[32]).size=1:=rfl;rw[Hid,ByteArray.size_append,e1];omega
      obtain⟨ft,zq⟩:=bP (pK p.lo p.hi);rw[←zq]at HT zh g1;obtain⟨st,xt⟩:=cK (ft++⟨#[32]⟩);rw[xt]at HT zh;have xl:=aG zq.symm;clear zq xw z Z zb xa;have Y:aF wr (wr.alloc (.cells #[.int .i64 p.lo,.int .i64 p.hi] 98)):=aB (br _ _) _;have q0:(wr.alloc (.cells #[.int .i64 p.lo,.int .i64 p.hi] 98)).cell? ⟨wr.heap.size,0,none⟩=some (.int .i64 p.lo):=aJ (wnq wr _) rfl;have q1:(wr.alloc (.cells #[.int .i64 p.lo,.int .i64 p.hi] 98)).cell? ⟨wr.heap.size,1,none⟩=some (.int .i64 p.hi):=aJ (wnq wr _) rfl;have zy:=aG (HD.oQ.zL Y);have yi:=aG (HW.oQ.trans (aT.below Y));have zj:yL (wr.alloc (.cells #[.int .i64 p.lo,.int .i64 p.hi] 98)):=J.oQ.e.zL (aC zd.oQ Y);clear HD HW Y;go_wp2_with fail
      refine(AM p.lo p.hi _ zj yx zt yy zu).mono ?_;rintro e w5 ⟨rfl,A⟩;rw[xl.oQ];have zz:=aG (zy.oQ.zL A);have zg:=aG (yi.oQ.trans (aT.below A));have xg:=aG ((zj.zL A).s);clear A zy yi zj q0 q1 k0 k1;go_wp2_with fail
      refine(vY T bv s0 st w5 zz.oQ zh.oQ xg.oQ).mono ?_;rintro e w6 ⟨⟨zi,rfl,yp,xb⟩,ys⟩;have xi:Hid (IS T zi ((L.take (k+1)).foldl mJ ⟨#[]⟩) w6):=by rw[Hid,HT.oQ];exact yp
      have xq:Hid (∀q,zi.ownBlock=some q->w4.heap.size<=q):=λq hq=>(xb q hq).elim (HV.oQ q) (λh=>Nat.le_trans zg.oQ.size h);have xr:Hid (aT (λr=>r=T) w4 w6):=zg.oQ.past ys (λk e=>e.elim .inl (λe=>.inr (HV.oQ k e)));clear yp xb ys zz zg HT;go_wp2
      go_roundw
      case rel=>exact⟨k+1,by omega,by go_num,zi,xi,xq,xr⟩
      case measure=>simp[intOf];omega
     ·have yu:¬(k:Int)<(L.length:Int):=by omega
      have yt:L.take k=L:=ltl (by omega);rw[yt]at Z zb HD;clear yt;obtain⟨O,zn⟩:=bP (L.foldl mJ ⟨#[]⟩);rw[←zn]at Z HD;have ye:=aG zn;have yh:Hid (∀q,bv.ownBlock=some q->w.heap.size<=q):=λq hq=>Nat.le_trans yd.oQ.size (HV.oQ q hq);have X:=J.oQ.zL zd.oQ;obtain⟨oe,yw⟩:∃o,o=pN s.b nm s.t n:=⟨_,rfl⟩;have HO:=aG yw;clear yw zn yj HV HW
      go_upto_region 9 with fail
      refine pG 15 [some 48,some 49,some 50,some 51,some 52,some 53,some 54,some 55,some 56,some 57,some 58,some 47,some 59,some 60,some 10] (XT S b nm (.slice ta s.t.length tc) n oe (eA s.b nm s.t n oe)) (λ_ _ _ _ h _=>h) ?step ?fin
      case step=>
       intro ii o y w' R l f j;obtain⟨xe,xf,xx,xy⟩:=(X.zL f).c
       match ii,R with
       |1,_|2,_|3,_|6,_|7,_|8,_|11,_|12,_|13,_|14,_=>
        simp at l;subst l
        simp[Region.binds,XT]at j
        simp only[aE,Act.put,j];gi_wp2;exact⟨_,by simp[aH,j],rfl,br _ _⟩
       |0,_|4,_|5,_|9,_=>
        simp at l;subst l;simp only[aE,Act.put];gi_wp2;exact⟨_,by simp[aH],rfl,br _ _⟩
       |10,_=>
        simp at l;subst l
        simp[Region.binds,XT]at j
        simp only[aE,Act.put,j];gi_wp2_with fail
        refine⟨trivial,rfl,?_⟩;refine(cw.2 (OX (X.zL f).b zs.b nm s.t ta tc n (X.zL f).tb yg.oQ)).mono ?_;rintro e w5 ⟨⟨rfl,hE⟩,A⟩;rw[←HO.oQ]at hE;rw[←HO.oQ,I5];have HE:=aG hE;clear hE;gi_wp2;exact⟨_,by simp[aH,j],⟨rfl,HE.oQ⟩,A⟩
       |q+15,h=>exact absurd h (by omega)
      case fin=>
       intro y U f m;have HE:Hid (eA s.b nm s.t n oe):=(m 10 (by decide)).2;have H:=aG (aC zd.oQ f);have ya:=aG (HD.oQ.zL f);clear f X
       cases oe with
       |none=>
        have M:y 13=.bool false:=m 13 (by decide);have N:y 14=.int .i64 0:=m 14 (by decide);clear m;simp only[lds,List.drop_zero,aE,Act.put];rw[M,N];clear M N;generalize y=y;have ze:Hid (mS s.b nm s.t n=O++⟨#[110,101,118,101,114]⟩):=by rw[Hid,mS,←HO.oQ,HL.oQ,←ye.oQ];rfl
        have g1:¬9223372036854775807<O.size+5:=by omega
        gi_wp2_with fail
        go_wp2_with fail
        refine(BK ya.oQ w.heap.size zf.oQ yh.oQ H.oQ.size).mono ?_;rintro e w9 ⟨rfl,Q⟩;have I:=aG (H.oQ.trans Q);have V:=aG (J.oQ.zL I.oQ);clear Q;go_wp2
        go_ret;exact .inr ⟨⟨F,b,_,by rw[HR.oQ];exact V.oQ,λk hk=>.inl hk⟩,by rw[HR.oQ,ze.oQ];rfl,aT.below I.oQ⟩
       |some d=>
        have M:y 13=.bool true:=m 13 (by decide);have N:y 14=.int .i64 d:=m 14 (by decide);clear m;simp only[lds,List.drop_zero,aE,Act.put];rw[M,N];clear M N;generalize y=y;obtain⟨xu,xv⟩:=EV HE.oQ;have ze:Hid (mS s.b nm s.t n=O++⟨#[102,114,101,101,32]⟩++dD d):=by rw[Hid,mS,←HO.oQ,HL.oQ,←ye.oQ];rfl
        have g1:¬9223372036854775807<O.size+5:=by omega
        have hds:=bG xv;have g2:¬9223372036854775807<O.size+5+(dD d).size:=by omega
        gi_wp2_with fail
        go_wp2_with fail
        refine(BK ya.oQ w.heap.size zf.oQ yh.oQ H.oQ.size).mono ?_;rintro e w9 ⟨rfl,Q⟩;have I:=aG (H.oQ.trans Q);have V:=aG (J.oQ.zL I.oQ);clear Q H;go_wp2_with fail
        refine(uS d w9 V.oQ.e xu (by omega)).mono ?_;rintro e w10 ⟨rfl,P⟩;have zv:=aG (aC I.oQ P);have yf:=aG (V.oQ.zL P);clear P;go_wp2
        go_ret;exact .inr ⟨⟨F,b,_,by rw[HR.oQ];exact yf.oQ,λk hk=>.inl hk⟩,by rw[HR.oQ,ze.oQ];rfl,aT.below zv.oQ⟩
 ·have HR:Hid (mY s a=(s,cX)):=wQz hl
  have hl':((a.length:Int)==2)=false:=by rw[beq_eq_false_iff_ne];omega
  clear hl
  go_enter Tryz.func32,Tryz.ntmps32
  go_wp2_with (go_at_call 36;refine(jD _).mono ?_;rintro e w' ⟨rfl,rfl⟩)
  exact⟨rfl,.inl ⟨HR.oQ,rfl,br _ _⟩⟩
def kD (h:Hx):ByteArray:=h.n++⟨#[58]⟩++iG h.tl++⟨#[47]⟩++iG h.nl
theorem MT (o:ByteArray)(h:Hx):mC o h=o++(XW++kD h):=by
 simp only[mC,kD,ByteArray.append_assoc]
theorem D7:∀(l:List Hx) (o:ByteArray),l.foldl mC o=o++⟨(Lib.joinTail [32] (l.map λh=>(kD h).data.toList)).toArray⟩
 |[],o=>by
  apply ByteArray.ext;simp[Lib.joinTail]
 |h::r,o=>by
  rw[List.foldl_cons,D7 r,MT];apply ByteArray.ext;apply Array.ext';simp[Lib.joinTail]
theorem RE (b:Bk):(⟨(Lib.join ((dD b.now::b.hl.map kD).map (·.data.toList)) [32]).toArray⟩:ByteArray)=qD b:=by
 unfold qD;rw[D7];apply ByteArray.ext;apply Array.ext';rw[List.map_cons,Lib.join_cons];simp[List.map_map];rfl
def VA (H:Nat)(x:Hx)(v5:Value)(s1 s2 s3 s4 s5 s6:ByteArray)(j:Nat)(v:Value)(w:World):Prop:=
 match j with
 |0=>v=v5
 |1=>v=.pointer (some ⟨H,0,none⟩)
 |2=>v=.string x.n
 |3=>v=.string s1
 |4=>v=.pointer (some ⟨H,1,none⟩)
 |5=>v=.slice x.ta x.tl.length x.tc
 |6=>v=.string s2
 |7=>v=.string s3
 |8=>v=.string s4
 |9=>v=.pointer (some ⟨H,2,none⟩)
 |10=>v=.slice x.na x.nl.length x.nc
 |11=>v=.string s5
 |12=>v=.string s6
 |13=>∃p,v=.slice (some ⟨p,0,none⟩) 1 1/\w.heap[p]?=some (.cells #[.string s6] 9)
 |_=>True
theorem VA.zL {H:Nat}{x:Hx}{h:Value}{b c d e f g:ByteArray}(j:Nat)(v:Value)(w w':World)(a:VA H x h b c d e f g j v w)(l:aF w w'):VA H x h b c d e f g j v w':=by
 unfold VA at*;split at a
 all_goals first
  |exact a
  |(obtain⟨p,i,k⟩:=a;exact⟨p,i,bJ k l⟩)
theorem O4 {s:St}{a:List ByteArray}(h:¬a.length=0):tX s a=(s,cX):=by
 unfold tX;split;·simp at h
 ·rfl
theorem RX (F:Nat->Prop)(S:Nat)(w:World)(s:St)(b:Bk)(v:Value)(hS:kT F S w s b v)(kk:Nat)(yj:iP kk s)(a:List ByteArray)(ao:Option Addr)(T:Nat):
 aY 33 #[.pointer (some ⟨S,0,none⟩),.slice ao a.length T] w λe w'=>UW F S w s (tX s a) e w':=by
 obtain⟨yn,zh,yk,yl,ym⟩:=info_parts Tryz.infoStr
 by_cases hl:a.length=0
 ·have HR:Hid (tX s a=(s,qD s.b)):=by rw[List.eq_nil_of_length_eq_zero hl];rfl
  have yf:((a.length:Int)==0)=true:=by rw[beq_iff_eq];omega
  clear hl;have D:aN b=true:=hS.b.book.trans yj.b;have O:=uJ D;have h16:=lS D
  have zk:0<=b.now/\b.now<=10000:=by
   have:=(eN.1 D).1
   rwa[nT,dte]at this
  have Y:∀x∈b.hl,(iG x.tl).size<=6000005/\(iG x.nl).size<=6000005/\x.n.size<=8:=λx hx=>by
   obtain⟨_,h1,h2,h3,h4,h5⟩:=O x hx;exact⟨lN h1 (oD h4),lN h2 (oD h5),h3⟩
  have ya:=aG (zY hS.b.c);have zu:=aG (DP D);obtain⟨c0,c1,c2,c3⟩:=hS.c;clear D
  go_enter Tryz.func33,Tryz.ntmps33
  go_wp2_with (go_at_call 36;refine(gD _).mono ?_;rintro e w' ⟨⟨u,rfl⟩,zn⟩;rw[zn];clear zn)
  go_wp2_with fail
  refine(uS b.now w hS.e zk.1 (by omega)).mono ?_;rintro e w1 ⟨rfl,l⟩;have A:aF w (w1.alloc (.cells #[.string (dD b.now)] 9)):=aB l _;have zw:Hid ((w1.alloc (.cells #[.string (dD b.now)] 9)).ownsRow w.heap.size 9 1 (.slice (some ⟨w1.heap.size,0,none⟩) 1 1) (0+1) ((dD b.now::(b.hl.take 0).map kD).map Value.string)):=⟨rfl,.inr ⟨w1.heap.size,1,_,rfl,l.size,wnq w1 _,nlq _,by unfold maxLen;omega,rfl,rfl⟩⟩;obtain⟨y0,y1,y2,y3⟩:=(hS.zL A).c;clear l c0 c1 c2 c3;go_wp2
  clear y0 y1 y2 y3
  go_loopw [5,25] (λov iv wr=>∃k:Nat,k<=b.hl.length/\iv=.int .i64 k/\Hid (wr.ownsRow w.heap.size 9 1 ov (k+1) ((dD b.now::(b.hl.take k).map kD).map Value.string))/\aF w wr) (λ_ iv _=>b.hl.length-(intOf iv).toNat)
  case atStart=>exact⟨0,nz _,rfl,zw,A⟩
  case round=>
   obtain⟨k,hk,rfl,HO,hN⟩:=hrel;have z:=hS.zL hN
   by_cases f:k<b.hl.length
   ·have zj:(k:Int)<(b.hl.length:Int):=by omega
    have C:=z.b.inn
    rcases C.h with h|⟨g,off,V,zf⟩
    ·rw[h]at f;simp at f
    rw[V];obtain⟨q0,q1,q2⟩:=iI (zf k f);obtain⟨_,yg,yh,yi,l,A⟩:=O _ (lgm f);obtain⟨zl,zm,_⟩:=Y _ (lgm f);have m:=C.i _ (lgm f);have R:Hid ((dD b.now::(b.hl.take (k+1)).map kD)=(dD b.now::(b.hl.take k).map kD)++[kD b.hl[k]]):=by rw[Hid,List.take_succ_eq_append_getElem f,List.map_append];rfl
    obtain⟨x,hx⟩:=bP (b.hl[k]);rw[←hx]at q0 q1 q2 yg yh yi l A zl zm m R;have y:=z.e;have HAE:=aG V;clear hx zf C z V;obtain⟨s1,I⟩:∃s,s=x.n++(⟨#[58]⟩:ByteArray):=⟨_,rfl⟩;obtain⟨s2,J⟩:∃s,s=iG x.tl:=⟨_,rfl⟩;obtain⟨s3,K⟩:∃s,s=s1++s2:=⟨_,rfl⟩;obtain⟨s4,L⟩:∃s,s=s3++(⟨#[47]⟩:ByteArray):=⟨_,rfl⟩;obtain⟨s5,M⟩:∃s,s=iG x.nl:=⟨_,rfl⟩;obtain⟨s6,N⟩:∃s,s=s4++s5:=⟨_,rfl⟩;have yo:s1.size=x.n.size+1:=by rw[I,ByteArray.size_append];rfl
    have yp:s2.size<=6000005:=by rw[J];exact zl
    have yq:s3.size=s1.size+s2.size:=by rw[K,ByteArray.size_append]
    have yr:s4.size=s3.size+1:=by rw[L,ByteArray.size_append];rfl
    have ys:s5.size<=6000005:=by rw[M];exact zm
    have yt:s6.size=s4.size+s5.size:=by rw[N,ByteArray.size_append]
    have gs1:¬9223372036854775807<x.n.size+1:=by omega
    have gs3:¬9223372036854775807<s1.size+s2.size:=by omega
    have gs4:¬9223372036854775807<s3.size+1:=by omega
    have gs6:¬9223372036854775807<s4.size+s5.size:=by omega
    have HT:Hid ((dD b.now::(b.hl.take (k+1)).map kD)=(dD b.now::(b.hl.take k).map kD)++[s6]):=by rw[Hid,R.oQ,kD,←J,←M,←I,←K,←L,←N]
    have fs1:=I.symm;have zq:=aG J;have fs3:=K.symm;have fs4:=L.symm;have zr:=aG M;have fs6:=N.symm;clear R I yo J yp K yq L yr M ys N yt;have B:aF wr (wr.alloc (.cells #[.string x.n,.slice x.ta x.tl.length x.tc,.slice x.na x.nl.length x.nc] 90)):=aB (br _ _) _;have k0:(wr.alloc (.cells #[.string x.n,.slice x.ta x.tl.length x.tc,.slice x.na x.nl.length x.nc] 90)).cell? ⟨wr.heap.size,0,none⟩=some (.string x.n):=aJ (wnq wr _) rfl;have k1:(wr.alloc (.cells #[.string x.n,.slice x.ta x.tl.length x.tc,.slice x.na x.nl.length x.nc] 90)).cell? ⟨wr.heap.size,1,none⟩=some (.slice x.ta x.tl.length x.tc):=aJ (wnq wr _) rfl;have k2:(wr.alloc (.cells #[.string x.n,.slice x.ta x.tl.length x.tc,.slice x.na x.nl.length x.nc] 90)).cell? ⟨wr.heap.size,2,none⟩=some (.slice x.na x.nl.length x.nc):=aJ (wnq wr _) rfl;have za:=aG (aC hN B);have zb:=aG (eO HO.oQ B)
    replace m:=Hx.In.zL m B
    replace y:=y.zL B
    clear B HO
    go_upto_region 6 with fail
    obtain⟨W1,zd⟩:=cK (wr.alloc (.cells #[.string x.n,.slice x.ta x.tl.length x.tc,.slice x.na x.nl.length x.nc] 90));rw[zd]at k0 k1 k2 za m zb y ⊢;clear zd q0 q1 q2;refine pG 14 [some 29,some 30,some 31,some 32,some 33,some 34,some 35,some 36,some 37,some 38,some 39,some 40,some 41,some 42] (VA wr.heap.size x u5 s1 s2 s3 s4 s5 s6) VA.zL ?step ?fin
    case step=>
     intro ii o vs w' yc G t r;have z0z:=(t.cell (aA k0)).trans k0;have z1z:=(t.cell (aA k1)).trans k1;have z2z:=(t.cell (aA k2)).trans k2
     match ii,yc with
     |2,_|3,_|5,_|7,_|8,_|10,_|12,_=>
      simp at G;subst G
      simp[Region.binds,VA]at r
      simp only[aE,Act.put,r];gi_wp2;exact⟨_,by simp[aH,r],rfl,br _ _⟩
     |0,_|1,_|4,_|9,_=>
      simp at G;subst G;simp only[aE,Act.put];gi_wp2;exact⟨_,by simp[aH],rfl,br _ _⟩
     |6,_=>
      simp at G;subst G
      simp[Region.binds,VA]at r
      simp only[aE,Act.put,r];gi_wp2_with fail
      refine⟨trivial,rfl,?_⟩;refine(cw.2 (uD x.tl x.ta x.tc w' (y.zL t) (m.1.zL t) (by omega) (qW l))).mono ?_;rintro e w5 ⟨rfl,W⟩;rw[←zq.out];gi_wp2;exact⟨_,by simp[aH,r],rfl,W⟩
     |11,_=>
      simp at G;subst G
      simp[Region.binds,VA]at r
      simp only[aE,Act.put,r];gi_wp2_with fail
      refine⟨trivial,rfl,?_⟩;refine(cw.2 (uD x.nl x.na x.nc w' (y.zL t) (m.2.zL t) (by omega) (qW A))).mono ?_;rintro e w5 ⟨rfl,W⟩;rw[←zr.out];gi_wp2;exact⟨_,by simp[aH,r],rfl,W⟩
     |13,_=>
      simp at G;subst G
      simp[Region.binds,VA]at r
      simp only[aE,Act.put,r];gi_wp2;exact⟨_,by simp[aH,r],⟨_,rfl,wnq w' _⟩,aB (br _ _) _⟩
     |q+14,h=>exact absurd h (by omega)
    case fin=>
     intro vs w8 t hp;have e0:vs 0=u5:=hp 0 (by decide);obtain⟨p,zc,Q⟩:=hp 13 (by decide);have H:=aG (aC za.oQ t);have U:w8.ownsRow w.heap.size 9 1 u5 (k+1) ((dD b.now::(b.hl.take k).map kD).map Value.string):=eO zb.oQ t
     have E:∀j u,[Value.string s6][j]?=some u->w8.cell? ((⟨p,0,none⟩:Addr).add j)=some u:=λj u h=>by
      rw[Addr.add_lit,Nat.zero_add]
      match j,h with
      |0,h=>simp at h;subst h;exact aJ Q rfl
     clear hp t;simp only[lds,List.drop_zero,aE,Act.put,List.setIfInBounds_toArray,List.set_cons_succ,List.set_cons_zero];rw[e0,zc];refine wpListIn_append_own w8 rfl (.tmp 29) (.tmp 42) 24 rfl w.heap.size 9 yn _ 1 16 Tryz.underlying24 zh yk yl ym rfl (by decide) u5 (k+1) _ rfl U ⟨p,0,none⟩ 1 1 [.string s6] rfl rfl E (λu hu=>by simp at hu;subst hu;rfl) (by unfold maxLen;omega) (by omega) H.oQ.size (λv1 wn P zg _=>?_);have zt:Hid (aF w wn):=H.oQ.grown zg H.oQ.size (λq hq=>fB U hq)
     have zx:Hid (wn.ownsRow w.heap.size 9 1 v1 (k+1+1) ((dD b.now::(b.hl.take (k+1)).map kD).map Value.string)):=by
      rw[Hid,HT.oQ];have:=P
      simpa using this
     clear P zg E U H e0 zc Q;generalize vs=vs;gi_wp2_with fail
     go_wp2
     go_roundw
     case rel=>exact⟨k+1,by omega,by go_num,zx,zt.oQ⟩
     case measure=>simp[intOf];omega
   ·have zj:¬(k:Int)<(b.hl.length:Int):=by omega
    have zi:b.hl.take k=b.hl:=ltl (by omega);have ye:k=b.hl.length:=by omega
    have Z:=HO.oQ;rw[zi]at Z;have d:(dD b.now::b.hl.map kD).length=k+1:=by simp;omega
    rw[←d]at Z
    obtain⟨g,cp,rfl,ze⟩:∃g cp,u5=.slice (some ⟨g,0,none⟩) (dD b.now::b.hl.map kD).length cp/\(dD b.now::b.hl.map kD).length<=cp:=by
     obtain⟨_,⟨_,e⟩|⟨g,T,_,e,_,_,h,_⟩⟩:=Z
     ·simp at e
     ·exact⟨g,T,e,h⟩
    obtain⟨a5,c5,e5,zo⟩:=q9 Z;have yb:g<wr.heap.size:=(Z.lt g rfl).2;have HJ:=aG (RE b);have zz:=aG z
    have yd:(Lib.join ((dD b.now::b.hl.map kD).map (·.data.toList)) [32]).length<=2000000000:=by
     have:=zu.oQ;rw[←HJ.oQ]at this
     simpa only[ByteArray.size,lsz]using this
    obtain⟨xs,zp⟩:=bP (dD b.now::b.hl.map kD);rw[←zp]at zo ze d HJ yd e5 ⊢
    cases e5
    have hxl:xs.length<=17:=by omega
    clear Z HO zp zi ye z d;go_wp2_with fail
    refine(Tryz.strings_Join g 0 cp xs ⟨#[32]⟩ wr (λj x hj=>gO zo j x hj) yb (by omega) ze (by show(Lib.join (xs.map (·.data.toList)) [32]).length<=_;omega)).mono ?_;rintro e w9 ⟨rfl,X⟩;have zy:=aG (zz.oQ.zL X);have zs:=aG (aC hN X);have zv:=aG (HJ.oQ.trans ya.oQ);clear X;go_wp2
    go_ret;exact .inr ⟨⟨F,b,v,by rw[HR.oQ];exact zy.oQ,λk hk=>.inl hk⟩,by rw[HR.oQ,←zv.oQ];rfl,aT.below zs.oQ⟩
 ·have HR:Hid (tX s a=(s,cX)):=O4 hl
  have yf:((a.length:Int)==0)=false:=by rw[beq_eq_false_iff_ne];omega
  clear hl
  go_enter Tryz.func33,Tryz.ntmps33
  go_wp2_with (go_at_call 36;refine(jD _).mono ?_;rintro e w' ⟨rfl,rfl⟩)
  exact⟨rfl,.inl ⟨HR.oQ,rfl,br _ _⟩⟩
theorem dZ.mono2 {S S':Nat->Prop}{w:World}{s b:Bk}(h:dZ S w s b)(g:∀k,S' k->k<w.heap.size->S k):dZ S' w s b:=⟨h.c,λw' a=>h.i w' ⟨a.os,a.tape,a.output,a.size,λk d f=>a.block k d (λe=>f (g k e d))⟩,h.f1,h.f2⟩
def KS (S:Nat)(tv vn:Value)(g oo:Nat)(y:Bx)(j:Nat)(vs:Nat->Value)(w:World):Prop:=
 match j with
 |0=>vs 0=.pointer (some ⟨S,0,none⟩)
 |1=>vs 1=.pointer (some ⟨S,0,none⟩)
 |2=>vs 2=.pointer (some ⟨S,0,none⟩)
 |3=>vs 3=.pointer (some ⟨S,3,none⟩)
 |4=>vs 4=tv
 |5=>vs 5=vn
 |6=>vs 6=.pointer (some ⟨g,oo,none⟩)
 |7=>vs 7=.int .i64 y.x
 |8=>vs 8=vn
 |9=>vs 9=.pointer (some ⟨g,oo+1,none⟩)
 |10=>vs 10=.int .i64 y.y
 |11=>vs 11=vn
 |12=>vs 12=.pointer (some ⟨g,oo+2,none⟩)
 |13=>vs 13=.int .i64 y.lo
 |14=>vs 14=vn
 |15=>vs 15=.pointer (some ⟨g,oo+3,none⟩)
 |16=>vs 16=.int .i64 y.hi
 |17=>vs 17=vn
 |18=>vs 18=.pointer (some ⟨g,oo+4,none⟩)
 |19=>vs 19=.int .i64 y.i
 |20=>vs 20=vn
 |21=>vs 21=.pointer (some ⟨g,oo+5,none⟩)
 |22=>vs 22=.int .i64 y.o
 |23=>vs 23=.agg #[.int .i64 y.x,.int .i64 y.y,.int .i64 y.lo,.int .i64 y.hi,.int .i64 y.i,.int .i64 y.o]
 |24=>∃p,vs 24=.slice (some ⟨p,0,none⟩) 1 1/\w.heap[p]?=some (.cells #[.int .i64 y.x,.int .i64 y.y,.int .i64 y.lo,.int .i64 y.hi,.int .i64 y.i,.int .i64 y.o] 56)
 |_=>True
theorem KS.zL {S:Nat}{b c:Value}{g a:Nat}{y:Bx}(j:Nat)(d:Nat->Value)(w w':World)(h:KS S b c g a y j d w)(i:aF w w'):KS S b c g a y j d w':=by
 unfold KS at*;split at h
 all_goals first
  |exact h
  |(obtain⟨p,e,f⟩:=h;exact⟨p,e,bJ f i⟩)
def XL (j:Nat):List Nat:=[j]
def SV (j:Nat):Bool:=j==0
theorem KS.loc {S:Nat}{d f:Value}{g c:Nat}{y:Bx}(j:Nat)(b a:Nat->Value)(w:World)(i:∀q∈XL j,b q=a q)(h:KS S d f g c y j b w):KS S d f g c y j a w:=by
 have e:b j=a j:=i j (by simp[XL]);unfold KS at*;split at h
 all_goals first
  |(rw[←e];exact h)
  |trivial
def YW (S:Nat)(_:Nat)(v:Value):Prop:=v=.pointer (some ⟨S,0,none⟩)
theorem KS.free {S:Nat}{d e:Value}{g c:Nat}{y:Bx}(j:Nat)(b:Nat->Value)(w:World)(a:SV j=true)(h:KS S d e g c y j b w):YW S j (b j):=by
 simp[SV]at a;subst a;exact h
structure GIB (W:World)(S:Nat)(hv:Value)(y:Bx)(t:List Bx)(k:Nat)(vs:Nat->Value)(w':World):Prop where
 a:k=25->aF W w'/\vs 4=hv/\∃p,vs 24=.slice (some ⟨p,0,none⟩) 1 1/\w'.heap[p]?=some (.cells #[.int .i64 y.x,.int .i64 y.y,.int .i64 y.lo,.int .i64 y.hi,.int .i64 y.i,.int .i64 y.o] 56)
 b:26<=k->∃w0,aF W w0/\w0.grownBy w' hv.ownBlock/\w'.ownsRow 8 56 6 (vs 25) (t.length+1) (fA t++aR y)/\((vs 25).ownBlock=hv.ownBlock∨(vs 25).ownBlock=some w0.heap.size)
 c:27<=k->vs 26=.pointer (some ⟨S,0,none⟩)
 d:28<=k->vs 27=.pointer (some ⟨S,3,none⟩)
theorem kT.add {F:Nat->Prop} {S:Nat} {w w':World} {s:St} {b:Bk} {v:Value} (h:kT F S w s b v) (y:Bx) {ta:Option Addr} {c:Nat} (f:w.grownBy w' v.ownBlock) (r:w'.ownsRow 8 56 6 (.slice ta (s.t.length+1) c) (s.t.length+1) (fA s.t++aR y)) (ha:(Value.slice ta (s.t.length+1) c).ownBlock=v.ownBlock∨(Value.slice ta (s.t.length+1) c).ownBlock=some w.heap.size):
 kT (λk=>F k∨(w.heap.size<=k/\k<w'.heap.size)) S (w'.setCell ⟨S,3,none⟩ (.slice ta (s.t.length+1) c)) ⟨s.b,s.t++[y]⟩ b (.slice ta (s.t.length+1) c)/\aT F w (w'.setCell ⟨S,3,none⟩ (.slice ta (s.t.length+1) c)):=by
 have l:=(h.fl S h.fS).1;have i:aT (λk=>v.ownBlock=some k) w w':=⟨f.os,f.tape,f.output,f.size,λk a A=>f.block k a (λe=>A e.symm)⟩;have u:w'.heap[S]?=some (.cells #[.int .i64 b.now,.slice b.fa b.fl.length b.fc,.slice b.ha b.hl.length b.hc,v] 38):=bE h.o i h.ne;have j:aT (λk=>k=S) w' (w'.setCell ⟨S,3,none⟩ (.slice ta (s.t.length+1) c)):=(aT.refl (λk=>k=S) w').set (g:=S) rfl _ _;have d:aT (λk=>k=S∨v.ownBlock=some k) w (w'.setCell ⟨S,3,none⟩ (.slice ta (s.t.length+1) c)):=(i.wide (λ_ e=>.inr e)).trans (j.wide (λ_ e=>.inl e));have q:(w'.setCell ⟨S,3,none⟩ (.slice ta (s.t.length+1) c)).heap.size=w'.heap.size:=by simp[World.setCell]
 have p:=r.lt;refine⟨⟨aO u 3 _,?_,(h.b.but (d.wide (λk a=>a.elim .inl (λe=>.inr (.inl e))))).mono2 (λk a hw=>?_),.inl h.fS,λk a=>?_,λk a=>?_,(h.e.but d (λk e=>?_))⟩,d.wide (λk e=>e.elim (λe=>by rw[e];exact h.fS) (h.fh k))⟩
 ·have z:(s.t++[y]).length=s.t.length+1:=by simp
  show World.ownsRow _ 8 _ 6 _ (s.t++[y]).length (fA (s.t++[y]));rw[z,jE]
  exact i6 r (λk cs _ m=>j.block k (gT m) (λe=>by
   have x:k=S:=e;rw[x,u]at m;simp at m))
 ·rcases a with a|a|a;·exact .inl a
  ·rcases ha with ha|ha;·exact .inr (.inl (ha▸a))
   ·rw[ha]at a;have:w.heap.size=k:=by simpa using a
    exact .inr (.inr (λn=>by have:=(h.fl k n).2;omega))
  ·exact .inr (.inr (λn=>a (.inl n)))
 ·rcases ha with ha|ha;·exact .inl (h.fh k (ha▸a))
  ·have:=(p k a).2;rw[ha]at a;have:w.heap.size=k:=by simpa using a
   exact .inr ⟨by omega,by omega⟩
 ·rw[q];rcases a with a|a;·exact⟨(h.fl k a).1,Nat.lt_of_lt_of_le (h.fl k a).2 f.size⟩
  ·exact⟨by have:=(h.fl S h.fS).2;omega,a.2⟩
 ·rcases e with e|e;·rw[e];exact l
  ·exact(h.fl k (h.fh k e)).1
theorem TQ (F:Nat->Prop)(S:Nat)(w:World)(s:St)(b:Bk)(v:Value)(X:kT F S w s b v)(kk:Nat)(zt:iP kk s)(hkk:kk<=1000)(a:List ByteArray)(ao:Option Addr)(O:Nat)(hX:Xs 1 dS w ao a):
 aY 27 #[.pointer (some ⟨S,0,none⟩),.slice ao a.length O] w λe w'=>UW F S w s (uE s a) e w':=by
 obtain⟨ib,zs,zp,zq,zr⟩:=info_parts Tryz.info56;have ht1:s.t.length<=1000:=by have:=zt.t;omega
 by_cases hl:a.length=6
 ·have HL:=aG hl;have zg:((a.length:Int)==6)=true:=by rw[beq_iff_eq];omega
  clear hl;go_enter Tryz.func27,Tryz.ntmps27;go_wp2_with (go_at_call 36;refine(gD _).mono ?_;rintro e w' ⟨⟨u,rfl⟩,zi⟩;rw[zi];clear zi);go_wp2_with fail;refine(jM a ao O w hX (by have:=HL.oQ;omega)).mono ?_;rintro e B ⟨⟨K,v2,rfl,zh⟩|⟨J,rfl⟩,n⟩
  ·obtain⟨Y,Z,x2,x3,x4,x5,rfl⟩:=ZW HL.oQ;obtain⟨a6,c6,rfl,zv⟩:=pC (eC _).symm zh;rcases zv with h|⟨g,C,rfl,z⟩;·simp[aS]at h
   have za:Hid (uE s [Y,Z,x2,x3,x4,x5]=(⟨s.b,s.t++[⟨aV Y,aV Z,aV x2,aV x3,aV x4,aV x5⟩]⟩,SE)):=by
    rw[Hid,uE,if_pos (o9 K)]
   have j0:B.cell? ⟨g,C,none⟩=some (.int .i64 (aV Y)):=by have:=z 0 (by simp[aS]) 0 _ rfl;simpa[aS]using this
   have j1:B.cell? ⟨g,C+1,none⟩=some (.int .i64 (aV Z)):=by have:=z 1 (by simp[aS]) 0 _ rfl;simpa[aS]using this
   have j2:B.cell? ⟨g,C+2,none⟩=some (.int .i64 (aV x2)):=by have:=z 2 (by simp[aS]) 0 _ rfl;simpa[aS]using this
   have j3:B.cell? ⟨g,C+3,none⟩=some (.int .i64 (aV x3)):=by have:=z 3 (by simp[aS]) 0 _ rfl;simpa[aS]using this
   have j4:B.cell? ⟨g,C+4,none⟩=some (.int .i64 (aV x4)):=by have:=z 4 (by simp[aS]) 0 _ rfl;simpa[aS]using this
   have j5:B.cell? ⟨g,C+5,none⟩=some (.int .i64 (aV x5)):=by have:=z 5 (by simp[aS]) 0 _ rfl;simpa[aS]using this
   have e5:(aS [Y,Z,x2,x3,x4,x5]).length=6:=rfl;rw[e5];obtain⟨y,M⟩:=bP (⟨aV Y,aV Z,aV x2,aV x3,aV x4,aV x5⟩:Bx);have W:Hid (uE s [Y,Z,x2,x3,x4,x5]=(⟨s.b,s.t++[y]⟩,SE)):=by rw[M];exact za.oQ
   replace j0:B.cell? ⟨g,C,none⟩=some (.int .i64 y.x):=by rw[M];exact j0
   replace j1:B.cell? ⟨g,C+1,none⟩=some (.int .i64 y.y):=by rw[M];exact j1
   replace j2:B.cell? ⟨g,C+2,none⟩=some (.int .i64 y.lo):=by rw[M];exact j2
   replace j3:B.cell? ⟨g,C+3,none⟩=some (.int .i64 y.hi):=by rw[M];exact j3
   replace j4:B.cell? ⟨g,C+4,none⟩=some (.int .i64 y.i):=by rw[M];exact j4
   replace j5:B.cell? ⟨g,C+5,none⟩=some (.int .i64 y.o):=by rw[M];exact j5
   have H:=aG (n);replace X:=X.zL n;clear M za e5 z K HL hX zh n zg;go_upto_region 3 with fail;refine SZ 6 25 28 [some 12,some 13,some 14,some 15,some 16,some 17,some 18,some 19,some 20,some 21,some 22,some 23,some 24,some 25,some 26,some 27,some 28,some 29,some 30,some 31,some 32,some 33,some 34,some 35,some 36,some 37,some 38,some 39] SV XL (KS S v (.slice (some ⟨g,C,none⟩) 6 c6) g C y) (YW S) (GIB B S v y s.t) KS.zL KS.loc KS.free ?step ?free ?g0 ?gf ?store ?fin
   case step=>
    intro ii o A w' zf r l E;obtain⟨z0z,z1z,z2z,z3z⟩:=(X.zL l).c;have y0y:=(l.cell (aA j0)).trans j0;have y1y:=(l.cell (aA j1)).trans j1;have y2y:=(l.cell (aA j2)).trans j2;have y3y:=(l.cell (aA j3)).trans j3;have y4y:=(l.cell (aA j4)).trans j4;have y5y:=(l.cell (aA j5)).trans j5;match ii,zf with
    |2,_|3,_|4,_|6,_|7,_|9,_|10,_|12,_|13,_|15,_|16,_|18,_|19,_|21,_|22,_|23,_=>
     simp at r;subst r;simp[Region.binds,KS]at E;simp only[aE,Act.put,E];gi_wp2;exact⟨_,by simp[aH,E],rfl,br _ _⟩
    |0,_|1,_|5,_|8,_|11,_|14,_|17,_|20,_=>
     simp at r;subst r;simp only[aE,Act.put];gi_wp2;exact⟨_,by simp[aH],rfl,br _ _⟩
    |24,_=>
     simp at r;subst r;simp[Region.binds,KS]at E;simp only[aE,Act.put,E];gi_wp2;exact⟨_,by simp[aH,E],⟨_,rfl,wnq w' _⟩,aB (br _ _) _⟩
    |q+25,h=>exact absurd h (by omega)
   case free=>
    intro i o A w' t zf T r ht htM m E;have U:i=0:=by simpa[SV]using T
    subst U;clear m E;simp at r;subst r;simp only[aE,Act.put];gi_wp2;exact⟨.pointer (some ⟨S,0,none⟩),by simp[aH],rfl,trivial⟩
   case g0=>
    intro A w' l V;exact⟨λ_=>⟨l,V 4 (by decide) rfl,V 24 (by decide) rfl⟩,λh=>absurd h (by decide),λh=>absurd h (by decide),λh=>absurd h (by decide)⟩
   case gf=>
    intro t A w' i v T m;have U:i=0:=by simpa[SV]using T
    subst U;exact⟨m.a,m.b,m.c,m.d⟩
   case store=>
    intro t o A w' h12 h15 r m E;have ht:t=25∨t=26∨t=27:=by omega
    rcases ht with rfl|rfl|rfl
    ·simp at r;subst r;obtain⟨l,d4,p,zb,V⟩:=m.a rfl;have R:=(X.zL l).h;have h8:8<=w'.heap.size:=(X.zL l).e.s;have zj:=aG l
     have G:∀j u,(aR y)[j]?=some u->w'.cell? ((⟨p,0,none⟩:Addr).add j)=some u:=λj u h=>by
      rw[Addr.add_lit,Nat.zero_add];match j,h with
      |0,h|1,h|2,h|3,h|4,h|5,h=>simp[aR]at h;subst h;exact aJ V rfl
     clear m E;simp only[aE,Act.put,List.setIfInBounds_toArray,List.set_cons_succ,List.set_cons_zero];rw[d4,zb];refine wpListIn_append_own_at w' rfl (.tmp 16) (.tmp 36) 31 rfl 8 56 ib _ 6 48 Tryz.underlying31 zs zp zq zr rfl (by decide) v s.t.length (fA s.t) rfl R ⟨p,0,none⟩ 1 1 (aR y) rfl rfl G (mL y) (by unfold maxLen;omega) (by omega) h8 (λv1 w1 L f _ D=>?_);have zl:=aG f;have zm:=aG L;have zn:=aG D;clear L f G R V l D;gi_wp2;exact⟨v1,by simp[aH,d4,zb,Act.put],λh=>absurd h (by decide),λ_=>⟨w',zj.oQ,zl.oQ,zm.oQ,zn.oQ⟩,λh=>absurd h (by decide),λh=>absurd h (by decide)⟩
    ·simp at r;subst r;have d0:A 0=.pointer (some ⟨S,0,none⟩):=E (eD 0) (by simp) rfl (by decide) rfl;have N:Hid (∃w0,aF B w0/\w0.grownBy w' v.ownBlock/\w'.ownsRow 8 56 6 (A 25) (s.t.length+1) (fA s.t++aR y)/\((A 25).ownBlock=v.ownBlock∨(A 25).ownBlock=some w0.heap.size)):=m.b (by decide);clear m E;simp only[aE,Act.put,d0];gi_wp2;exact⟨_,by simp[aH,d0],λh=>absurd h (by decide),λ_=>N.oQ,λ_=>rfl,λh=>absurd h (by decide)⟩
    ·simp at r;subst r;have P:=m.c (by decide);have N:Hid (∃w0,aF B w0/\w0.grownBy w' v.ownBlock/\w'.ownsRow 8 56 6 (A 25) (s.t.length+1) (fA s.t++aR y)/\((A 25).ownBlock=v.ownBlock∨(A 25).ownBlock=some w0.heap.size)):=m.b (by decide);clear m E;simp only[aE,Act.put,P];gi_wp2;exact⟨_,by simp[aH,P],λh=>absurd h (by decide),λ_=>N.oQ,λ_=>P,λ_=>rfl⟩
   case fin=>
    intro A w' m V;have zc:=m.d (by decide);obtain⟨w0,l,f,R,D⟩:=m.b (by decide)
    obtain⟨ta',tc',Q⟩:∃a c,A 25=.slice a (s.t.length+1) c:=by
     obtain⟨_,⟨_,e⟩|⟨g,O,_,e,_⟩⟩:=R;·omega
     ·exact⟨_,_,e⟩
    rw[Q]at R D;have I:=X.zL l;obtain⟨ze,zd⟩:=I.add y f R D;have zo:=aG ze;have zk:=aG ((aT.below (aC H.oQ l)).trans zd);have zu:w.heap.size<=w0.heap.size:=Nat.le_trans H.oQ.size l.size;have o1:w'.heap[S]?=some (.cells #[.int .i64 b.now,.slice b.fa b.fl.length b.fc,.slice b.ha b.hl.length b.hc,v] 38):=bE I.o (S:=λk=>v.ownBlock=some k) ⟨f.os,f.tape,f.output,f.size,λk hk hn=>f.block k hk (λe=>hn e.symm)⟩ I.ne;have y3:w'.cell? ⟨S,3,none⟩=some v:=aJ o1 rfl;have yf:=iQ o1;clear V m l R I f D o1 ze zd;simp only[lds,List.drop_zero,aE,Act.put];rw[zc,Q];clear zc Q;generalize A=A;gi_wp2_with fail;go_wp2;go_ret;exact .inr ⟨⟨λk=>F k∨(w0.heap.size<=k/\k<w'.heap.size),b,_,by rw[W.oQ];exact zo.oQ,λk hk=>hk.elim .inl (λh=>.inr (Nat.le_trans zu h.1))⟩,by rw[W.oQ];rfl,zk.oQ⟩
  ·have W:Hid (uE s a=(s,cX)):=AJ (λh=>by rw[qO J]at h;exact absurd h.2 (by decide));have H:=aG (n);clear J n;go_wp2;exact⟨rfl,.inl ⟨W.oQ,rfl,H.oQ⟩⟩
 ·have W:Hid (uE s a=(s,cX)):=AJ (λh=>hl h.1);have zg:((a.length:Int)==6)=false:=by rw[beq_eq_false_iff_ne];omega
  clear hl;go_enter Tryz.func27,Tryz.ntmps27;go_wp2_with (go_at_call 36;refine(jD _).mono ?_;rintro e w' ⟨rfl,rfl⟩);exact⟨rfl,.inl ⟨W.oQ,rfl,br _ _⟩⟩
end Go.Proofs.YtcdbcliaepcpfaaGreatDoor
