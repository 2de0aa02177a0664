import Derived.Test.YtoolgmmljacfmaaGreatDoorYk2
import Derived.Test.YtoolgmmljacfmaaGreatDoorZh
import Derived.Test.YtoolgmmljacfmaaGreatDoorUe0
set_option maxRecDepth 100000
set_option maxHeartbeats 8000000
open List renaming length → ln
open Go.Proofs.Tryz Go.RowKit
namespace Go.Proofs.YtoolgmmljacfmaaGreatDoor
open Go.BigFrame
theorem KN (a:Ba)(w:Wd)(F:zP w):
 aW 17 #[.string a] w λe w'=>((20000<a.size/\e=rt (.tuple #[ms,.bool false]))∨(¬20000<a.size/\∃s,e=rt (.tuple #[.slice (some (Y w.heap.size 0)) (ln (fP a)) s,.bool (decide (ln (fP a)<=300))])/\Xs 1 eE w' (some (Y w.heap.size 0)) (fP a)))/\aG w w':=by
 by_cases t:20000<a.size
 ·have u:decide ((20000:Int)<(a.size:Int))=true:=by rw[dte];omega
  go_enter func17,ntmps17;go_wp2;exact bpr (v:=.tuple #[ms,.bool false]) (by simp[results,results17,go_sem]) rfl ⟨.inl ⟨t,rfl⟩,br _ _⟩
 have u:decide ((20000:Int)<(a.size:Int))=false:=by rw[dfi];omega
 go_enter func17,ntmps17;go_wp2_with fail;refine(IL a 10 w F om).mono ?_;rintro e w1 ⟨⟨rfl,d⟩,p⟩;rw[show(((10:UInt8).toNat:Nat):Int)=10 from rfl]at d ⊢;have g:=zX 10 a;have f:=kU 10 a;have b:Hid (fP a=if((bG 10 a).getLastD ⟨#[]⟩).toList=[]then(bG 10 a).dropLast else bG 10 a):=rfl;obtain⟨L,A⟩:=bQ (bG 10 a);rw[←A]at d g f b ⊢;clear A;obtain⟨m,q⟩:∃m,ln L=m+1:=⟨ln L-1,by have:=lpi.2 g;omega⟩;rw[RE m q]at b;rw[q]
 have D:w1.cell? (ya w m)=some (.string (L[m]'om)):=by
  have:=iC d m (L[m]'om) (by rw[lge]);simpa using this
 have hmm:m<=1000000000:=om;have o:=aI p;obtain⟨z,C⟩:=bQ (L[m]'om);rw[←C]at D b;have n:=aI q;clear p C q;by_cases i:z.toList=[]
 ·have c:Hid (fP a=L.take m):=by
   rw[Hid,b.oQ,if_pos i,List.dropLast_eq_take];congr 1;have:=n.oQ;omega
  have j:Hid (ln (fP a)=m):=by rw[Hid,c.oQ,llt];have:=n.oQ;omega
  have k:Hid (Xs 1 eE w1 (some (ya w 0)) (fP a)):=by rw[Hid,c.oQ];exact d.take m
  have y:(z.toList==[])=true:=by rw[i];rfl
  clear g f b d n c;obtain⟨B,l⟩:=bQ (decide (m<=300));have x:decide ((m:Int)<=300)=B:=by rw[l];congr 1;exact propext ⟨λh=>by omega,λh=>by omega⟩
  have r:=aI l;clear l;go_wp2;exact bpr (v:=.tuple #[sl w.heap.size 0 m (m+1),.bool B]) (by simp[results,results17,go_sem]) rfl ⟨.inr ⟨t,m+1,by rw[j.oQ,r.oQ],k.oQ⟩,o.oQ⟩
 ·have c:Hid (fP a=L):=by rw[Hid,b.oQ,if_neg i]
  have j:Hid (ln (fP a)=m+1):=by rw[Hid,c.oQ];exact n.oQ
  have k:Hid (Xs 1 eE w1 (some (ya w 0)) (fP a)):=by rw[Hid,c.oQ];exact d
  have y:(z.toList==[])=false:=by rw[bfn];exact i
  clear g f b d n c;obtain⟨B,l⟩:=bQ (decide (m+1<=300));have x:decide ((m:Int)+1<=300)=B:=by rw[l];congr 1;exact propext ⟨λh=>by omega,λh=>by omega⟩
  have r:=aI l;clear l;go_wp2;exact bpr (v:=.tuple #[sl w.heap.size 0 (m+1) (m+1),.bool B]) (by simp[results,results17,go_sem]) rfl ⟨.inr ⟨t,m+1,by rw[j.oQ,r.oQ],k.oQ⟩,o.oQ⟩
variable {S F m:Nat → Prop}{w w' wr w1 M B:Wd}{c a T W k:Nat}{l L:List Ba}{v R u V j:Va}{o P:Ba}{b b':Bk}{Q:St}
theorem Xs.butS (h:Xs 1 eE w (some (Y c a)) l)(d:aU S w w')(m:¬S c):Xs 1 eE w' (some (Y c a)) l:=by
 rcases h with h|⟨b,o,e,f⟩;·exact .inl h
 ·cases e;exact .inr ⟨c,a,rfl,λk i j u g=>d.cell m (f k i j u g)⟩
theorem LO.but (h:LO T v o w)(a:aU S w w')(d:¬S T)(g:∀q,v.ownBlock=some q->¬S q):LO T v o w':=by
 obtain⟨p,f,e⟩:=h.c;refine⟨⟨p,f,bF e a d⟩,xZ h.r (λk b=>a.block k (h.r.lt k b).2 (g k b)),h.n⟩
structure RZ (W0:World)(S T k:Nat)(L:List ByteArray)(wr:World)(F:Nat->Prop)(b:Bk)(v bv:Value):Prop where
 i:lH F S wr (oR (L.take k)).1 b v
 f:∀q,F q->q=S∨W0.heap.size<=q
 d:LO T bv (oR (L.take k)).2 wr
 b:∀q,bv.ownBlock=some q->W0.heap.size<=q/\¬F q
 w:aU (λq=>q=S∨q=T) W0 wr
theorem RZ.step (J:W≠T)(hT:T<w'.heap.size)(N:8<=T)(h:RZ w' W T k L wr F b v u)
 (C:lH m W w1 Q b' R)(hF:∀q,m q->F q∨wr.heap.size<=q)(y:aU F wr w1)
 (t:∀q,V.ownBlock=some q->u.ownBlock=some q∨w1.heap.size<=q)(l:aU (λq=>q=T∨u.ownBlock=some q) w1 M)
 (G:LO T j P B)(A:∀q,j.ownBlock=some q->V.ownBlock=some q∨M.heap.size<=q)(p:aU (λq=>q=T∨V.ownBlock=some q) M B)
 (O:oR (L.take (k+1))=(Q,P)):RZ w' W T (k+1) L B m b' R j:=by
 have K:¬F T:=λg=>(h.f T g).elim (λe=>J e.symm) (λe=>by omega);have hw:=h.w.size;have n:¬m T:=λg=>(hF T g).elim K (λe=>by omega);have o:∀q,u.ownBlock=some q->¬m q:=λq a g=>(hF q g).elim (h.b q a).2 (λe=>by have:=(h.d.r.lt q a).2;omega);have hs1:=y.size;have hs2:=l.size;have i:∀q,V.ownBlock=some q->¬m q:=λq a g=>(t q a).elim (λe=>o q e g) (λe=>by have:=(C.fl q g).2;omega);have s:∀q,j.ownBlock=some q->¬m q:=λq a g=>(A q a).elim (λe=>i q e g) (λe=>by have:=(C.fl q g).2;omega);have D:aU (λq=>¬m q) w1 B:=(l.wide (λq e=>e.elim (λe=>by rw[e];exact n) (o q))).trans (p.wide (λq e=>e.elim (λe=>by rw[e];exact n) (i q)));have z:∀q,u.ownBlock=some q->8<=q:=λq a=>by have:=(h.b q a).1;omega
 have H:zP B:=by
  have U:=C.e.but l (λq e=>e.elim (λe=>by rw[e];exact N) (z q));exact U.but p (λq e=>e.elim (λe=>by rw[e];exact N) (λe=>(t q e).elim (z q) (λg=>by omega)))
 have x:∀q,V.ownBlock=some q->w'.heap.size<=q:=λq a=>(t q a).elim (λe=>(h.b q e).1) (λe=>by omega);refine⟨by rw[O];exact C.out D H,λq g=>(hF q g).elim (h.f q) (λe=>.inr om),by rw[O];exact G,λq a=>⟨(A q a).elim (x q) (λe=>by omega),s q a⟩,?_⟩;exact((h.w.past y (λq g=>(h.f q g).elim (λe=>.inl (.inl e)) .inr)).past l (λq e=>e.elim (λe=>.inl (.inr e)) (λe=>.inr (h.b q e).1))).past p (λq e=>e.elim (λe=>.inl (.inr e)) (λe=>.inr (x q e)))
theorem WR (h:P∈fP o):P.size<=o.size:=by
 unfold fP at h;split at h;·exact pA (List.dropLast_sublist _ |>.subset h)
 ·exact pA h
theorem qQ (a:Ba)(w:Wd)(hE:zP w):
 aW 5 #[.string a] w λe w'=>e=rt (.string (BX a))/\aG w w':=by
 have m:Hid (BX a=if 20000<a.size then FS else if 300<ln (fP a)then FS else(oR (fP a)).2):=rfl
 go_enter Tryz.func5,Tryz.ntmps5
 go_wp2_with fail
 refine(KN a w hE).mono ?_
 rintro e w1 ⟨⟨h1,rfl⟩|⟨h1,cap,rfl,hX⟩,j⟩
 ·go_wp2
  go_ret;exact⟨by rw[m.oQ,if_pos h1];rfl,j⟩
 by_cases h3:ln (fP a)<=300
 ·have ze:∀x∈fP a,x.size<=1048000:=λx hx=>by have:=WR hx;omega
  have HR:Hid (BX a=(oR (fP a)).2):=by rw[Hid,m.oQ,if_neg h1,if_neg om]
  have t:decide (ln (fP a)<=300)=true:=det h3;rw[t];obtain⟨L,hL⟩:=bQ (fP a);rw[←hL]at hX h3 ze HR ⊢;clear hL t m h1;have M:=hE.zL j;have hA:=wnq w1 (.cells #[I 0,ms,ms,ms] 55);have p:aG w1 (w1.alloc (.cells #[I 0,ms,ms,ms] 55)):=aC (br _ _) _;have zz:(w1.alloc (.cells #[I 0,ms,ms,ms] 55)).heap.size=w1.heap.size+1:=by simp
  obtain⟨C,zg⟩:=cI (w1.alloc (.cells #[I 0,ms,ms,ms] 55));obtain⟨S,hS⟩:=cI w1.heap.size;rw[zg]at hA p zz;go_wp2_with fail
  refine(ID S C).mono ?_;rintro e w2 ⟨rfl,rfl⟩;have hB:=wnq C (.map (EP S) 9);have l:aG C (C.alloc (.map (EP S) 9)):=aC (br _ _) _;have yb:(C.alloc (.map (EP S) 9)).heap.size=C.heap.size+1:=by simp
  obtain⟨K,zh⟩:=cI (C.alloc (.map (EP S) 9));obtain⟨r,hr⟩:=cI C.heap.size;rw[zh]at hB l yb ⊢;rw[hr]at hB ⊢;have hC:=wnq K (.cells #[.pointer none,ms] 60);have c:aG K (K.alloc (.cells #[.pointer none,ms] 60)):=aC (br _ _) _;have yc:(K.alloc (.cells #[.pointer none,ms] 60)).heap.size=K.heap.size+1:=by simp
  obtain⟨U,zi⟩:=cI (K.alloc (.cells #[.pointer none,ms] 60));obtain⟨T,hT⟩:=cI K.heap.size;rw[zi]at hC c yc;rw[hT]at hC
  have zn:w.heap.size<w1.heap.size∨L=[]:=by
   rcases hX with h|⟨bl,off,e,hc⟩
   ·exact .inr h
   ·cases e
    by_cases h0:0<ln L
    ·exact .inl (aA (hc 0 h0 0 _ rfl))
    ·exact .inr (enl om)
  have yt:=M.s
  have H:Hid (w.heap.size<=w1.heap.size/\w1.heap.size=S/\r=S+1/\T=S+2/\U.heap.size=S+3/\8<=S/\(w.heap.size<S∨L=[])):=by
   have:=j.size;refine⟨this,hS,om,om,om,om,?_⟩;rw[←hS];exact zn
  have zb:=aI (aE (aE (aE j p) l) c);have yp:=aI (((hX.zL p).zL l).zL c);have yk:=aI (bJ hB c)
  have yl:Hid (RZ U S T 0 L U (λq=>q=S) ⟨0,none,[],0,none,[],0⟩ (ms) (ms)):=by
   obtain⟨V,W,X,Z,f5,f6,D⟩:=H.oQ;have yu:U.heap[S]?=some (.cells #[I 0,ms,ms,ms] 55):=by rw[←hS];exact bJ (bJ hA l) c
   refine⟨⟨yu,⟨rfl,.inl ⟨rfl,rfl⟩⟩,⟨⟨rfl,rfl,aT.refl _⟩,λw' _=>⟨.inl rfl,.inl rfl,λx hx=>by cases hx⟩,nlq _,by show 0<=_;omega⟩,rfl,λq y=>by simp[Value.ownBlock]at y,λq y=>?_,((M.zL p).zL l).zL c⟩,λq y=>.inl y,⟨⟨none,.inl rfl,hC⟩,⟨rfl,.inl ⟨rfl,rfl⟩⟩,by simp[Value.ownBlock]⟩,λq y=>by simp[Value.ownBlock]at y,aU.refl _ _⟩;have e:q=S:=y;rw[e];omega
  clear hA p zz hB l yb hC c yc zn hX M yt j zg zh hE;go_wp2
  clear zi hT hr hS
  go_loopw [20] (λiv wr=>∃k:Nat,k<=ln L/\iv=I k/\∃(F:Nat->Prop) (b:Bk) (v bv:Va),Hid (RZ U S T k L wr F b v bv)) (λiv _=>ln L-(intOf iv).toNat)
  case atStart=>exact⟨0,nz _,rfl,_,_,_,_,yl⟩
  case round=>
   obtain⟨k,hk,rfl,F,b,v,bv,z⟩:=hrel
   by_cases u:k<ln L
   ·have zu:(k:Int)<(ln L:Int):=om
    have zj:Xs 1 eE wr (some (ya w 0)) L:=yp.oQ.butS z.oQ.w (λe=>by
     obtain⟨V,W,X,Z,f5,f6,D|D⟩:=H.oQ
     ·rcases e with e|e<;>omega
     ·rw[D]at u;simp at u)
    have c0:=iC zj k L[k] (lge u);rw[nza]at c0;have zv:=bF yk.oQ z.oQ.w (λe=>by obtain⟨V,W,X,Z,f5,f6,D⟩:=H.oQ;rcases e with e|e<;>omega);obtain⟨B,yw⟩:=IW L k hk;have J:Hid _:=xC L k u;have zt:=ze _ (lgm u);obtain⟨x,hx⟩:=bQ (L[k]);rw[←hx]at c0 J zt;obtain⟨st,R⟩:=bQ ((oR (L.take k)).1);obtain⟨o,yv⟩:=bQ ((oR (L.take k)).2);have Q:=z.oQ.i;have P:=z.oQ.d;have G:=yB B (bG 32 x);rw[←R]at Q B G;rw[←yv]at P yw;have n:Hid (oR (L.take (k+1))=((aX st (bG 32 x)).1,o++(aX st (bG 32 x)).2++sLf)):=by rw[Hid,J.oQ,IR,←R,←yv]
    clear hx R yv zj J;go_wp2_with fail
    refine(PI F S wr st b v Q k B om x zt r 9 zv).mono ?_;rintro e w4 ⟨⟨F',b',v',A,zd⟩,rfl,N⟩;obtain⟨an,zk⟩:=bQ ((aX st (bG 32 x)).2);obtain⟨s4,zw⟩:=bQ ((aX st (bG 32 x)).1);rw[←zk]at G n ⊢;rw[←zw]at A n
    have zf:¬F T:=λg=>by
     obtain⟨V,W,X,Z,f5,f6,D⟩:=H.oQ
     rcases z.oQ.f T g with e|e<;>omega
    have zp:LO T bv o w4:=P.but N zf (λq y=>(z.oQ.b q y).2);have yi:=aI A;have yh:=aI zd;have ye:=aI N;have za:=aI A.e.s;clear zk zw A zd N zf P Q zv c0 B;go_wp2_with fail
    refine(xU T bv o an w4 zp om za.oQ).mono ?_;rintro e w5 ⟨⟨yr,rfl,zq,zx⟩,O⟩;have yd:=aI (nlt za.oQ O.size);have yn:=aI zx;have yf:=aI O
    have yq:Hid ((o++an).size+sLf.size<=140737488355328):=by
     have e:sLf.size=1:=rfl;rw[Hid,bsz,e];omega
    clear zx O zp;go_wp2_with fail
    refine(xU T yr (o++an) sLf w5 zq yq.oQ yd.oQ).mono ?_;rintro e w6 ⟨⟨ys,rfl,zr,zy⟩,zl⟩
    have yj:Hid (RZ U S T (k+1) L w6 F' b' v' ys):=by
     obtain⟨V,W,X,Z,f5,f6,D⟩:=H.oQ;exact z.oQ.step om om om yi.oQ yh.oQ ye.oQ yn.oQ yf.oQ zr zy zl n.oQ
    clear zq zr zy zl;go_wp2
    go_roundw
    case rel=>exact⟨k+1,om,gn,_,_,_,_,yj⟩
    case measure=>simp[intOf];omega
   ·have zu:¬(k:Int)<(ln L:Int):=om
    have zs:L.take k=L:=ltl om;have hd:=z.oQ.d;rw[zs]at hd;have zc:Hid (aG w wr):=z.oQ.w.under zb.oQ (nlq _) (λq e=>by obtain⟨V,W,X,Z,f5,f6,D⟩:=H.oQ;rcases e with e|e<;>omega);have ym:Hid (w.heap.size<=T):=by obtain⟨V,W,X,Z,f5,f6,D⟩:=H.oQ;rw[Hid];omega
    have yo:Hid (∀q,bv.ownBlock=some q->w.heap.size<=q):=λq y=>by have:=(z.oQ.b q y).1;have:=zb.oQ.size;omega
    clear zs;go_wp2_with fail
    refine(DK hd w.heap.size ym.oQ yo.oQ zc.oQ.size).mono ?_;rintro e w7 ⟨rfl,zm⟩;have yg:=aI (zc.oQ.trans zm);clear zm hd;go_wp2
    go_ret;exact⟨by rw[HR.oQ];rfl,yg.oQ⟩
 ·have t:decide (ln (fP a)<=300)=false:=def0 h3
  have HR:Hid (BX a=FS):=by rw[Hid,m.oQ,if_neg h1,if_pos om]
  rw[t];clear t m h1 h3;go_wp2
  go_ret;exact⟨by rw[HR.oQ];rfl,j⟩
theorem GU (n a:Nat)(z:Oa)(w:Wd)(M:zP w)(h:wQ w z n)(g:n<=a)(x:a<=9223372036854775807):
 aW 3 #[.slice z n a] w λe w'=>e=rt (.bool true)/\aG w w':=by
 by_cases h1:1048576<n
 ·have C:decide ((1048576:Int)<(n:Int))=true:=by rw[dte];omega
  go_enter Tryz.func3,Tryz.ntmps3
  go_wp2
  go_ret;exact⟨rfl,br _ _⟩
 have C:decide ((1048576:Int)<(n:Int))=false:=by rw[dfi];omega
 go_enter Tryz.func3,Tryz.ntmps3
 go_wp2_with fail
 refine(MM n a z w h om g x).mono ?_;rintro e w1 ⟨⟨s,rfl,N⟩,d⟩;have c:=aI (M.zL d);have j:=aI d;clear h g x d M
 go_upto_block 0 with fail
 go_cut [5] (λJ wc=>∃t:Ba,J=.string t/\t.size<=1000000000/\wc=w1)
 case first=>
  go_wp2_with fail
  go_loopw [4,5,6] (λR J K wr=>∃(k:Int) (i:Nat),R=I k/\J=.string s/\0<=k/\k<=100/\K=I (i:Int)/\i<=s.size/\wr=w1) (λ_ _ K _=>s.size-(intOf K).toNat)
  case atStart=>exact⟨3+(n:Int)%20,0,rfl,rfl,om,om,rfl,nz _,rfl⟩
  case round=>
   obtain⟨k,i,rfl,rfl,P,Q,rfl,hi,rfl⟩:=hrel
   by_cases hlt:i<s.size
   ·have y:(i:Int)<(s.size:Int):=om
    by_cases g:(s[i].toNat:Int)=10
    ·have G:((s[i].toNat:Int)==10)=true:=by simp[g]
     clear g
     by_cases hk:k=0
     ·have H:decide (k-1<0)=true:=by rw[dte];omega
      go_wp2
      go_meet
      exact⟨s.extract 0 (i+1),rfl,by rw[ByteArray.size_extract];omega,rfl⟩
     ·have H:decide (k-1<0)=false:=by rw[dfi];omega
      go_wp2
      go_roundw
      case rel=>exact⟨k-1,i+1,rfl,rfl,om,om,gn,om,trivial⟩
      case measure=>simp[intOf];omega
    ·have G:((s[i].toNat:Int)==10)=false:=by simp[g]
     clear g;go_wp2
     go_roundw
     case rel=>exact⟨k,i+1,rfl,rfl,P,Q,gn,om,trivial⟩
     case measure=>simp[intOf];omega
   ·have y:¬(i:Int)<(s.size:Int):=om
    go_wp2
    go_meet
    exact⟨s,rfl,N,rfl⟩
 case rest=>
 obtain⟨t,rfl,O,rfl⟩:=hcut;go_wp2_with fail
 refine(qQ t wc c.oQ).mono ?_;rintro e S ⟨rfl,f⟩;have q:=aI (c.oQ.zL f);have l:=aI (aE j.oQ f);obtain⟨A,D⟩:=cI (BX t);have L:=aI D;rw[D];clear f D;go_wp2_with fail
 refine(qQ s S q.oQ).mono ?_;rintro e T ⟨rfl,r⟩;have m:=aI (aE l.oQ r);obtain⟨B,F⟩:=cI (BX s);have p:=aI F;rw[F];clear r F;go_wp2_with fail
 refine(qL t T O).mono ?_;rintro e U ⟨rfl,u⟩;have o:=aI (aE m.oQ u);rw[L.oQ];clear u;go_wp2_with fail
 refine(qL s U N).mono ?_;rintro e w5 ⟨rfl,v⟩;have b:=aI (aE o.oQ v);rw[p.oQ];clear v j l m o c q L p
 by_cases hl:B.size<A.size
 ·go_wp2
  go_ret;exact⟨rfl,b.oQ⟩
 have hl2:(A.size:Int)<=(B.size:Int):=om
 cases hy:(B.extract 0 A.size).toList==A.toList with
 |true=>
  go_wp2
  go_ret;exact⟨rfl,b.oQ⟩
 |false=>
  go_wp2
  go_ret;exact⟨rfl,b.oQ⟩
