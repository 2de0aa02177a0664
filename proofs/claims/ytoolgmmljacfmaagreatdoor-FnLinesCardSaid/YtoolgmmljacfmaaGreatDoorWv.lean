import Derived.RangeFuncBox
import Derived.Test.YtoolgmmljacfmaaGreatDoorTurn
import Derived.Test.YtoolgmmljacfmaaGreatDoorAny
set_option maxRecDepth 100000
set_option maxHeartbeats 16000000
open List renaming length → ln
open Go.Proofs.Tryz Go.RowKit
namespace Go.Proofs.YtoolgmmljacfmaaGreatDoor
open Go.Shelf
attribute [local go_sem] Oper.semAt_some
variable {s:Va}{L n z j:Nat}{a b:Nat → Va}{w w':Wd}
theorem QM (n a:Nat)(b:Oa)(i:Int)(w:Wd):
 aW 214 #[.slice b n a,I i] w λe w'=>e=rt (.bool (mU n i))/\w'=w:=by
 go_enter func214,ntmps214
 go_wp2
 all_goals go_ret
 all_goals refine⟨aF ?_,rfl⟩
 all_goals (rw[beii];simp only[mU,dte,bft,false_iff];omega)
theorem PX (n a:Nat)(b:Oa)(i:Int)(w:Wd):
 aW 215 #[.slice b n a,I i] w λe w'=>e=rt (.bool (mU n i))/\w'=w:=by
 go_enter func215,ntmps215
 go_wp2
 all_goals go_ret
 all_goals refine⟨aF ?_,rfl⟩
 all_goals (rw[beii];simp only[mU,dte,bft,false_iff];omega)
theorem S8 (q s f b:Int)(k:Nat)(hk:k<40)(hq1:1<=q)(a:q<=50)(hs1:1<=s)(c:s<=50)(hf1:0<=f)(hf2:f<=10000)(hb1:0<=b)(hb2:b<=10000)(w:Wd):
 aW 258 #[UA q s f b,I (k:Int)] w λe w'=>e=rt (ZH (f+k*q) (b+((k:Int)+1)*s-1))/\aG w w':=by
 have e1:0<=(k:Int)*q:=Int.mul_nonneg om om;have e2:(k:Int)*q<=40*50:=Int.mul_le_mul om a om om;have e3:0<=((k:Int)+1)*s:=Int.mul_nonneg om om;have e4:((k:Int)+1)*s<=40*50:=Int.mul_le_mul om c om om;go_enter func258,ntmps258;go_wp2;refine bpr (v:=ZH (f+k*q) (b+((k:Int)+1)*s-1)) ?_ rfl ⟨rfl,aC (aC (br _ _) _) _⟩;simp[results,results258,go_sem]
abbrev Z9 (q s f b:Int)(ao:Option Addr)(n cap:Nat)(lev:Int):Value:=.agg #[I q,I s,I f,I b,.slice ao n cap,I lev]
abbrev xJ (q s f b:Int)(ao:Option Addr)(n cap:Nat)(lev:Int):Obj:=.cells #[I q,I s,I f,I b,.slice ao n cap,I lev] 250
theorem V6 (L U D:Nat)(b u d:Int)(w:Wd)(hL:w.cell? (Y L 5)=some (I b))(g:Boxed w U 3 (I u))(f:Boxed w D 3 (I d))(c:U≠D)(hu1:0<=u)(hu2:u<=1048576)(hd1:-1<=d)(hd2:d<=1048576):
 aW 280 #[E L 0,E U 0,E D 0] w λe w'=>e=rt (I (min b (min u d)))/\w'=(w.setCell (Y U 0) (I (u+1))).setCell (Y D 0) (I (d-1)):=by
 have cU:=g.cell;have fU:=g.frozen;have cD:=f.cell;have a:=f.other c.symm (I (u+1));have cD2:=a.cell;have fD2:=a.frozen
 go_enter func280,ntmps280
 go_wp2
 all_goals go_ret
 all_goals exact⟨mC om,rfl⟩
def K9 (s:Value)(L n z:Nat)(j:Nat)(vs:Nat->Value)(w:World):Prop:=
 match j with
 |0=>vs 0=(E L 4)
 |1=>vs 1=s
 |2=>vs 2=I (n:Int)
 |3=>vs 3=I ((n:Int)-1)
 |4=>vs 4≠vs 5/\∃p v,vs 4=(E p 0)/\z<=p/\Boxed w p 3 v
 |5=>vs 4≠vs 5/\∃p v,vs 5=(E p 0)/\z<=p/\Boxed w p 3 v
 |6=>∃p,vs 4=(E p 0)/\Boxed w p 3 (I 0)
 |7=>∃p,vs 5=(E p 0)/\Boxed w p 3 (I ((n:Int)-1))
 |_=>True
theorem K9.upd {j i:Nat}(h:K9 s L n z j a w)(d:j≠i)(c:i≠4)(b:i≠5)(v:Va):K9 s L n z j (aH a i v) w:=by
 have e9:Go.Proofs.YtoolgmmljacfmaaGreatDoor.aH a i v 4=a 4:=by unfold Go.Proofs.YtoolgmmljacfmaaGreatDoor.aH;rw[if_neg (Ne.symm c)]
 have e10:Go.Proofs.YtoolgmmljacfmaaGreatDoor.aH a i v 5=a 5:=by unfold Go.Proofs.YtoolgmmljacfmaaGreatDoor.aH;rw[if_neg (Ne.symm b)]
 have ej:Go.Proofs.YtoolgmmljacfmaaGreatDoor.aH a i v j=a j:=by unfold Go.Proofs.YtoolgmmljacfmaaGreatDoor.aH;rw[if_neg d]
 unfold K9 at h ⊢;split<;>simp_all
theorem K9.zL {w w':Wd}(h:K9 s L n z j b w)(c:aG w w'):K9 s L n z j b w':=by
 have a:∀{p:Nat} {v:Va},Boxed w p 3 v->Boxed w' p 3 v:=λh=>(c.block _ h.lt).trans h;unfold K9 at h ⊢;split
 all_goals first
  |exact h
  |exact⟨h.1,by obtain⟨p,v,e,g,f⟩:=h.2;exact⟨p,v,e,g,a f⟩⟩
  |(obtain⟨p,e,d⟩:=h;exact⟨p,e,a d⟩)
  |trivial
theorem K9.turn {q:Nat} (h:K9 s L n z j b w) (o:∃ v,Boxed w' q 3 v) (i:∀ p,p≠q->w'.heap[p]?=w.heap[p]?)
 (c:j=6->b 4≠(E q 0)) (d:j=7->b 5≠(E q 0)):K9 s L n z j b w':=by
 unfold K9 at h ⊢
 split
 all_goals first
  | exact h
  | (obtain⟨l,p,v,e,k,f⟩:=h
     refine⟨l,p,?_⟩
     by_cases a:p=q
     · subst a;obtain⟨r,g⟩:=o;exact⟨r,e,k,g⟩
     · exact⟨v,e,k,(i _ a).trans f⟩)
  | (obtain⟨p,e,m⟩:=h
     refine⟨p,e,(i p ?_).trans m⟩;intro a;subst a
     first | exact c rfl e | exact d rfl e)
  | trivial
theorem TA (n:Nat) (q s f b:Int) (K:Oa) (m k:Nat) (hm:m<=1048576) (l:Int) (w:Wd):
 CallsIn Fence.wide n prog 257 #[Z9 q s f b K m k l] w fun e w'=>(∃ U D,e=rt (.func (.func 280) #[] #[E w.heap.size 0,E U 0,E D 0])/\U≠D/\w.heap.size<U/\w.heap.size<D/\w'.heap[w.heap.size]?=some (xJ q s f b K m k l)/\Boxed w' U 3 (I 0)/\Boxed w' D 3 (I ((m:Int)-1)))/\aG w w':=by
 have X:aG w (w.alloc (xJ q s f b K m k l)):=aC (br _ _) _;have hO:=wnq w (xJ q s f b K m k l);refine cow func257 rfl trivial ?_ rfl;simp only[ntmps257,lsz,llc,lln,Nat.reduceAdd,Nat.reduceSub,ars,arz,lpt,lap,lna,lca];gi_wp2_with fail
 have W:(w.alloc (xJ q s f b K m k l)).heap.size=w.heap.size+1:=by simp
 obtain⟨W0,Z⟩:=cI (w.alloc (xJ q s f b K m k l));rw[Z]at X hO W ⊢;have zc:Hid _:=W;clear Z W
 refine oD kr (fun j=>{ tmps:=#[Z9 q s f b K m k l,ea w 0,Value.nilFunc,j 4,j 5,j 0,j 1,j 2,j 3,undef],defers:=[]}) (fun _=>undef)
  (K9 (.slice K m k) w.heap.size m W0.heap.size) (qG kr) ?step ?fin
 case step=>
  intro D i o j w' g za N M x t c;have L:=btq t hO;have hi:i<8:=(lgs.1 M).1
  match i,hi with
  | 0,_=>
   cases M
   gi_wp2;refine dL.mk' (ea w 4) (by simp[aH]) t rfl (fun a ha=>(c a ha).upd (i:=0) (fun e=>g (by rw[← e];exact ha)) om om _)
  | 1,_=>
   cases M
   have d0:j 0=_:=c 0 (Zq x 0);rw[d0];have k4:w'.cell? (ya w 4)=some (.slice K m k):=aB L rfl;gi_wp2;refine dL.mk' (.slice K m k) (by simp[aH,d0]) t rfl (fun a ha=>(c a ha).upd (i:=1) (fun e=>g (by rw[← e];exact ha)) om om _)
  | 2,_=>
   cases M
   have d1:j 1=_:=c 1 (Zq x 1);rw[d1];gi_wp2;refine dL.mk' (I (m:Int)) (by simp[aH,d1]) t rfl (fun a ha=>(c a ha).upd (i:=2) (fun e=>g (by rw[← e];exact ha)) om om _)
  | 3,_=>
   cases M
   have d2:j 2=_:=c 2 (Zq x 2);rw[d2];gi_wp2;refine dL.mk' (I ((m:Int)-1)) (by simp[aH,d2]) t rfl (fun a ha=>(c a ha).upd (i:=3) (fun e=>g (by rw[← e];exact ha)) om om _)
  | 4,_=>
   cases M
   gi_wp2;have F:aG w' (w'.alloc (.cells #[I 0] 3)):=aC (br _ _) _;have G:Boxed (w'.alloc (.cells #[I 0] 3)) w'.heap.size 3 (I 0):=Boxed.new w' _ _;have J:=t.size
   have d:D 5->j 5≠(ea w' 0):=fun u e=>by
    obtain⟨_,p,v,y,_,S⟩:=c 5 u;rw[e]at y;simp at y;have:=S.lt;omega
   have hu:¬ D 5->j 5=undef:=za 5
   have H:j 5≠(ea w' 0):=by
    by_cases u:D 5
    · exact d u
    · rw[hu u];intro e;cases e
   refine dL.mk' (ea w' 0) (by simp[aH]) (t.trans (F.mono J)) ?_ (fun a ha=>?_)
   · exact⟨by simp only[aH];simp;exact fun e=>H e.symm,w'.heap.size,_,uhx,J,G⟩
   · have Q:=(c a ha).zL F
     have zd:a≠4:=fun e=>g (by rw[← e];exact ha);have R:¬ D 6:=fun u=>g (N 6 _ u rfl (eD 4) sm rfl);unfold K9 at Q ⊢
     split
     all_goals first
      | (simp only[aH];simp;exact Q)
      | exact absurd rfl zd
      | exact absurd ha R
      | (obtain⟨_,p,v,e,V,h⟩:=Q
         exact⟨by simp only[aH];simp;exact fun e=>H e.symm,p,v,by simp only[aH];simp;exact e,V,h⟩)
      | trivial
  | 5,_=>
   cases M
   gi_wp2;have F:aG w' (w'.alloc (.cells #[I 0] 3)):=aC (br _ _) _;have G:Boxed (w'.alloc (.cells #[I 0] 3)) w'.heap.size 3 (I 0):=Boxed.new w' _ _;have J:=t.size
   have d:D 4->j 4≠(ea w' 0):=fun u e=>by
    obtain⟨_,p,v,y,_,S⟩:=c 4 u;rw[e]at y;simp at y;have:=S.lt;omega
   have hu:¬ D 4->j 4=undef:=za 4
   have H:j 4≠(ea w' 0):=by
    by_cases u:D 4
    · exact d u
    · rw[hu u];intro e;cases e
   refine dL.mk' (ea w' 0) (by simp[aH]) (t.trans (F.mono J)) ?_ (fun a ha=>?_)
   · exact⟨by simp only[aH];simp;exact H,w'.heap.size,_,uhx,J,G⟩
   · have Q:=(c a ha).zL F
     have ze:a≠5:=fun e=>g (by rw[← e];exact ha);have R:¬ D 7:=fun u=>g (N 7 _ u rfl (eD 5) sm rfl);unfold K9 at Q ⊢
     split
     all_goals first
      | (simp only[aH];simp;exact Q)
      | exact absurd rfl ze
      | exact absurd ha R
      | (obtain⟨_,p,v,e,V,h⟩:=Q
         exact⟨by simp only[aH];simp;exact H,p,v,by simp only[aH];simp;exact e,V,h⟩)
      | trivial
  | 6,_=>
   cases M
   obtain⟨d,p,v,C,V,h⟩:=c 4 (Zq x 4);have A:=aI d;have z:=aI C;rw[C];have k0:=h.cell;have fz:=h.frozen;clear d;gi_wp2;have r2:=h.set (I 0);refine dL.mk' undef (by simp[aH,C]) (t.setCell V _) ?_ (fun a ha=>?_)
   · exact⟨p,by simp only[aH];simp;exact z.oQ,r2⟩
   · refine(K9.turn (c a ha) (q:=p) ⟨_,r2⟩ (fun p' T=>?_) (fun e=>?_) (fun e=>?_)).upd (i:=6) (fun e=>g (by rw[← e];exact ha)) om om _
     · exact bhs _ _ _ _ T
     · exact absurd (by rw[← e];exact ha) g
     · intro y;exact A.oQ (z.oQ.trans y.symm)
  | 7,_=>
   cases M
   have dv:j 3=_:=c 3 (Zq x 3);obtain⟨d,p,v,C,V,h⟩:=c 5 (Zq x 5);have A:=aI d;have z:=aI C;rw[dv,C];have k0:=h.cell;have fz:=h.frozen;clear d;gi_wp2;have r2:=h.set (I ((m:Int)-1));refine dL.mk' undef (by simp[aH,dv,C]) (t.setCell V _) ?_ (fun a ha=>?_)
   · exact⟨p,by simp only[aH];simp;exact z.oQ,r2⟩
   · refine(K9.turn (c a ha) (q:=p) ⟨_,r2⟩ (fun p' T=>?_) (fun e=>?_) (fun e=>?_)).upd (i:=7) (fun e=>g (by rw[← e];exact ha)) om om _
     · exact bhs _ _ _ _ T
     · intro y;exact A.oQ (y.trans z.oQ.symm)
     · exact absurd (by rw[← e];exact ha) g
 case fin=>
  intro j w' t c;obtain⟨p,C,q0⟩:=c 6 dz;obtain⟨r,O,r0⟩:=c 7 dz;obtain⟨d,p',_,P,zf,_⟩:=c 4 dz;obtain⟨_,r',_,B,zb,_⟩:=c 5 dz;have e0:j 0=_:=c 0 dz;have e1:j 1=_:=c 1 dz;have y:j 2=_:=c 2 dz;have e3:j 3=_:=c 3 dz;rw[C]at P d;rw[O]at B d;simp at P B;subst P B;rw[e0,e1,y,e3,C,O];have L:=btq t hO;have HO:Hid _:=L;have hN:=aE X t;rw[zc.oQ]at zf zb;have A:Hid (p≠r):=fun e=>d (by rw[e]);clear c e0 e1 y e3 C O d L;gi_wp2;go_ret;exact⟨⟨p,r,rfl,A.oQ,om,om,HO.oQ,q0,r0⟩,hN⟩
end Go.Proofs.YtoolgmmljacfmaaGreatDoor
namespace Go.Proofs.YtoolgmmljacfmaaGreatDoor
variable {w w':Wd}{m p n:Nat}{e:TypeId}{v:Va}{xs:List Va}
theorem nM (x:Wx)(c:List Cx)(b a:Int):qM x c b a=cS (mL x c b a) (min (ln c) 40):=rfl
theorem rJ (x:Wx) (g:List Cx) (e d:Int) (k:Nat) (c:Cx) (t:lW g k=c) (a h r p i o:Int) (n:h=zB k (ln g) e) (ha:a=if k=0 then h else zB ((k:Int)-1) (ln g) e) (m:r=min a h) (j:p=max a h) (l:i=x.f+d+k*x.q) (u:o=x.b+d+((k:Int)+1)*x.s-1):mL x g e d k=⟨c.x,c.y,r,p,i,o⟩:=by
 unfold mL;rw[t,m,j,l,u,ha,n]
theorem uE (h:w.ownsRow m e p v n xs)(i:aG w w'):w'.ownsRow m e p v n xs:=by
 obtain⟨f,⟨d,k⟩|⟨g,a,b,d,c,j,l⟩⟩:=h;·exact⟨f,.inl ⟨d,k⟩⟩
 ·exact⟨f,.inr ⟨g,a,b,d,c,btq i j,l⟩⟩
structure Wx.Small (x:Wx):Prop where
 q1:1<=x.q
 q2:x.q<=50
 s1:1<=x.s
 s2:x.s<=50
 f1:0<=x.f
 f2:x.f<=10000
 b1:0<=x.b
 b2:x.b<=10000
theorem WZ (x:Wx) (hx:x.Small) (l:List Cx) (V:Oa) (j:Nat) (g d:Int) (w:Wd) (hl:Xs 2 Cx.cells w V l) (hn:ln l<=1048576) (hcap:ln l<=j) (hc2:j<=9223372036854775807) (ht0:0<=d) (ht1:d<=300):
 aW 216 #[Z9 x.q x.s x.f x.b V (ln l) j g,I d] w fun e w'=>(∃ v,e=rt v/\aN w' w.heap.size v (qM x l g d))/\aG w w':=by
 obtain⟨q1,q2,s1,s2,f1,f2,b1,b2⟩:=hx;obtain⟨i0,hi,yy,yz,xa⟩:=info_parts Tryz.info91;have ze:aG w (w.alloc (xJ x.q x.s x.f x.b V (ln l) j g)):=aC (br _ _) _;have hO:=wnq w (xJ x.q x.s x.f x.b V (ln l) j g);have S:(w.alloc (xJ x.q x.s x.f x.b V (ln l) j g)).heap.size=w.heap.size+1:=by simp
 go_enter Tryz.func216,Tryz.ntmps216
 go_wp2_with fail
 obtain⟨W0,yg⟩:=cI (w.alloc (xJ x.q x.s x.f x.b V (ln l) j g));rw[yg]at ze hO S ⊢;clear yg;refine(cw.1 (TA 1 x.q x.s x.f x.b V (ln l) j hn g W0)).mono ?_;rintro e w1 ⟨⟨U,D,rfl,zl,yu,yo,z,A,u⟩,zm⟩;rw[S]at z yu yo ⊢;have J:=btq zm hO;have zz:=aE ze zm;have k4:w1.cell? (ya w 4)=some (.slice V (ln l) j):=aB J rfl;have zt:Hid _:=J;clear J hO ze zm S;have hZ:w.heap.size<w1.heap.size:=aA k4;have yf:U<w1.heap.size:=A.lt;have zw:D<w1.heap.size:=u.lt;have yr:w.heap.size+1<w1.heap.size:=(cE z);obtain⟨M,hM⟩:=bQ (min (ln l) 40:Nat);go_wp2
 all_goals
  go_loopw [6,7,22] (fun v a i wr=>∃ (k:Nat) (ah:Int),k<=M/\i=I k/\a=I ah/\wr.ownsRow w1.heap.size 91 6 v k (fG (cS (mL x l g d) k))/\aG w wr/\w1.heap.size<=wr.heap.size/\wr.heap[w.heap.size]?=some (xJ x.q x.s x.f x.b V (ln l) j g)/\wr.heap[w.heap.size+1]?=some (xJ x.q x.s x.f x.b V (ln l) j g)/\Boxed wr U 3 (I k)/\Boxed wr D 3 (I ((ln l:Int)-1-k))/\Hid (0<k->ah=zB ((k:Int)-1) (ln l) g)) (fun _ _ i _=>M-(intOf i).toNat)
  case atStart=>exact⟨0,0,nz _,rfl,rfl,won _ _ _ _,zz,nlq _,zt.oQ,z,A,by simpa using u,fun h=>absurd h om⟩
  case round=>
   clear k4 zt z A u zz;obtain⟨k,ah,hk,rfl,rfl,G,hN,hwz,J,z,A,u,yw⟩:=hrel
   by_cases hlt:k<M
   · have zq:k<ln l:=om
     have yj:k<40:=om
     rcases hl with h | ⟨bl,yk,rfl,hc⟩
     · subst h;simp at zq
     have zn:=(hc k zq).zL hN;have zp:lW l k=l[k]:=jW l k zq;obtain⟨c,yi⟩:=bQ (l[k]);rw[← yi]at zn zp;have HC:=aI zp;clear yi zp hc;obtain⟨c0,c1⟩:=qN zn;clear zn;have hi1:(k:Int)<(ln l:Int):=om
     have hi0:(0:Int)<=(k:Int):=om
     have hi2:(k:Int)<40:=om
     have H:aG wr (wr.alloc (.cells #[I c.x,I c.y] 107)):=aC (br _ _) _;have zb:Boxed (wr.alloc (.cells #[I c.x,I c.y] 107)) U 3 (I k):=(H.block _ A.lt).trans A;have Z:Boxed (wr.alloc (.cells #[I c.x,I c.y] 107)) D 3 (I ((ln l:Int)-1-k)):=(H.block _ u.lt).trans u;have za:=btq H z;have l5:(wr.alloc (.cells #[I c.x,I c.y] 107)).cell? (Y (w.heap.size+1) 5)=some (I g):=aB za rfl;have zj:=btq H J;have zg:(wr.alloc (.cells #[I c.x,I c.y] 107)).heap[wr.heap.size]?=some (.cells #[I c.x,I c.y] 107):=wnq wr _;have F:=G.alloc (.cells #[I c.x,I c.y] 107);have zi:=aE hN H;have T:(wr.alloc (.cells #[I c.x,I c.y] 107)).heap.size=wr.heap.size+1:=by simp
     clear A u z J G hN H;go_wp2_with fail
     obtain⟨WA,yh⟩:=cI (wr.alloc (.cells #[I c.x,I c.y] 107));rw[yh]at zb Z za l5 zj zg F zi T ⊢;clear yh c0 c1;refine(V6 (w.heap.size+1) U D g k ((ln l:Int)-1-k) WA l5 zb Z zl om om om om).mono ?_;rintro e N ⟨rfl,o⟩;obtain⟨m,zr⟩:=bQ (min g (min (k:Int) ((ln l:Int)-1-k)));rw[← zr];have O:=aI zr;clear zr;have zk:Boxed N U 3 (I ((k:Int)+1)):=by rw[o];exact(zb.set _).other zl _
     have zh:Boxed N D 3 (I ((ln l:Int)-1-k-1)):=by rw[o];exact(Z.other zl.symm _).set _
     have K:N.heap[w.heap.size]?=some (xJ x.q x.s x.f x.b (some (Y bl yk)) (ln l) j g):=by
      rw[o,bhs _ _ _ _ (by show w.heap.size≠D;omega),bhs _ _ _ _ (by show w.heap.size≠U;omega)];exact zj
     have zx:N.heap[w.heap.size+1]?=some (xJ x.q x.s x.f x.b (some (Y bl yk)) (ln l) j g):=by
      rw[o,bhs _ _ _ _ (by show w.heap.size+1≠D;omega),bhs _ _ _ _ (by show w.heap.size+1≠U;omega)];exact za
     have zu:N.heap[wr.heap.size]?=some (.cells #[I c.x,I c.y] 107):=by
      rw[o,bhs _ _ _ _ (by show wr.heap.size≠D;omega),bhs _ _ _ _ (by show wr.heap.size≠U;omega)];exact zg
     have B:=ownsRow_setCell_below (a:=(Y D 0)) (ownsRow_setCell_below (a:=(Y U 0)) F (by exact yf) (I ((k:Int)+1))) (by exact zw) (I ((ln l:Int)-1-k-1));rw[← o]at B;have yb:aG w N:=by rw[o];exact(zi.setCell (by show w.heap.size<=U;omega) _).setCell (by show w.heap.size<=D;omega) _
     have hs2:N.heap.size=wr.heap.size+1:=by rw[o];simp[T]
     clear zb Z za zj zg F zi T l5 o;have o0:N.cell? (ya w 0)=some (I x.q):=aB K rfl;have o1:N.cell? (ya w 1)=some (I x.s):=aB K rfl;have o2:N.cell? (ya w 2)=some (I x.f):=aB K rfl;have o3:N.cell? (ya w 3)=some (I x.b):=aB K rfl;obtain⟨a,ha⟩:∃ a,a=if k=0 then m else zB ((k:Int)-1) (ln l) g:=⟨_,rfl⟩;have zd:=aI ha;have yl:Hid (¬ k=0->ah=a):=fun h=>by rw[ha,if_neg h];exact yw.out om
     clear ha;have e1:0<=(k:Int)*x.q:=Int.mul_nonneg om om;have e2:(k:Int)*x.q<=40*50:=Int.mul_le_mul om q2 om om;have e3:0<=((k:Int)+1)*x.s:=Int.mul_nonneg om om;have e4:((k:Int)+1)*x.s<=40*50:=Int.mul_le_mul om s2 om om
     by_cases L:k=0
     case' pos=>
      have ek:((k:Int)==0)=true:=by simp[L]
      obtain⟨p,r,X,W⟩:∃ p r:Int,Hid ((p,r)=(m,m))/\Hid (mL x l g d k=⟨c.x,c.y,p,r,x.f+k*x.q+d,x.b+((k:Int)+1)*x.s-1+d⟩):=⟨_,_,rfl,rJ x l g d k c HC.oQ m m _ _ _ _ O.oQ (by rw[if_pos L]) om om om om⟩;clear L;go_wp2_with fail
     case' neg=>
      have ek:((k:Int)==0)=false:=by simp[L]
      have yn:=aI (yl.oQ L);clear L;rw[yn.oQ]
      rcases Int.lt_trichotomy a m with Q | Q | Q
      case' inl=>
       have m1:min a m=a:=om
       have m2:max a m=m:=om
       obtain⟨p,r,X,W⟩:∃ p r:Int,Hid ((p,r)=(a,m))/\Hid (mL x l g d k=⟨c.x,c.y,p,r,x.f+k*x.q+d,x.b+((k:Int)+1)*x.s-1+d⟩):=⟨_,_,rfl,rJ x l g d k c HC.oQ a m _ _ _ _ O.oQ zd.oQ om om om om⟩
      case' inr.inl=>
       obtain⟨p,r,X,W⟩:∃ p r:Int,Hid ((p,r)=(m,m))/\Hid (mL x l g d k=⟨c.x,c.y,p,r,x.f+k*x.q+d,x.b+((k:Int)+1)*x.s-1+d⟩):=⟨_,_,rfl,rJ x l g d k c HC.oQ m m _ _ _ _ O.oQ (Q.symm.trans zd.oQ) om om om om⟩;have ym:=aI Q;clear Q;rw[ym.oQ]
      case' inr.inr=>
       have m1:min a m=m:=om
       have m2:max a m=a:=om
       obtain⟨p,r,X,W⟩:∃ p r:Int,Hid ((p,r)=(m,a))/\Hid (mL x l g d k=⟨c.x,c.y,p,r,x.f+k*x.q+d,x.b+((k:Int)+1)*x.s-1+d⟩):=⟨_,_,rfl,rJ x l g d k c HC.oQ a m _ _ _ _ O.oQ zd.oQ om om om om⟩
      all_goals go_wp2_with fail
     all_goals
      refine(S8 x.q x.s x.f x.b k yj q1 q2 s1 s2 f1 f2 b1 b2 N).mono ?_;rintro e w3 ⟨rfl,n⟩;have ye:Boxed w3 U 3 (I ((k:Int)+1)):=(n.block _ zk.lt).trans zk;have zv:Boxed w3 D 3 (I ((ln l:Int)-1-k-1)):=(n.block _ zh.lt).trans zh;have yd:=btq n K;have zy:=btq n zx;have zf:=btq n zu;have x0:w3.cell? (ya wr 0)=some (I c.x):=aB zf rfl;have x1:w3.cell? (ya wr 1)=some (I c.y):=aB zf rfl;have C:=uE B n;have yc:=aE yb n;have hs3:=n.size;have hlt3:wr.heap.size<w3.heap.size:=om
      clear o0 o1 o2 o3 n zk zh K zx zu B yb
      go_wp2_with (at_builtin;refine wpList_append_own_at _ rfl (.tmp 36) (.tmp 56) 41 rfl w1.heap.size 91 i0 _ 6 48 Tryz.underlying41 hi yy yz xa rfl dz _ _ _ rfl ((C.alloc _).alloc _) (Y (w3.heap.size+1) 0) 1 1 (aR ⟨c.x,c.y,p,r,x.f+k*x.q+d,x.b+((k:Int)+1)*x.s-1+d⟩) rfl rfl ?qc1 ?qc2 ?qc3 ?qc4 ?qc5 ?_)
      case qc1=>cases X.oQ;first | exact fun _ _ h=>h | (refine vD _ _ ?_ _;simp)
      case qc2=>exact m9 _
      case qc3=>unfold maxLen;omega
      case qc4=>omega
      case qc5=>(try simp);omega
      intro v' w4 R P _ _;have zc:=W.oQ
      have HR:Hid (w4.ownsRow w1.heap.size 91 6 v' (k+1) (fG (cS (mL x l g d) (k+1)))):=by
       rw[Hid,eQ,jV,zc];exact R
      have t:Below w1.heap.size w3 w4:=((aC (aC (br _ _) _) _).mono om).trans ((br _ _).grown P so (fun q hq=>eH C hq));have yv:Boxed w4 U 3 (I ((k:Int)+1)):=(t.block _ yf).trans ye;have yp:Boxed w4 D 3 (I ((ln l:Int)-1-k-1)):=(t.block _ zw).trans zv;have yt:=(t.block _ hZ).trans yd;have yq:=(t.block _ yr).trans zy;have ys:aG w w4:=yc.trans (t.mono om);have hs4:=t.size;clear C R P yc t ye zv yd zy zf x0 x1 zc;go_wp2
      go_roundw
      case rel=>exact⟨k+1,m,om,gn,rfl,HR.oQ,ys,om,yt,yq,by exact yv,by rw[show(ln l:Int)-1-((k+1:Nat):Int)=(ln l:Int)-1-k-1 from by omega];exact yp,fun _=>by rw[O.oQ];congr 1;omega⟩
      case measure=>simp[intOf];omega
   · have yx:k=M:=om
     have zs:=aI (yx.trans hM)
     first
     | (have n1:¬ ((k:Int)<(ln l:Int)):=om
        go_wp2
        go_ret
        exact⟨⟨_,rfl,by rw[nM,← zs.oQ];exact(aN.of_owns (by rw[eT];exact G)).weak om⟩,hN⟩)
     | (have n2:¬ ((k:Int)<40):=om
        go_wp2
        go_ret
        exact⟨⟨_,rfl,by rw[nM,← zs.oQ];exact(aN.of_owns (by rw[eT];exact G)).weak om⟩,hN⟩)
end Go.Proofs.YtoolgmmljacfmaaGreatDoor
namespace Go.Proofs.YtoolgmmljacfmaaGreatDoor
open Go.Shelf
attribute [local go_sem] Oper.semAt_some
variable {x:Wx}{a d c f:Int}{z g b lb q n:Nat}{y:Yx}
theorem KR (h:iN x a=true):x.Small/\0<=a/\a<=300:=by
 simp only[iN,fQ,bat,dte]at h;exact⟨⟨om,om,om,om,om,om,om,om⟩,om,om⟩
theorem yV (x:Wx)(a:Int):iN x a=(fQ a 0 300&&rL x.q x.s x.f x.b):=by
 unfold iN rL;cases fQ a 0 300<;>cases fQ x.q 1 50<;>cases fQ x.s 1 50<;>cases fQ x.f 0 10000<;>cases fQ x.b 0 10000<;>rfl
def TPr (x:Wx)(z:Nat)(way lev:Int)(wb woff lb loff:Nat)(y:Yx)(lv:Int)(n:Nat)(j:Nat)(v:Value)(w:World):Prop:=
 match j with
 |0=>v=x.val
 |1=>v=UA x.q x.s x.f x.b
 |2=>v=(E z 6)
 |3=>v=.slice x.wa x.wl.length x.wc
 |4=>v=I way
 |5=>v=(E wb woff)
 |6=>v=(E wb woff)
 |7=>v=.slice y.a y.l.length y.c
 |8=>v=(E z 7)
 |9=>v=.slice x.la x.ll.length x.lc
 |10=>v=I lev
 |11=>v=(E lb loff)
 |12=>v=I lv
 |13=>v=Z9 x.q x.s x.f x.b y.a y.l.length y.c lv
 |14=>∃p u,v=(E p 0)/\n<=p/\w.heap[p]?=some (.cells u 250)/\u.size=6
 |_=>True
theorem TPr.zL (j:Nat)(v:Va)(w w':Wd)(h:TPr x z d c g b lb q y f n j v w)(i:aG w w'):TPr x z d c g b lb q y f n j v w':=by
 unfold TPr at h ⊢;split
 all_goals first
  |exact h
  |(obtain⟨p,u,e,k,l,m⟩:=h;exact⟨p,u,e,k,btq i l,m⟩)
  |trivial
theorem EI (n:Nat)(hn:4<=n)(x:Wx)(m k g:Int)(w:Wd)(Z:x.In w)(yd:∀y∈x.wl,ln y.l<=y.c/\y.c<=9223372036854775807)(yc:∀y∈x.wl,ln y.l<=1048576):
 CallsIn Fence.wide n Tryz.prog 159 #[x.val,I m,I k,I g] w λe w'=>(∃v,e=rt v/\aN w' w.heap.size v (bL x m k g))/\aG w w':=by
 have h1n:1<=n:=om;have O:aG w (w.alloc x.obj):=aC (br _ _) _;have hO:=wnq w x.obj;obtain⟨T,hT⟩:=bQ (bL x m k g);rw[←hT];obtain⟨v1,h1⟩:∃v,mU (ln x.wl) m=v:=⟨_,rfl⟩;obtain⟨v2,h2⟩:∃v,mU (ln x.ll) k=v:=⟨_,rfl⟩;obtain⟨v3,h3⟩:∃v,fQ g 0 300=v:=⟨_,rfl⟩;obtain⟨v4,h4⟩:∃v,rL x.q x.s x.f x.b=v:=⟨_,rfl⟩;have HT:Hid (T=if v1&&(v2&&(v3&&v4))then qM x (D3 x.wl m.toNat).l (OF x.ll k.toNat) g else[]):=by rw[Hid,hT,bL,yV,h1,h2,h3,h4]
 have H1:Hid _:=h1;have H2:Hid _:=h2;have H3:Hid _:=h3;have H4:Hid _:=h4;clear hT h1 h2 h3 h4;refine cow Tryz.func159 rfl trivial ?_ rfl;simp only[Tryz.ntmps159,lsz,llc,lln,Nat.reduceAdd,Nat.reduceSub,ars,arz,lpt,lap,lna,lca];gi_wp2_with fail;refine⟨trivial,?_⟩;refine(cw.2 (QM _ _ _ m _)).mono ?_;rintro e w1 ⟨rfl,rfl⟩;rw[H1.oQ];cases v1 with
 |false=>
  gi_wp2_with fail;refine⟨trivial,?_⟩;gi_wp2_with fail;refine⟨trivial,?_⟩;gi_wp2_with fail;refine⟨trivial,?_⟩;gi_wp2;go_ret;exact⟨⟨_,rfl,.inl ⟨rfl,by rw[HT.oQ];rfl⟩⟩,O⟩
 |true=>
 gi_wp2_with fail;refine⟨trivial,?_⟩;refine(cw.2 (PX _ _ _ k _)).mono ?_;rintro e w1 ⟨rfl,rfl⟩;rw[H2.oQ];cases v2 with
 |false=>
  gi_wp2_with fail;refine⟨trivial,?_⟩;gi_wp2_with fail;refine⟨trivial,?_⟩;gi_wp2;go_ret;exact⟨⟨_,rfl,.inl ⟨rfl,by rw[HT.oQ];rfl⟩⟩,O⟩
 |true=>
 gi_wp2_with fail;refine⟨trivial,?_⟩;refine(cw.2 (yI 300 _)).mono ?_;rintro e w1 ⟨rfl,W⟩;have zk:=btq W hO;have zi:=aE O W;have zd:Hid _:=zk;clear O hO W zk;gi_wp2_with fail;refine⟨trivial,?_⟩;refine(cw.2 (pO 0 300 g _)).mono ?_;rintro e w2 ⟨rfl,X⟩;rw[H3.oQ];have zl:=btq X zd.oQ;have B:=aE zi X;clear zi X zd;cases v3 with
 |false=>
  gi_wp2;go_ret;exact⟨⟨_,rfl,.inl ⟨rfl,by rw[HT.oQ];rfl⟩⟩,B⟩
 |true=>
 obtain⟨hw0,hw1⟩:0<=m/\m<ln x.wl:=by simpa[mU]using H1.oQ
 obtain⟨hl0,hl1⟩:0<=k/\k<ln x.ll:=by simpa[mU]using H2.oQ
 obtain⟨A,zz⟩:∃A:Nat,m=(A:Int):=⟨m.toNat,om⟩;obtain⟨M,zy⟩:∃M:Nat,k=(M:Int):=⟨k.toNat,om⟩;subst zz;subst zy;have t:A<ln x.wl:=om;have Q:M<ln x.ll:=om;rcases Z.ws with h|⟨wb,zv,zr,zs⟩;·rw[h]at t;simp at t
 rcases Z.ls with h|⟨lb,zu,zn,zp⟩;·rw[h]at Q;simp at Q
 have c7:=RI ((zs A t).zL B);have N:=RM ((zp M Q).zL B);have zt:=(Z.yn x.wl[A] (lgm t)).zL B;have zb:=yd x.wl[A] (lgm t);have R:=yc x.wl[A] (lgm t);have HY:Hid (D3 x.wl (A:Int).toNat=x.wl[A]):=by rw[Hid,Int.toNat_natCast,zU _ _ t]
 have HL:Hid (OF x.ll (M:Int).toNat=x.ll[M]):=by rw[Hid,Int.toNat_natCast,RA _ _ Q]
 rw[Nat.mul_one]at c7 N;generalize x.wl[A]=y at c7 zt zb R HY;generalize x.ll[M]=lv at N HL;have ze:Hid (T=if v4 then qM x y.l lv g else[]):=by rw[Hid,HT.oQ,HY.oQ,HL.oQ];cases v4<;>rfl
 clear zs zp HT H1 H2 HY HL;obtain⟨k0,k1,k2,k3,k4,k5,k6,k7⟩:=gT zl;have zf:Hid _:=zr;have zc:Hid _:=zn;clear zr zn;clear zl;gi_wp2_with fail
 refine j6 kr 15 rfl (λd=>{ tmps:=#[x.val,I (A:Int),I (M:Int),I g,ea w 0,undef,undef,undef,ms,d 14,ea w 6,.slice x.wa (ln x.wl) x.wc,I (A:Int),.bool true,.bool false,.bool false,ea w 7,.slice x.la (ln x.ll) x.lc,I (M:Int),.bool true,.bool false,.bool false,.bool false,ZH 0 300,I g,.bool true,.bool false,.bool false,d 0,d 1,d 2,d 3,d 4,d 5,d 6,d 7,d 8,d 9,d 10,d 11,d 12,d 13,undef,undef,undef,undef,undef,undef,undef],defers:=[]}) (λ_=>undef)
  (TPr x w.heap.size A M wb (zv+A) lb (zu+M) y lv w2.heap.size) TPr.zL (GN kr) (zQ kr) ?step ?fin
 case step=>
  intro i o d w' Z D z C;have m0:=ctq z k0;have m1:=ctq z k1;have m2:=ctq z k2;have m3:=ctq z k3;have m4:=ctq z k4;have m5:=ctq z k5;have m6:=ctq z k6;have m7:=ctq z k7;have n7:=ctq z c7;have n12:=ctq z N;match i,Z with
  |0,_|2,_|4,_|8,_|10,_=>
   cases D;gi_wp2;exact⟨_,uhx,rfl,br _ _⟩
  |1,_=>
   cases D;have d0:d 0=_:=Zq C 0;rw[d0];gi_wp2_with fail;refine⟨trivial,?_⟩;refine(cw.2 (uI x w')).mono ?_;rintro e w3 ⟨rfl,hb⟩;gi_wp2;exact⟨_,by simp[aH,d0],rfl,hb⟩
  |3,_=>
   cases D;have d2:d 2=_:=Zq C 2;rw[d2];gi_wp2;exact⟨_,by simp[aH,d2],rfl,br _ _⟩
  |5,_=>
   cases D;have d3:d 3=_:=Zq C 3;have d4:d 4=_:=Zq C 4;rw[d3,d4];rw[zf.oQ];gi_wp2;exact⟨_,by simp[aH,d3,d4,zf.oQ],rfl,br _ _⟩
  |6,_=>
   cases D;have d5:d 5=_:=Zq C 5;rw[d5];gi_wp2;exact⟨_,by simp[aH,d5],rfl,br _ _⟩
  |7,_=>
   cases D;have d6:d 6=_:=Zq C 6;rw[d6];gi_wp2;exact⟨_,by simp[aH,d6],rfl,br _ _⟩
  |9,_=>
   cases D;have d8:d 8=_:=Zq C 8;rw[d8];gi_wp2;exact⟨_,by simp[aH,d8],rfl,br _ _⟩
  |11,_=>
   cases D;have d9:d 9=_:=Zq C 9;have H:d 10=_:=Zq C 10;rw[d9,H];rw[zc.oQ];gi_wp2;exact⟨_,by simp[aH,d9,H,zc.oQ],rfl,br _ _⟩
  |12,_=>
   cases D;have J:d 11=_:=Zq C 11;rw[J];gi_wp2;exact⟨_,by simp[aH,J],rfl,br _ _⟩
  |13,_=>
   cases D;have d1:d 1=_:=Zq C 1;have d7:d 7=_:=Zq C 7;have K:d 12=_:=Zq C 12;rw[d1,d7,K];gi_wp2;exact⟨_,by simp[aH,d1,d7,K],rfl,br _ _⟩
  |14,_=>
   cases D;gi_wp2;exact⟨_,uhx,⟨_,_,rfl,z.size,wnq _ _,rfl⟩,aC (br _ _) _⟩
 case fin=>
  intro o d w' D z r;cases D;have zg:d 13=_:=r 13 dz;obtain⟨p,u,zh,G,zq,za⟩:=r 14 dz;have d0:d 0=_:=r 0 dz;have d1:d 1=_:=r 1 dz;have d2:d 2=_:=r 2 dz;have d3:d 3=_:=r 3 dz;have d4:d 4=_:=r 4 dz;have d5:d 5=_:=r 5 dz;have d6:d 6=_:=r 6 dz;have d7:d 7=_:=r 7 dz;have d8:d 8=_:=r 8 dz;have d9:d 9=_:=r 9 dz;have H:d 10=_:=r 10 dz;have J:d 11=_:=r 11 dz;have K:d 12=_:=r 12 dz;rw[d0,d1,d2,d3,d4,d5,d6,d7,d8,d9,H,J,K,zg,zh];have j:w'.rowIs p 250 6 (λi=>u.getD i undef):=⟨u,zq,za,λi Z=>by simp[za,Z]⟩;have z0:=j.cell (i:=0) om;have z1:=j.cell (i:=1) om;have z2:=j.cell (i:=2) om;have z3:=j.cell (i:=3) om;have z4:=j.cell (i:=4) om;have z5:=j.cell (i:=5) om;have fz:=λi=>j.frozen i;have zj:aG w w':=aE B z;have r2:=(((((j.set 0 (I x.q)).set 1 (I x.s)).set 2 (I x.f)).set 3 (I x.b)).set 4 (.slice y.a (ln y.l) y.c)).set 5 (I lv);have F:w.heap.size<=p:=by have:=B.size;omega
  have U:aG w ((((((w'.setCell (Y p 0) (I x.q)).setCell (Y p 1) (I x.s)).setCell (Y p 2) (I x.f)).setCell (Y p 3) (I x.b)).setCell (Y p 4) (.slice y.a (ln y.l) y.c)).setCell (Y p 5) (I lv)):=(((((zj.setCell F _).setCell F _).setCell F _).setCell F _).setCell F _).setCell F _;have L:aG w2 ((((((w'.setCell (Y p 0) (I x.q)).setCell (Y p 1) (I x.s)).setCell (Y p 2) (I x.f)).setCell (Y p 3) (I x.b)).setCell (Y p 4) (.slice y.a (ln y.l) y.c)).setCell (Y p 5) (I lv)):=(((((z.setCell G _).setCell G _).setCell G _).setCell G _).setCell G _).setCell G _;clear r d0 d1 d2 d3 d4 d5 d6 d7 d8 d9 H J K zg zh;clear k0 k1 k2 k3 k4 k5 k6 k7 c7 N;gi_wp2_with fail;refine⟨trivial,?_⟩;obtain⟨W5,zm⟩:=cI (((((((w'.setCell (Y p 0) (I x.q)).setCell (Y p 1) (I x.s)).setCell (Y p 2) (I x.f)).setCell (Y p 3) (I x.b)).setCell (Y p 4) (.slice y.a (ln y.l) y.c)).setCell (Y p 5) (I lv)));rw[zm]at r2 U L ⊢;clear zm j z0 z1 z2 z3 z4 z5 fz zq za zj;refine(cw.2 (y8 x.q x.s x.f x.b W5)).mono ?_;rintro e w6 ⟨rfl,P⟩;rw[H4.oQ];have r6:=r2.of_block (P.block _ r2.lt);have V:=aE U P;have yb:=aE L P;have y0:w6.cell? (Y p 0)=some (I x.q):=r6.cell (i:=0) om;have y1:w6.cell? (Y p 1)=some (I x.s):=r6.cell (i:=1) om;have y2:w6.cell? (Y p 2)=some (I x.f):=r6.cell (i:=2) om;have y3:w6.cell? (Y p 3)=some (I x.b):=r6.cell (i:=3) om;have y4:w6.cell? (Y p 4)=some (.slice y.a (ln y.l) y.c):=r6.cell (i:=4) om;have y5:w6.cell? (Y p 5)=some (I lv):=r6.cell (i:=5) om;clear r2 r6 P U L;cases v4 with
  |false=>
   gi_wp2;go_ret;exact⟨⟨_,rfl,.inl ⟨rfl,by rw[ze.oQ];rfl⟩⟩,V⟩
  |true=>
   have S:Hid (x.Small/\0<=g/\g<=300):=KR (by rw[yV,H3.oQ,H4.oQ];rfl);gi_wp2_with fail;refine⟨trivial,?_⟩;refine(cw.2 (WZ x S.oQ.1 y.l y.a y.c lv g w6 (Yx.In.zL zt yb) R zb.1 zb.2 S.oQ.2.1 S.oQ.2.2)).mono ?_;rintro e w7 ⟨⟨v,rfl,hv⟩,zx⟩;have zw:Hid _:=hv;clear hv y0 y1 y2 y3 y4 y5;gi_wp2;go_ret;exact⟨⟨_,rfl,by rw[ze.oQ];exact aN.weak zw.oQ V.size⟩,aE V zx⟩
theorem sD (x:Wx)(d b a:Int)(w:Wd)(h:x.In w)(g:∀y∈x.wl,ln y.l<=y.c/\y.c<=9223372036854775807)(f:∀y∈x.wl,ln y.l<=1048576):
 aW 159 #[x.val,I d,I b,I a] w λe w'=>(∃v,e=rt v/\aN w' w.heap.size v (bL x d b a))/\aG w w':=
 cw.1 (EI 4 om x d b a w h g f)
theorem CT (a b:Int)(w:Wd):
 aW 99 #[I a,I b] w λe w'=>e=rt (I (min a b))/\w'=w:=by
 by_cases h0:a<b
 ·go_enter func99,ntmps99;go_wp2;go_ret;exact⟨mC om,rfl⟩
 ·go_enter func99,ntmps99;go_wp2;go_ret;exact⟨mC om,rfl⟩
theorem WW (a b:Int)(w:Wd):
 aW 100 #[I a,I b] w λe w'=>e=rt (I (max a b))/\w'=w:=by
 by_cases h0:b<a
 ·go_enter func100,ntmps100;go_wp2;go_ret;exact⟨mC om,rfl⟩
 ·go_enter func100,ntmps100;go_wp2;go_ret;exact⟨mC om,rfl⟩
theorem AX (k n a:Int)(w:Wd)(hk0:-1<=k)(hk:k<=9223372036854775807/4)(hn0:0<=n)(hn:n<=9223372036854775807/4):
 aW 98 #[I k,I n,I a] w λe w'=>e=rt (I (zB k n a))/\w'=w:=by
 obtain⟨v,b⟩:=bQ (zB k n a);rw[←b];go_enter func98,ntmps98;go_wp2_with fail;refine(CT _ _ _).mono ?_;rintro e w1 ⟨rfl,rfl⟩;go_wp2_with fail;refine(CT _ _ _).mono ?_;rintro e w1 ⟨rfl,rfl⟩;go_wp2;go_ret;exact⟨mC (by rw[b];rfl),rfl⟩
theorem PZ (x:Wx)(a:Int)(w:Wd):
 aW 97 #[x.val,I a] w λe w'=>e=rt (.bool (iN x a))/\aG w w':=by
 obtain⟨V,k⟩:=bQ (iN x a);rw[←k];have g:=aI k;clear k;have d:aG w (w.alloc x.obj):=aC (br _ _) _;go_enter func97,ntmps97;go_wp2_with fail;obtain⟨m,c⟩:∃v,fQ x.q 1 50=v:=⟨_,rfl⟩;refine(eM _ _ _ _).mono ?_;rintro e w1 ⟨rfl,rfl⟩;rw[c];cases m with
 |false=>
  go_wp2;go_ret;exact⟨aF (by rw[g.oQ,iN,c];rfl),d⟩
 |true=>
 go_wp2_with fail;obtain⟨n,h⟩:∃v,fQ x.s 1 50=v:=⟨_,rfl⟩;refine(eM _ _ _ _).mono ?_;rintro e w1 ⟨rfl,rfl⟩;rw[h];cases n with
 |false=>
  go_wp2;go_ret;exact⟨aF (by rw[g.oQ,iN,c,h];rfl),d⟩
 |true=>
 go_wp2_with fail;obtain⟨o,i⟩:∃v,fQ x.f 0 10000=v:=⟨_,rfl⟩;refine(eM _ _ _ _).mono ?_;rintro e w1 ⟨rfl,rfl⟩;rw[i];cases o with
 |false=>
  go_wp2;go_ret;exact⟨aF (by rw[g.oQ,iN,c,h,i];rfl),d⟩
 |true=>
 go_wp2_with fail;obtain⟨p,j⟩:∃v,fQ x.b 0 10000=v:=⟨_,rfl⟩;refine(eM _ _ _ _).mono ?_;rintro e w1 ⟨rfl,rfl⟩;rw[j];cases p with
 |false=>
  go_wp2;go_ret;exact⟨aF (by rw[g.oQ,iN,c,h,i,j];rfl),d⟩
 |true=>
 go_wp2_with fail;obtain⟨v5,l⟩:∃v,fQ a 0 300=v:=⟨_,rfl⟩;refine(eM _ _ _ _).mono ?_;rintro e w1 ⟨rfl,rfl⟩;rw[l];go_wp2;go_ret;exact⟨aF (by rw[g.oQ,iN,c,h,i,j,l];rfl),d⟩
variable {u9:Va}{i f l k m:Nat}{c:Cx}{b:Int}{w:Wd}{v:Bx}
theorem JY (n:Nat)(i:Int):fQ i 0 ((n:Int)-1)=mU n i:=by
 rw[beii];simp only[fQ,mU,dte];omega
def SPr (u9:Value)(bl off n yc k:Nat)(c:Cx)(here bef:Int)(x:Wx)(late:Int)(z m:Nat)(j:Nat)(v:Value)(w:World):Prop:=
 match j with
 |0=>v=u9
 |1=>v=.slice (some (Y bl off)) n yc
 |2=>v=I (k:Int)
 |3=>v=(E bl (off+k*2))
 |4=>v=(E bl (off+k*2))
 |5=>v=I c.x
 |6=>v=.slice (some (Y bl off)) n yc
 |7=>v=I (k:Int)
 |8=>v=(E bl (off+k*2))
 |9=>v=(E bl (off+k*2+1))
 |10=>v=I c.y
 |11=>v=I bef
 |12=>v=I here
 |13=>v=I (min bef here)
 |14=>v=I bef
 |15=>v=I here
 |16=>v=I (max bef here)
 |17=>v=(E z 3)
 |18=>v=I x.f
 |19=>v=I late
 |20=>v=I (x.f+late)
 |21=>v=I (k:Int)
 |22=>v=(E z 1)
 |23=>v=I x.q
 |24=>v=I ((k:Int)*x.q)
 |25=>v=I (x.f+late+(k:Int)*x.q)
 |26=>v=(E z 4)
 |27=>v=I x.b
 |28=>v=I late
 |29=>v=I (x.b+late)
 |30=>v=I (k:Int)
 |31=>v=I ((k:Int)+1)
 |32=>v=(E z 2)
 |33=>v=I x.s
 |34=>v=I (((k:Int)+1)*x.s)
 |35=>v=I (x.b+late+((k:Int)+1)*x.s)
 |36=>v=I (x.b+late+((k:Int)+1)*x.s-1)
 |37=>v=Bx.val ⟨c.x,c.y,min bef here,max bef here,x.f+late+(k:Int)*x.q,x.b+late+((k:Int)+1)*x.s-1⟩
 |38=>∃g,v=.slice (some (Y g 0)) 1 1/\m<=g/\fX w g 0 ⟨c.x,c.y,min bef here,max bef here,x.f+late+(k:Int)*x.q,x.b+late+((k:Int)+1)*x.s-1⟩
 |_=>True
theorem SPr.zL (j:Nat)(v:Va)(w w':Wd)(h:SPr u9 i f n l k c a d x b z m j v w)(o:aG w w'):SPr u9 i f n l k c a d x b z m j v w':=by
 unfold SPr at h ⊢;split
 all_goals first
  |exact h
  |(obtain⟨g,e,p,q⟩:=h;exact⟨g,e,p,q.zL o⟩)
  |trivial
theorem ZA (W:Wd)(b:Bx)(t:Nat):fX (W.alloc (.cells #[I b.x,I b.y,I b.lo,I b.hi,I b.i,I b.o] t)) W.heap.size 0 b:=by
 refine⟨?_,?_,?_,?_,?_,?_⟩<;>simp
theorem XZ (h:fX w n 0 v):∀j u,(aR v)[j]?=some u->w.cell? (((Y n 0):Addr).add j)=some u:=by
 obtain⟨k,c,d,e,f,i⟩:=h;intro j u a;rw[nza]at c d e f i;match j,a with
 |0,a=>simp[aR]at a;subst a;exact k
 |1,a=>simp[aR]at a;subst a;exact c
 |2,a=>simp[aR]at a;subst a;exact d
 |3,a=>simp[aR]at a;subst a;exact e
 |4,a=>simp[aR]at a;subst a;exact f
 |5,a=>simp[aR]at a;subst a;exact i
theorem oS (n:Nat)(hn:4<=n)(x:Wx)(A z d:Int)(w:World)(hi:x.In w)(hwn:x.wl.length<=1048576)(hln:x.ll.length<=1048576)(xt:∀y∈x.wl,y.l.length<=1048576):
 CallsIn Fence.wide n Tryz.prog 56 #[x.val,.int .i64 A,.int .i64 z,.int .i64 d] w λe w'=>(∃v,e=.returned v/\aN w' w.heap.size v (bL x A z d))/\Below w.heap.size w w':=by
 have h1n:1<=n:=by omega
 obtain⟨i0,xm,xu,xv,xw⟩:=info_parts Tryz.info91;have P:Below w.heap.size w ((w.alloc x.obj).alloc (.cells #[] 91)):=aC (aC (br _ _) _) _;have hO:=(halq (w.alloc x.obj) (.cells #[] 91) w.heap.size (by simp)).trans (wnq w x.obj)
 have C:((w.alloc x.obj).alloc (.cells #[] 91)).ownsRow (w.heap.size+1) 91 6 (.slice (some ⟨w.heap.size+1,0,none⟩) 0 0) 0 (fG []):=by
  simpa[fG]using World.ownsRow_lit (base:=w.heap.size+1) (e:=91) (size:=6) (w.alloc x.obj) #[] 0 (by simp) (nz _) rfl
 have xb:((w.alloc x.obj).alloc (.cells #[] 91)).heap.size=w.heap.size+2:=by simp
 obtain⟨T,hT⟩:∃T,T=bL x A z d:=⟨_,rfl⟩;rw[←hT];obtain⟨v1,h1⟩:∃v,fQ A 0 ((x.wl.length:Int)-1)=v:=⟨_,rfl⟩;obtain⟨v2,h2⟩:∃v,fQ z 0 ((x.ll.length:Int)-1)=v:=⟨_,rfl⟩;obtain⟨v3,h3⟩:∃v,iN x d=v:=⟨_,rfl⟩;have HT:Hid (T=if v1&&(v2&&v3)then qM x (D3 x.wl A.toNat).l (OF x.ll z.toNat) d else[]):=by rw[Hid,hT,bL,←JY,←JY,h1,h2,h3]
 have H1:Hid _:=h1;have H2:Hid _:=h2;have H3:Hid _:=h3;clear hT h1 h2 h3;refine cow Tryz.func56 rfl trivial ?_ rfl;simp only[Tryz.ntmps56,lsz,llc,lln,Nat.reduceAdd,Nat.reduceSub,ars,arz,lpt,lap,lna,lca];gi_wp2_with fail
 refine⟨trivial,?_⟩;obtain⟨W0,yv⟩:∃W0,(w.alloc x.obj).alloc (.cells #[] 91)=W0:=⟨_,rfl⟩;rw[yv]at P hO C xb ⊢;clear yv;have J:Hid (aN W0 w.heap.size (.slice (some ⟨w.heap.size+1,0,none⟩) 0 0) []):=(aN.of_owns (l:=[]) C).weak (by omega);obtain⟨k0,k1,k2,k3,k4,k5,k6,k7⟩:=gT hO;have HO:Hid _:=hO;clear hO;refine(cw.2 (bO A 0 ((x.wl.length:Int)-1) v1 H1.out _)).mono ?_;rintro e w1 ⟨rfl,rfl⟩
 cases v1 with
 |false=>
  gi_wp2_with fail
  refine⟨trivial,?_⟩;gi_wp2_with fail
  refine⟨trivial,?_⟩;gi_wp2;go_ret;exact⟨⟨_,rfl,by rw[HT.out];exact J.out⟩,P⟩
 |true=>
 gi_wp2_with fail
 refine⟨trivial,?_⟩;refine(cw.2 (bO z 0 ((x.ll.length:Int)-1) v2 H2.out _)).mono ?_;rintro e w1 ⟨rfl,rfl⟩
 cases v2 with
 |false=>
  gi_wp2_with fail
  refine⟨trivial,?_⟩;gi_wp2;go_ret;exact⟨⟨_,rfl,by rw[HT.out];exact J.out⟩,P⟩
 |true=>
 gi_wp2_with fail
 refine⟨trivial,?_⟩;refine(cw.2 (PZ x d w1)).mono ?_;rintro e w2 ⟨rfl,L⟩;rw[H3.out];have zf:=(L.block _ (cE HO.out)).trans HO.out;have X:=aE P L;have U:=uE C L;have O:Hid (aN w2 w.heap.size (.slice (some ⟨w.heap.size+1,0,none⟩) 0 0) []):=aN.zL J.out L;have hs2:=L.size;clear HO J P L C k0 k1 k2 k3 k4 k5 k6 k7
 cases v3 with
 |false=>
  gi_wp2;go_ret;exact⟨⟨_,rfl,by rw[HT.out];exact O.out⟩,X⟩
 |true=>
 have xh:Hid (x.Small/\0<=d/\d<=300):=KR H3.out;obtain⟨⟨q1,q2,s1,s2,f1,f2,b1,b2⟩,t1,t2⟩:=xh.out;obtain⟨hw0,hw1⟩:0<=A/\A<=(x.wl.length:Int)-1:=by simpa[fQ]using H1.out
 obtain⟨hl0,hl1⟩:0<=z/\z<=(x.ll.length:Int)-1:=by simpa[fQ]using H2.out
 obtain⟨B,xr⟩:∃B:Nat,A=(B:Int):=⟨A.toNat,by omega⟩;obtain⟨D,xp⟩:∃D:Nat,z=(D:Int):=⟨z.toNat,by omega⟩;subst xr;subst xp;have N:B<x.wl.length:=by omega
 have za:D<x.ll.length:=by omega
 have i1:(B:Int)<(x.wl.length:Int):=by omega
 have i2:(D:Int)<(x.ll.length:Int):=by omega
 rcases hi.ws with h|⟨wb,woff,xc,xd⟩
 ·rw[h]at N;simp at N
 rcases hi.ls with h|⟨lb,loff,yy,yz⟩
 ·rw[h]at za;simp at za
 have c7:=RI ((xd B N).zL X);have zj:=hi.yn x.wl[B] (lgm N);have xe:=xt x.wl[B] (lgm N);have Q:=yz D za;have HY:Hid (D3 x.wl (B:Int).toNat=x.wl[B]):=by rw[Hid,Int.toNat_natCast,zU _ _ N]
 have HL:Hid (OF x.ll (D:Int).toNat=x.ll[D]):=by rw[Hid,Int.toNat_natCast,RA _ _ za]
 rw[Nat.mul_one]at c7 Q;generalize x.wl[B]=y at c7 zj xe HY;generalize x.ll[D]=lv at Q HL;have zc:Hid (T=qM x y.l lv d):=by rw[Hid,HT.out,HY.out,HL.out];rfl
 obtain⟨xx,r,yc⟩:=y;simp only at c7 xe zc;have xs:Xs 2 Cx.cells w xx r:=zj;have k6:w2.cell? ⟨w.heap.size,6,none⟩=some (.slice (some ⟨wb,woff,none⟩) x.wl.length x.wc):=by rw[←xc];exact aB zf rfl
 have xf:Hid _:=yy;have zn:Hid _:=zf;clear xd yz HT H1 H2 H3 HY HL zj xc yy zf;obtain⟨M,hM⟩:∃M:Nat,M=min r.length 40:=⟨_,rfl⟩;gi_wp2
 gi_loopw [9,12] (λv i wr=>∃k:Nat,k<=M/\i=.int .i64 k/\wr.ownsRow (w.heap.size+1) 91 6 v k (fG (cS (mL x r lv d) k))/\Below w.heap.size w wr/\w.heap.size+2<=wr.heap.size/\wr.heap[w.heap.size]?=some x.obj) (λ_ i _=>M-(intOf i).toNat)
 case atStart=>exact⟨0,nz _,rfl,U,X,by omega,zn.out⟩
 case round=>
  clear c7 k6 zn U X O;obtain⟨k,hk,rfl,S,hN,hwz,F⟩:=hrel
  by_cases hlt:k<M
  ·have Z:k<r.length:=by omega
   have hk40:k<40:=by omega
   rcases xs with h|⟨bl,off,rfl,hc⟩
   ·subst h;simp at Z
   have zg:=(hc k Z).zL hN;have zh:lW r k=r[k]:=jW r k Z;obtain⟨c,yw⟩:∃c,c=r[k]:=⟨_,rfl⟩;rw[←yw]at zg zh;have HC:Hid (lW r k=c):=zh;clear yw zh hc;obtain⟨c0,c1⟩:=qN zg;clear zg;have z12:=RM (Q.zL hN);have g1:(k:Int)<(r.length:Int):=by omega
   have g0:(0:Int)<=(k:Int):=by omega
   have g2:(k:Int)<40:=by omega
   have d1:decide ((k:Int)<(r.length:Int))=true:=by simp;omega
   have k1:wr.cell? ⟨w.heap.size,1,none⟩=some (.int .i64 x.q):=aB F rfl;have k2:wr.cell? ⟨w.heap.size,2,none⟩=some (.int .i64 x.s):=aB F rfl;have k3:wr.cell? ⟨w.heap.size,3,none⟩=some (.int .i64 x.f):=aB F rfl;have k4:wr.cell? ⟨w.heap.size,4,none⟩=some (.int .i64 x.b):=aB F rfl;have k7:wr.cell? ⟨w.heap.size,7,none⟩=some (.slice (some ⟨lb,loff,none⟩) x.ll.length x.lc):=by rw[←xf.out];exact aB F rfl
   have xg:Hid _:=F;clear F;have e1:0<=(k:Int)*x.q:=Int.mul_nonneg (by omega) (by omega);have e2:(k:Int)*x.q<=40*50:=Int.mul_le_mul (by omega) q2 (by omega) (by omega);have e3:0<=((k:Int)+1)*x.s:=Int.mul_nonneg (by omega) (by omega);have e4:((k:Int)+1)*x.s<=40*50:=Int.mul_le_mul (by omega) s2 (by omega) (by omega);obtain⟨m,zi⟩:∃h,h=zB k r.length lv:=⟨_,rfl⟩;have HH:Hid (m=zB k r.length lv):=zi;gi_wp2_with fail
   refine⟨trivial,?_⟩;refine(cw.2 (AX k r.length lv wr (by omega) (by omega) (by omega) (by omega))).mono ?_;rintro e w3 ⟨rfl,rfl⟩;rw[←zi];clear zi
   by_cases yx:0<k
   case' pos=>
    have gk:decide (0<(k:Int))=true:=by simp;omega
    obtain⟨t,G⟩:∃h,h=zB ((k:Int)-1) r.length lv:=⟨_,rfl⟩;have zl:Hid (t=if k=0 then m else zB ((k:Int)-1) r.length lv):=by rw[Hid,G,if_neg (by omega)]
    gi_wp2_with fail
    refine⟨trivial,?_⟩;refine(cw.2 (AX ((k:Int)-1) r.length lv _ (by omega) (by omega) (by omega) (by omega))).mono ?_;rintro e w3 ⟨rfl,rfl⟩;rw[←G];have zk:Hid (t=t):=rfl;clear G yx gk;gi_wp2_with fail
   case' neg=>
    have gk:decide (0<(k:Int))=false:=by simp;omega
    have xi:decide (0<k)=false:=by simp;omega
    obtain⟨t,G⟩:∃h,h=m:=⟨_,rfl⟩;have zl:Hid (t=if k=0 then m else zB ((k:Int)-1) r.length lv):=by rw[Hid,if_pos (by omega)];exact G
    have zk:Hid (t=m):=G;clear G;gi_wp2_with fail
    clear yx gk xi
   all_goals
    first
    |refine oG (by kernel_rfl) 39 rfl (λa=>{ tmps:=#[x.val,.int .i64 (B:Int),.int .i64 (D:Int),.int .i64 d,.pointer (some ⟨w.heap.size,0,none⟩),undef,undef,undef,.slice none 0 0,u9,.slice (some (Y bl off)) r.length yc,.int .i64 (r.length:Int),.int .i64 (k:Int),.int .i64 m,.int .i64 t,.slice (some ⟨w.heap.size+1,0,none⟩) 0 0,.int .i64 (B:Int),.pointer (some ⟨w.heap.size,6,none⟩),.slice x.wa x.wl.length x.wc,.int .i64 (x.wl.length:Int),.int .i64 ((x.wl.length:Int)-1),.bool true,.bool false,.bool false,.int .i64 (D:Int),.pointer (some ⟨w.heap.size,7,none⟩),.slice x.la x.ll.length x.lc,.int .i64 (x.ll.length:Int),.int .i64 ((x.ll.length:Int)-1),.bool true,.bool false,.bool false,.bool false,.agg #[.string x.n,I x.q,I x.s,I x.f,I x.b,I x.l,.slice x.wa x.wl.length x.wc,.slice x.la x.ll.length x.lc],.int .i64 d,.bool true,.bool false,.bool false,undef,.pointer (some ⟨w.heap.size,6,none⟩),.slice (some ⟨wb,woff,none⟩) x.wl.length x.wc,.int .i64 (B:Int),.pointer (some ⟨wb,woff+B,none⟩),.pointer (some ⟨wb,woff+B,none⟩),.slice (some (Y bl off)) r.length yc,.slice (some (Y bl off)) r.length yc,.int .i64 (r.length:Int),.int .i64 (k:Int),.int .i64 (r.length:Int),.bool true,.bool true,.int .i64 (k:Int),.bool true,.bool true,u54,u55,.int .i64 (k:Int),.int .i64 (r.length:Int),.pointer (some ⟨w.heap.size,7,none⟩),.slice (some ⟨lb,loff,none⟩) x.ll.length x.lc,.int .i64 (D:Int),.pointer (some ⟨lb,loff+D,none⟩),.int .i64 lv,.int .i64 m,.int .i64 m,.int .i64 (k:Int),.bool true,.int .i64 (k:Int),.int .i64 ((k:Int)-1),.int .i64 (r.length:Int),.pointer (some ⟨w.heap.size,7,none⟩),.slice (some ⟨lb,loff,none⟩) x.ll.length x.lc,.int .i64 (D:Int),.pointer (some ⟨lb,loff+D,none⟩),.int .i64 lv,.int .i64 t,a 0,a 1,a 2,a 3,a 4,a 5,a 6,a 7,a 8,a 9,a 10,a 11,a 12,a 13,a 14,a 15,a 16,a 17,a 18,a 19,a 20,a 21,a 22,a 23,a 24,a 25,a 26,a 27,a 28,a 29,a 30,a 31,a 32,a 33,a 34,a 35,a 36,a 37,a 38,u115,undef],defers:=[]}) (λj=>(#[u76,u77,u78,u79,u80,u81,u82,u83,u84,u85,u86,u87,u88,u89,u90,u91,u92,u93,u94,u95,u96,u97,u98,u99,u100,u101,u102,u103,u104,u105,u106,u107,u108,u109,u110,u111,u112,u113,u114]:Array Value).getD j undef) (SPr u9 bl off r.length yc k c m t x d w.heap.size w3.heap.size) SPr.zL (qG (by kernel_rfl)) (by kernel_rfl) (by kernel_rfl) ?step ?fin
    |refine oG (by kernel_rfl) 39 rfl (λa=>{ tmps:=#[x.val,.int .i64 (B:Int),.int .i64 (D:Int),.int .i64 d,.pointer (some ⟨w.heap.size,0,none⟩),undef,undef,undef,.slice none 0 0,u9,.slice (some (Y bl off)) r.length yc,.int .i64 (r.length:Int),.int .i64 (k:Int),.int .i64 m,.int .i64 m,.slice (some ⟨w.heap.size+1,0,none⟩) 0 0,.int .i64 (B:Int),.pointer (some ⟨w.heap.size,6,none⟩),.slice x.wa x.wl.length x.wc,.int .i64 (x.wl.length:Int),.int .i64 ((x.wl.length:Int)-1),.bool true,.bool false,.bool false,.int .i64 (D:Int),.pointer (some ⟨w.heap.size,7,none⟩),.slice x.la x.ll.length x.lc,.int .i64 (x.ll.length:Int),.int .i64 ((x.ll.length:Int)-1),.bool true,.bool false,.bool false,.bool false,.agg #[.string x.n,I x.q,I x.s,I x.f,I x.b,I x.l,.slice x.wa x.wl.length x.wc,.slice x.la x.ll.length x.lc],.int .i64 d,.bool true,.bool false,.bool false,undef,.pointer (some ⟨w.heap.size,6,none⟩),.slice (some ⟨wb,woff,none⟩) x.wl.length x.wc,.int .i64 (B:Int),.pointer (some ⟨wb,woff+B,none⟩),.pointer (some ⟨wb,woff+B,none⟩),.slice (some (Y bl off)) r.length yc,.slice (some (Y bl off)) r.length yc,.int .i64 (r.length:Int),.int .i64 (k:Int),.int .i64 (r.length:Int),.bool true,.bool true,.int .i64 (k:Int),.bool true,.bool true,u54,u55,.int .i64 (k:Int),.int .i64 (r.length:Int),.pointer (some ⟨w.heap.size,7,none⟩),.slice (some ⟨lb,loff,none⟩) x.ll.length x.lc,.int .i64 (D:Int),.pointer (some ⟨lb,loff+D,none⟩),.int .i64 lv,.int .i64 m,.int .i64 m,.int .i64 (k:Int),.bool false,u67,u68,u69,u70,u71,u72,u73,u74,u75,a 0,a 1,a 2,a 3,a 4,a 5,a 6,a 7,a 8,a 9,a 10,a 11,a 12,a 13,a 14,a 15,a 16,a 17,a 18,a 19,a 20,a 21,a 22,a 23,a 24,a 25,a 26,a 27,a 28,a 29,a 30,a 31,a 32,a 33,a 34,a 35,a 36,a 37,a 38,u115,undef],defers:=[]}) (λj=>(#[u76,u77,u78,u79,u80,u81,u82,u83,u84,u85,u86,u87,u88,u89,u90,u91,u92,u93,u94,u95,u96,u97,u98,u99,u100,u101,u102,u103,u104,u105,u106,u107,u108,u109,u110,u111,u112,u113,u114]:Array Value).getD j undef) (SPr u9 bl off r.length yc k c m t x d w.heap.size w3.heap.size) SPr.zL (qG (by kernel_rfl)) (by kernel_rfl) (by kernel_rfl) ?step ?fin
    case step=>
     intro i o a w' hi p K u;have mc0:=(K.cell (aA c0)).trans c0;have mc1:=(K.cell (aA c1)).trans c1;have mk1:=(K.cell (aA k1)).trans k1;have mk2:=(K.cell (aA k2)).trans k2;have mk3:=(K.cell (aA k3)).trans k3;have mk4:=(K.cell (aA k4)).trans k4
     match i,hi with
     |0,_|1,_|2,_|6,_|7,_|12,_|15,_|17,_|19,_|21,_|22,_|26,_|28,_|30,_|32,_=>
      simp at p;subst p;gi_wp2;exact⟨_,by simp[aH],rfl,br _ _⟩
     |3,_=>
      simp at p;subst p;have d1:a 1=_:=Zq u 1;have d2:a 2=_:=Zq u 2;rw[d1,d2];gi_wp2;exact⟨_,by simp[aH,d1,d2],rfl,br _ _⟩
     |4,_=>
      simp at p;subst p;have d3:a 3=_:=Zq u 3;rw[d3];gi_wp2;exact⟨_,by simp[aH,d3],rfl,br _ _⟩
     |5,_=>
      simp at p;subst p;have d4:a 4=_:=Zq u 4;rw[d4];gi_wp2;exact⟨_,by simp[aH,d4],rfl,br _ _⟩
     |8,_=>
      simp at p;subst p;have d6:a 6=_:=Zq u 6;have d7:a 7=_:=Zq u 7;rw[d6,d7];gi_wp2;exact⟨_,by simp[aH,d6,d7],rfl,br _ _⟩
     |9,_=>
      simp at p;subst p;have d8:a 8=_:=Zq u 8;rw[d8];gi_wp2;exact⟨_,by simp[aH,d8],rfl,br _ _⟩
     |10,_=>
      simp at p;subst p;have d9:a 9=_:=Zq u 9;rw[d9];gi_wp2;exact⟨_,by simp[aH,d9],rfl,br _ _⟩
     |11,_|14,_=>
      simp at p;subst p;gi_wp2;refine⟨.int .i64 t,?_,rfl,br _ _⟩
      simp[aH]
      try exact zk.out.symm
     |13,_=>
      simp at p;subst p;have zq:a 11=_:=Zq u 11;have zr:a 12=_:=Zq u 12;rw[zq,zr];gi_wp2_with fail
      refine⟨trivial,?_⟩;refine(cw.2 (CT _ _ w')).mono ?_;rintro e w4 ⟨rfl,rfl⟩;gi_wp2;exact⟨_,by simp[aH,zq,zr],rfl,br _ _⟩
     |16,_=>
      simp at p;subst p;have zt:a 14=_:=Zq u 14;have zu:a 15=_:=Zq u 15;rw[zt,zu];gi_wp2_with fail
      refine⟨trivial,?_⟩;refine(cw.2 (WW _ _ w')).mono ?_;rintro e w4 ⟨rfl,rfl⟩;gi_wp2;exact⟨_,by simp[aH,zt,zu],rfl,br _ _⟩
     |18,_=>
      simp at p;subst p;have zw:a 17=_:=Zq u 17;rw[zw];gi_wp2;exact⟨_,by simp[aH,zw],rfl,br _ _⟩
     |20,_=>
      simp at p;subst p;have zx:a 18=_:=Zq u 18;have zy:a 19=_:=Zq u 19;rw[zx,zy];gi_wp2;exact⟨_,by simp[aH,zx,zy],rfl,br _ _⟩
     |23,_=>
      simp at p;subst p;have yd:a 22=_:=Zq u 22;rw[yd];gi_wp2;exact⟨_,by simp[aH,yd],rfl,br _ _⟩
     |24,_=>
      simp at p;subst p;have yb:a 21=_:=Zq u 21;have ye:a 23=_:=Zq u 23;rw[yb,ye];gi_wp2;exact⟨_,by simp[aH,yb,ye],rfl,br _ _⟩
     |25,_=>
      simp at p;subst p;have zz:a 20=_:=Zq u 20;have yf:a 24=_:=Zq u 24;rw[zz,yf];gi_wp2;exact⟨_,by simp[aH,zz,yf],rfl,br _ _⟩
     |27,_=>
      simp at p;subst p;have yh:a 26=_:=Zq u 26;rw[yh];gi_wp2;exact⟨_,by simp[aH,yh],rfl,br _ _⟩
     |29,_=>
      simp at p;subst p;have yi:a 27=_:=Zq u 27;have yj:a 28=_:=Zq u 28;rw[yi,yj];gi_wp2;exact⟨_,by simp[aH,yi,yj],rfl,br _ _⟩
     |31,_=>
      simp at p;subst p;have ym:a 30=_:=Zq u 30;rw[ym];gi_wp2;exact⟨_,by simp[aH,ym],rfl,br _ _⟩
     |33,_=>
      simp at p;subst p;have yp:a 32=_:=Zq u 32;rw[yp];gi_wp2;exact⟨_,by simp[aH,yp],rfl,br _ _⟩
     |34,_=>
      simp at p;subst p;have yo:a 31=_:=Zq u 31;have yq:a 33=_:=Zq u 33;rw[yo,yq];gi_wp2;exact⟨_,by simp[aH,yo,yq],rfl,br _ _⟩
     |35,_=>
      simp at p;subst p;have yk:a 29=_:=Zq u 29;have yr:a 34=_:=Zq u 34;rw[yk,yr];gi_wp2;exact⟨_,by simp[aH,yk,yr],rfl,br _ _⟩
     |36,_=>
      simp at p;subst p;have ys:a 35=_:=Zq u 35;rw[ys];gi_wp2;exact⟨_,by simp[aH,ys],rfl,br _ _⟩
     |37,_=>
      simp at p;subst p;have d5:a 5=_:=Zq u 5;have zp:a 10=_:=Zq u 10;have zs:a 13=_:=Zq u 13;have zv:a 16=_:=Zq u 16;have yg:a 25=_:=Zq u 25;have yt:a 36=_:=Zq u 36;rw[d5,zp,zs,zv,yg,yt];gi_wp2;exact⟨_,by simp[aH,d5,zp,zs,zv,yg,yt],rfl,br _ _⟩
     |38,_=>
      simp at p;subst p;have yu:a 37=_:=Zq u 37;rw[yu];gi_wp2;exact⟨_,by simp[aH,yu],⟨_,rfl,K.size,ZA w' ⟨c.x,c.y,min t m,max t m,x.f+d+(k:Int)*x.q,x.b+d+((k:Int)+1)*x.s-1⟩ _⟩,aC (br _ _) _⟩
     |j+39,h=>exact absurd h (by omega)
    case fin=>
     intro o o' a w' p xa K hp;simp at p xa;subst p;subst xa;have d0:a 0=_:=hp 0 (by decide);obtain⟨g,zd,hgm,xl⟩:=hp 38 (by decide);have H:=uE S K;have ze:=aE hN K;refine wpListIn_append_own w' rfl (.tmp 76) (.tmp 114) 41 rfl (w.heap.size+1) 91 i0 _ 6 48 Tryz.underlying41 xm xu xv xw rfl (by decide) u9 k _ (by show a 0=_;exact d0) H ⟨g,0,none⟩ 1 1 (aR ⟨c.x,c.y,min t m,max t m,x.f+d+(k:Int)*x.q,x.b+d+((k:Int)+1)*x.s-1⟩) (by show a 38=_;exact zd) rfl (XZ xl) (m9 _) (by unfold maxLen;omega) (by omega) (by have:=ze.size;have:=K.size;omega) ?_;intro v' w4 V R _;have zb:mL x r lv d k=⟨c.x,c.y,min t m,max t m,x.f+d+(k:Int)*x.q,x.b+d+((k:Int)+1)*x.s-1⟩:=rJ x r lv d k c HC.out t m _ _ _ _ HH.out zl.out rfl rfl rfl rfl
     have HR:Hid (w4.ownsRow (w.heap.size+1) 91 6 v' (k+1) (fG (cS (mL x r lv d) (k+1)))):=by
      rw[Hid,eQ,jV,zb];exact V
     have W:Below (w.heap.size+1) w' w4:=(br _ _).grown R (by have:=ze.size;have:=K.size;omega) (λq hq=>eH H hq);have xk:w4.heap[w.heap.size]?=some x.obj:=(W.block _ (by omega)).trans ((K.block _ (by omega)).trans xg.out);have xj:Below w.heap.size w w4:=ze.trans (W.mono (by omega));have xq:w.heap.size+2<=w4.heap.size:=by have:=W.size;have:=K.size;omega
     rw[d0,zd];clear hp V R W zb H d0 zd;generalize a=a;gi_wp2
     go_roundw
     case rel=>exact⟨k+1,by omega,by go_num,HR.out,xj,xq,xk⟩
     case measure=>simp[intOf];omega
  ·have xn:k=min r.length 40:=by omega
   have zm:Hid _:=xn
   by_cases Z:k<r.length
   ·have d1:decide ((k:Int)<(r.length:Int))=true:=by simp;omega
    have g1:(k:Int)<(r.length:Int):=by omega
    have g2:¬(k:Int)<40:=by omega
    have d2:decide ((k:Int)<40)=false:=by simp;omega
    gi_wp2;go_ret;exact⟨⟨_,rfl,by rw[zc.out,nM,←zm.out];exact(aN.of_owns (by rw[eT];exact S)).weak (by omega)⟩,hN⟩
   ·have d1:decide ((k:Int)<(r.length:Int))=false:=by simp;omega
    have g1:¬(k:Int)<(r.length:Int):=by omega
    gi_wp2;go_ret;exact⟨⟨_,rfl,by rw[zc.out,nM,←zm.out];exact(aN.of_owns (by rw[eT];exact S)).weak (by omega)⟩,hN⟩
