import Derived.RangeFuncBox
import Derived.Test.YtcdbcliaepcpfaaGreatDoorWi
import Derived.Test.YtcdbcliaepcpfaaGreatDoorAny
import Derived.OwnWalkIn
namespace Go.Proofs.YtcdbcliaepcpfaaGreatDoor
set_option maxRecDepth 100000
set_option maxHeartbeats 4000000
open Go.RowKit Go.Shelf
attribute [local go_sem] Oper.semAt_some
theorem LR (n a:Nat)(b:Option Addr)(i:Int)(w:World):
 aY 198 #[.slice b n a,.int .i64 i] w λe w'=>e=.returned (.bool (l8 n i))/\w'=w:=by
 go_enter Tryz.func198,Tryz.ntmps198
 go_wp2
 all_goals go_ret
 all_goals refine⟨aD ?_,rfl⟩
 all_goals (rw[Bool.eq_iff_iff];simp only[l8,dte,Bool.false_eq_true,false_iff];omega)
theorem K9 (n a:Nat)(b:Option Addr)(i:Int)(w:World):
 aY 199 #[.slice b n a,.int .i64 i] w λe w'=>e=.returned (.bool (l8 n i))/\w'=w:=by
 go_enter Tryz.func199,Tryz.ntmps199
 go_wp2
 all_goals go_ret
 all_goals refine⟨aD ?_,rfl⟩
 all_goals (rw[Bool.eq_iff_iff];simp only[l8,dte,Bool.false_eq_true,false_iff];omega)
theorem SB (q s f b:Int)(k:Nat)(hk:k<40)(hq1:1<=q)(a:q<=50)(hs1:1<=s)(c:s<=50)(hf1:0<=f)(hf2:f<=10000)(hb1:0<=b)(hb2:b<=10000)(w:World):
 aY 242 #[RO q s f b,.int .i64 (k:Int)] w λe w'=>e=.returned (VP (f+k*q) (b+((k:Int)+1)*s-1))/\aF w w':=by
 have e1:0<=(k:Int)*q:=Int.mul_nonneg (by omega) (by omega);have e2:(k:Int)*q<=40*50:=Int.mul_le_mul (by omega) a (by omega) (by omega);have e3:0<=((k:Int)+1)*s:=Int.mul_nonneg (by omega) (by omega);have e4:((k:Int)+1)*s<=40*50:=Int.mul_le_mul (by omega) c (by omega) (by omega);go_enter Tryz.func242,Tryz.ntmps242;go_wp2;refine bpr (v:=VP (f+k*q) (b+((k:Int)+1)*s-1)) ?_ rfl ⟨rfl,aB (aB (br _ _) _) _⟩;simp[results,Tryz.results242,go_sem]
abbrev VJ (q s f b:Int)(ao:Option Addr)(n cap:Nat)(lev:Int):Value:=.agg #[.int .i64 q,.int .i64 s,.int .i64 f,.int .i64 b,.slice ao n cap,.int .i64 lev]
abbrev wN (q s f b:Int)(ao:Option Addr)(n cap:Nat)(lev:Int):Obj:=.cells #[.int .i64 q,.int .i64 s,.int .i64 f,.int .i64 b,.slice ao n cap,.int .i64 lev] 233
theorem T9 (L U D:Nat)(b u d:Int)(w:World)(hL:w.cell? ⟨L,5,none⟩=some (.int .i64 b))(f:Boxed w U 3 (.int .i64 u))(c:Boxed w D 3 (.int .i64 d))(g:U≠D)(hu1:0<=u)(hu2:u<=1048576)(hd1:-1<=d)(hd2:d<=1048576):
 aY 264 #[.pointer (some ⟨L,0,none⟩),.pointer (some ⟨U,0,none⟩),.pointer (some ⟨D,0,none⟩)] w λe w'=>e=.returned (.int .i64 (min b (min u d)))/\w'=(w.setCell ⟨U,0,none⟩ (.int .i64 (u+1))).setCell ⟨D,0,none⟩ (.int .i64 (d-1)):=by
 have cU:=f.cell;have fU:=f.frozen;have cD:=c.cell;have fD:=c.frozen;have hU2:=f.set (.int .i64 (u+1));have a:=c.other g.symm (.int .i64 (u+1));have cD2:=a.cell;have fD2:=a.frozen
 go_enter Tryz.func264,Tryz.ntmps264
 go_wp2
 all_goals go_ret
 all_goals exact⟨oO (by omega),rfl⟩
def JO (s:Value)(L n z:Nat)(j:Nat)(vs:Nat->Value)(w:World):Prop:=
 match j with
 |0=>vs 0=.pointer (some ⟨L,4,none⟩)
 |1=>vs 1=s
 |2=>vs 2=.int .i64 (n:Int)
 |3=>vs 3=.int .i64 ((n:Int)-1)
 |4=>vs 4≠vs 5/\∃p v,vs 4=.pointer (some ⟨p,0,none⟩)/\z<=p/\Boxed w p 3 v
 |5=>vs 4≠vs 5/\∃p v,vs 5=.pointer (some ⟨p,0,none⟩)/\z<=p/\Boxed w p 3 v
 |6=>∃p,vs 4=.pointer (some ⟨p,0,none⟩)/\Boxed w p 3 (.int .i64 0)
 |7=>∃p,vs 5=.pointer (some ⟨p,0,none⟩)/\Boxed w p 3 (.int .i64 ((n:Int)-1))
 |_=>True
theorem JO.upd {s:Value}{L n z:Nat}{j i:Nat}{a:Nat->Value}{w:World}(h:JO s L n z j a w)(d:j≠i)(c:i≠4)(b:i≠5)(v:Value):JO s L n z j (aH a i v) w:=by
 have e9:Go.Proofs.YtcdbcliaepcpfaaGreatDoor.aH a i v 4=a 4:=by unfold Go.Proofs.YtcdbcliaepcpfaaGreatDoor.aH;rw[if_neg (Ne.symm c)]
 have e10:Go.Proofs.YtcdbcliaepcpfaaGreatDoor.aH a i v 5=a 5:=by unfold Go.Proofs.YtcdbcliaepcpfaaGreatDoor.aH;rw[if_neg (Ne.symm b)]
 have ej:Go.Proofs.YtcdbcliaepcpfaaGreatDoor.aH a i v j=a j:=by unfold Go.Proofs.YtcdbcliaepcpfaaGreatDoor.aH;rw[if_neg d]
 unfold JO at h ⊢;split<;>simp_all
theorem JO.zL {s:Value}{L n z:Nat}{j:Nat}{b:Nat->Value}{w w':World}(h:JO s L n z j b w)(c:aF w w'):JO s L n z j b w':=by
 have a:∀{p:Nat} {v:Value},Boxed w p 3 v->Boxed w' p 3 v:=λh=>(c.block _ h.lt).trans h;unfold JO at h ⊢;split
 all_goals first
  |exact h
  |exact⟨h.1,by obtain⟨p,v,e,g,f⟩:=h.2;exact⟨p,v,e,g,a f⟩⟩
  |(obtain⟨p,e,d⟩:=h;exact⟨p,e,a d⟩)
  |trivial
theorem JO.turn {s:Value}{L n z:Nat}{j:Nat}{b:Nat->Value}{w w':World}{q:Nat}(h:JO s L n z j b w)(o:∃ v,Boxed w' q 3 v)(i:∀ p,p≠q->w'.heap[p]?=w.heap[p]?)
 (c:j=6->b 4≠.pointer (some ⟨q,0,none⟩))(d:j=7->b 5≠.pointer (some ⟨q,0,none⟩)):JO s L n z j b w':=by
 unfold JO at h ⊢
 split
 all_goals first
  | exact h
  | (obtain ⟨l,p,v,e,k,f⟩:=h
     refine ⟨l,p,?_⟩
     by_cases a:p=q
     · subst a;obtain ⟨r,g⟩:=o;exact ⟨r,e,k,g⟩
     · exact ⟨v,e,k,(i _ a).trans f⟩)
  | (obtain ⟨p,e,m⟩:=h
     refine ⟨p,e,(i p ?_).trans m⟩;intro a;subst a
     first | exact c rfl e | exact d rfl e)
  | trivial
theorem R6 (n:Nat) (q s f b:Int) (J:Option Addr) (m k:Nat) (hm:m<=1048576) (t:Int) (w:World):
 CallsIn Fence.wide n Tryz.prog 241 #[VJ q s f b J m k t] w fun e w'=>(∃ U D,e=.returned (.func (.func 264) #[] #[.pointer (some ⟨w.heap.size,0,none⟩),.pointer (some ⟨U,0,none⟩),.pointer (some ⟨D,0,none⟩)])/\U≠D/\w.heap.size<U/\w.heap.size<D/\w'.heap[w.heap.size]?=some (wN q s f b J m k t)/\Boxed w' U 3 (.int .i64 0)/\Boxed w' D 3 (.int .i64 ((m:Int)-1)))/\aF w w':=by
 have V:aF w (w.alloc (wN q s f b J m k t)):=aB (br _ _) _;have W:=wnq w (wN q s f b J m k t);refine callsIn_of_wp Tryz.func241 rfl trivial ?_ rfl;simp only[Tryz.ntmps241,lsz,llc,lln,Nat.reduceAdd,Nat.reduceSub,ars,arz,lpt,lap,lna,lca];gi_wp2_with fail
 have T:(w.alloc (wN q s f b J m k t)).heap.size=w.heap.size+1:=by simp
 obtain⟨W0,X⟩:=cK (w.alloc (wN q s f b J m k t));rw[X]at V W T ⊢;have za:Hid _:=T;clear X T
 refine nH (by kernel_rfl) (fun j=>{ tmps:=#[VJ q s f b J m k t,.pointer (some ⟨w.heap.size,0,none⟩),Value.nilFunc,j 4,j 5,j 0,j 1,j 2,j 3,undef],defers:=[]}) (fun _=>undef)
  (JO (.slice J m k) w.heap.size m W0.heap.size) (o5 (by kernel_rfl)) ?step ?fin
 case step=>
  intro D i o j w' g Y L l y u c;have K:=(u.block _ (bU W)).trans W;have hi:i<8:=(lgs.1 l).1
  match i,hi with
  | 0,_=>
   simp at l;subst l;gi_wp2;refine dE.mk' (.pointer (some ⟨w.heap.size,4,none⟩)) (by simp[aH]) u rfl (fun a ha=>(c a ha).upd (i:=0) (fun e=>g (by rw[← e];exact ha)) (by omega) (by omega) _)
  | 1,_=>
   simp at l;subst l;have d0:j 0=_:=c 0 (Zq y 0);rw[d0];have k4:w'.cell? ⟨w.heap.size,4,none⟩=some (.slice J m k):=aJ K rfl;gi_wp2;refine dE.mk' (.slice J m k) (by simp[aH,d0]) u rfl (fun a ha=>(c a ha).upd (i:=1) (fun e=>g (by rw[← e];exact ha)) (by omega) (by omega) _)
  | 2,_=>
   simp at l;subst l;have d1:j 1=_:=c 1 (Zq y 1);rw[d1];gi_wp2;refine dE.mk' (.int .i64 (m:Int)) (by simp[aH,d1]) u rfl (fun a ha=>(c a ha).upd (i:=2) (fun e=>g (by rw[← e];exact ha)) (by omega) (by omega) _)
  | 3,_=>
   simp at l;subst l;have d2:j 2=_:=c 2 (Zq y 2);rw[d2];gi_wp2;refine dE.mk' (.int .i64 ((m:Int)-1)) (by simp[aH,d2]) u rfl (fun a ha=>(c a ha).upd (i:=3) (fun e=>g (by rw[← e];exact ha)) (by omega) (by omega) _)
  | 4,_=>
   simp at l;subst l;gi_wp2;have F:aF w' (w'.alloc (.cells #[.int .i64 0] 3)):=aB (br _ _) _;have G:Boxed (w'.alloc (.cells #[.int .i64 0] 3)) w'.heap.size 3 (.int .i64 0):=Boxed.new w' _ _;have I:=u.size
   have d:D 5->j 5≠.pointer (some ⟨w'.heap.size,0,none⟩):=fun x e=>by
    obtain⟨_,p,v,z,_,Q⟩:=c 5 x;rw[e]at z;simp at z;have:=Q.lt;omega
   have hu:¬ D 5->j 5=undef:=Y 5
   have H:j 5≠.pointer (some ⟨w'.heap.size,0,none⟩):=by
    by_cases x:D 5
    · exact d x
    · rw[hu x];intro e;cases e
   refine dE.mk' (.pointer (some ⟨w'.heap.size,0,none⟩)) (by simp[aH]) (u.trans (F.mono I)) ?_ (fun a ha=>?_)
   · exact⟨by simp only[aH];simp;exact fun e=>H e.symm,w'.heap.size,_,by simp[aH],I,G⟩
   · have O:=(c a ha).zL F
     have zb:a≠4:=fun e=>g (by rw[← e];exact ha);have P:¬ D 6:=fun x=>g (L 6 _ x rfl (eD 4) (by simp) rfl);unfold JO at O ⊢
     split
     all_goals first
      | (simp only[aH];simp;exact O)
      | exact absurd rfl zb
      | exact absurd ha P
      | (obtain⟨_,p,v,e,S,h⟩:=O
         exact⟨by simp only[aH];simp;exact fun e=>H e.symm,p,v,by simp only[aH];simp;exact e,S,h⟩)
      | trivial
  | 5,_=>
   simp at l;subst l;gi_wp2;have F:aF w' (w'.alloc (.cells #[.int .i64 0] 3)):=aB (br _ _) _;have G:Boxed (w'.alloc (.cells #[.int .i64 0] 3)) w'.heap.size 3 (.int .i64 0):=Boxed.new w' _ _;have I:=u.size
   have d:D 4->j 4≠.pointer (some ⟨w'.heap.size,0,none⟩):=fun x e=>by
    obtain⟨_,p,v,z,_,Q⟩:=c 4 x;rw[e]at z;simp at z;have:=Q.lt;omega
   have hu:¬ D 4->j 4=undef:=Y 4
   have H:j 4≠.pointer (some ⟨w'.heap.size,0,none⟩):=by
    by_cases x:D 4
    · exact d x
    · rw[hu x];intro e;cases e
   refine dE.mk' (.pointer (some ⟨w'.heap.size,0,none⟩)) (by simp[aH]) (u.trans (F.mono I)) ?_ (fun a ha=>?_)
   · exact⟨by simp only[aH];simp;exact H,w'.heap.size,_,by simp[aH],I,G⟩
   · have O:=(c a ha).zL F
     have zc:a≠5:=fun e=>g (by rw[← e];exact ha);have P:¬ D 7:=fun x=>g (L 7 _ x rfl (eD 5) (by simp) rfl);unfold JO at O ⊢
     split
     all_goals first
      | (simp only[aH];simp;exact O)
      | exact absurd rfl zc
      | exact absurd ha P
      | (obtain⟨_,p,v,e,S,h⟩:=O
         exact⟨by simp only[aH];simp;exact H,p,v,by simp only[aH];simp;exact e,S,h⟩)
      | trivial
  | 6,_=>
   simp at l;subst l;obtain⟨d,p,v,E,S,h⟩:=c 4 (Zq y 4);have B:=aG d;have A:=aG E;rw[E];have k0:=h.cell;have fz:=h.frozen;clear d;gi_wp2;have r2:=h.set (.int .i64 0);refine dE.mk' undef (by simp[aH,E]) (u.setCell S _) ?_ (fun a ha=>?_)
   · exact⟨p,by simp only[aH];simp;exact A.oQ,r2⟩
   · refine(JO.turn (c a ha) (q:=p) ⟨_,r2⟩ (fun p' R=>?_) (fun e=>?_) (fun e=>?_)).upd (i:=6) (fun e=>g (by rw[← e];exact ha)) (by omega) (by omega) _
     · exact Below.heap_setCell _ _ _ _ R
     · exact absurd (by rw[← e];exact ha) g
     · intro z;exact B.oQ (A.oQ.trans z.symm)
  | 7,_=>
   simp at l;subst l;have dv:j 3=_:=c 3 (Zq y 3);obtain⟨d,p,v,E,S,h⟩:=c 5 (Zq y 5);have B:=aG d;have A:=aG E;rw[dv,E];have k0:=h.cell;have fz:=h.frozen;clear d;gi_wp2;have r2:=h.set (.int .i64 ((m:Int)-1));refine dE.mk' undef (by simp[aH,dv,E]) (u.setCell S _) ?_ (fun a ha=>?_)
   · exact⟨p,by simp only[aH];simp;exact A.oQ,r2⟩
   · refine(JO.turn (c a ha) (q:=p) ⟨_,r2⟩ (fun p' R=>?_) (fun e=>?_) (fun e=>?_)).upd (i:=7) (fun e=>g (by rw[← e];exact ha)) (by omega) (by omega) _
     · exact Below.heap_setCell _ _ _ _ R
     · intro z;exact B.oQ (z.trans A.oQ.symm)
     · exact absurd (by rw[← e];exact ha) g
 case fin=>
  intro j w' u c;obtain⟨p,E,q0⟩:=c 6 (by decide);obtain⟨r,M,r0⟩:=c 7 (by decide);obtain⟨d,p',_,N,zd,_⟩:=c 4 (by decide);obtain⟨_,r',_,C,Z,_⟩:=c 5 (by decide);have e0:j 0=_:=c 0 (by decide);have e1:j 1=_:=c 1 (by decide);have z:j 2=_:=c 2 (by decide);have e3:j 3=_:=c 3 (by decide);rw[E]at N d;rw[M]at C d;simp at N C;subst N C;rw[e0,e1,z,e3,E,M];have K:=(u.block _ (bU W)).trans W;have HO:Hid _:=K;have hN:=aC V u;rw[za.oQ]at zd Z;have B:Hid (p≠r):=fun e=>d (by rw[e]);clear c e0 e1 z e3 E M d K;gi_wp2;go_ret;exact⟨⟨p,r,rfl,B.oQ,by omega,by omega,HO.oQ,q0,r0⟩,hN⟩
end Go.Proofs.YtcdbcliaepcpfaaGreatDoor
namespace Go.Proofs.YtcdbcliaepcpfaaGreatDoor
set_option maxRecDepth 100000
set_option maxHeartbeats 8000000
open Go.RowKit
theorem nB (x:Wx)(c:List Cx)(b a:Int):pX x c b a=cE (lU x c b a) (min c.length 40):=rfl
theorem qE (x:Wx)(g:List Cx)(e d:Int)(k:Nat)(c:Cx)(t:k9 g k=c)(a h r p i o:Int)(n:h=yB k g.length e)(ha:a=if k=0 then h else yB ((k:Int)-1) g.length e)(m:r=min a h)(j:p=max a h)(l:i=x.f+d+k*x.q)(u:o=x.b+d+((k:Int)+1)*x.s-1):lU x g e d k=⟨c.x,c.y,r,p,i,o⟩:=by
 unfold lU;rw[t,m,j,l,u,ha,n]
theorem sX {w w':World}{base:Nat}{e:TypeId}{size:Nat}{v:Value}{n:Nat}{xs:List Value}(h:w.ownsRow base e size v n xs)(j:aF w w'):w'.ownsRow base e size v n xs:=by
 obtain⟨f,⟨d,k⟩|⟨g,a,b,d,c,i,l⟩⟩:=h;·exact⟨f,.inl ⟨d,k⟩⟩
 ·exact⟨f,.inr ⟨g,a,b,d,c,(j.block _ (bU i)).trans i,l⟩⟩
structure Wx.Small (x:Wx):Prop where
 q1:1<=x.q
 q2:x.q<=50
 s1:1<=x.s
 s2:x.s<=50
 f1:0<=x.f
 f2:x.f<=10000
 b1:0<=x.b
 b2:x.b<=10000
theorem UL (x:Wx) (hx:x.Small) (l:List Cx) (S:Option Addr) (j:Nat) (g d:Int) (w:World) (hl:Xs 2 Cx.cells w S l) (hn:l.length<=1048576) (hcap:l.length<=j) (hc2:j<=9223372036854775807) (ht0:0<=d) (ht1:d<=300):
 aY 200 #[VJ x.q x.s x.f x.b S l.length j g,.int .i64 d] w fun e w'=>(∃ v,e=.returned v/\aP w' w.heap.size v (pX x l g d))/\aF w w':=by
 obtain⟨q1,q2,s1,s2,f1,f2,b1,b2⟩:=hx;obtain⟨i0,hi,yu,yv,yw⟩:=info_parts Tryz.info56;have zc:aF w (w.alloc (wN x.q x.s x.f x.b S l.length j g)):=aB (br _ _) _;have hO:=wnq w (wN x.q x.s x.f x.b S l.length j g);have Q:(w.alloc (wN x.q x.s x.f x.b S l.length j g)).heap.size=w.heap.size+1:=by simp
 go_enter Tryz.func200,Tryz.ntmps200
 go_wp2_with fail
 obtain⟨W0,yc⟩:=cK (w.alloc (wN x.q x.s x.f x.b S l.length j g));rw[yc]at zc hO Q ⊢;clear yc;refine(cw.1 (R6 1 x.q x.s x.f x.b S l.length j hn g W0)).mono ?_;rintro e T ⟨⟨U,D,rfl,zl,yq,yk,p,C,z⟩,zm⟩;rw[Q]at p yq yk ⊢;have A:=(zm.block _ (bU hO)).trans hO;have zw:=aC zc zm;have k4:T.cell? ⟨w.heap.size,4,none⟩=some (.slice S l.length j):=aJ A rfl;have zs:Hid _:=A;clear A hO zc zm Q;have hZ:w.heap.size<T.heap.size:=aA k4;have yb:U<T.heap.size:=C.lt;have zu:D<T.heap.size:=z.lt;have yn:w.heap.size+1<T.heap.size:=(bU p);obtain⟨M,hM⟩:=bP (min l.length 40:Nat);go_wp2
 all_goals
  go_loopw [6,7,22] (fun v a i wr=>∃ (k:Nat) (ah:Int),k<=M/\i=.int .i64 k/\a=.int .i64 ah/\wr.ownsRow T.heap.size 56 6 v k (fA (cE (lU x l g d) k))/\aF w wr/\T.heap.size<=wr.heap.size/\wr.heap[w.heap.size]?=some (wN x.q x.s x.f x.b S l.length j g)/\wr.heap[w.heap.size+1]?=some (wN x.q x.s x.f x.b S l.length j g)/\Boxed wr U 3 (.int .i64 k)/\Boxed wr D 3 (.int .i64 ((l.length:Int)-1-k))/\Hid (0<k->ah=yB ((k:Int)-1) l.length g)) (fun _ _ i _=>M-(intOf i).toNat)
  case atStart=>exact⟨0,0,nz _,rfl,rfl,World.ownsRow_nil _ _ _ _,zw,nlq _,zs.oQ,p,C,by simpa using z,fun h=>absurd h (by omega)⟩
  case round=>
   clear k4 zs p C z zw;obtain⟨k,ah,hk,rfl,rfl,I,hN,hwz,A,p,C,z,ys⟩:=hrel
   by_cases hlt:k<M
   · have zp:k<l.length:=by omega
     have yf:k<40:=by omega
     rcases hl with h | ⟨bl,yg,rfl,hc⟩
     · subst h;simp at zp
     have zn:=(hc k zp).zL hN;have zo:k9 l k=l[k]:=i8 l k zp;obtain⟨c,ye⟩:=bP (l[k]);rw[← ye]at zn zo;have HC:=aG zo;clear ye zo hc;obtain⟨c0,c1⟩:=pM zn;clear zn;have hi1:(k:Int)<(l.length:Int):=by omega
     have hi0:(0:Int)<=(k:Int):=by omega
     have hi2:(k:Int)<40:=by omega
     have J:aF wr (wr.alloc (.cells #[.int .i64 c.x,.int .i64 c.y] 120)):=aB (br _ _) _;have Z:Boxed (wr.alloc (.cells #[.int .i64 c.x,.int .i64 c.y] 120)) U 3 (.int .i64 k):=(J.block _ C.lt).trans C;have X:Boxed (wr.alloc (.cells #[.int .i64 c.x,.int .i64 c.y] 120)) D 3 (.int .i64 ((l.length:Int)-1-k)):=(J.block _ z.lt).trans z;have Y:=(J.block _ (bU p)).trans p;have l5:(wr.alloc (.cells #[.int .i64 c.x,.int .i64 c.y] 120)).cell? ⟨w.heap.size+1,5,none⟩=some (.int .i64 g):=aJ Y rfl;have zj:=(J.block _ (bU A)).trans A;have zf:(wr.alloc (.cells #[.int .i64 c.x,.int .i64 c.y] 120)).heap[wr.heap.size]?=some (.cells #[.int .i64 c.x,.int .i64 c.y] 120):=wnq wr _;have H:=I.alloc (.cells #[.int .i64 c.x,.int .i64 c.y] 120);have zi:=aC hN J;have R:(wr.alloc (.cells #[.int .i64 c.x,.int .i64 c.y] 120)).heap.size=wr.heap.size+1:=by simp
     clear C z p A I hN J;go_wp2_with fail
     obtain⟨WA,yd⟩:=cK (wr.alloc (.cells #[.int .i64 c.x,.int .i64 c.y] 120));rw[yd]at Z X Y l5 zj zf H zi R ⊢;clear yd c0 c1;refine(T9 (w.heap.size+1) U D g k ((l.length:Int)-1-k) WA l5 Z X zl (by omega) (by omega) (by omega) (by omega)).mono ?_;rintro e L ⟨rfl,o⟩;obtain⟨m,zq⟩:=bP (min g (min (k:Int) ((l.length:Int)-1-k)));rw[← zq];have N:=aG zq;clear zq;have zk:Boxed L U 3 (.int .i64 ((k:Int)+1)):=by rw[o];exact(Z.set _).other zl _
     have zg:Boxed L D 3 (.int .i64 ((l.length:Int)-1-k-1)):=by rw[o];exact(X.other zl.symm _).set _
     have B:L.heap[w.heap.size]?=some (wN x.q x.s x.f x.b (some ⟨bl,yg,none⟩) l.length j g):=by
      rw[o,Below.heap_setCell _ _ _ _ (by show w.heap.size≠D;omega),Below.heap_setCell _ _ _ _ (by show w.heap.size≠U;omega)];exact zj
     have zh:L.heap[w.heap.size+1]?=some (wN x.q x.s x.f x.b (some ⟨bl,yg,none⟩) l.length j g):=by
      rw[o,Below.heap_setCell _ _ _ _ (by show w.heap.size+1≠D;omega),Below.heap_setCell _ _ _ _ (by show w.heap.size+1≠U;omega)];exact Y
     have zd:L.heap[wr.heap.size]?=some (.cells #[.int .i64 c.x,.int .i64 c.y] 120):=by
      rw[o,Below.heap_setCell _ _ _ _ (by show wr.heap.size≠D;omega),Below.heap_setCell _ _ _ _ (by show wr.heap.size≠U;omega)];exact zf
     have F:=ownsRow_setCell_below (a:=⟨D,0,none⟩) (ownsRow_setCell_below (a:=⟨U,0,none⟩) H (by exact yb) (.int .i64 ((k:Int)+1))) (by exact zu) (.int .i64 ((l.length:Int)-1-k-1));rw[← o]at F;have zx:aF w L:=by rw[o];exact(zi.setCell (by show w.heap.size<=U;omega) _).setCell (by show w.heap.size<=D;omega) _
     have hs2:L.heap.size=wr.heap.size+1:=by rw[o];simp[R]
     clear Z X Y zj zf H zi R l5 o;have o0:L.cell? ⟨w.heap.size,0,none⟩=some (.int .i64 x.q):=aJ B rfl;have o1:L.cell? ⟨w.heap.size,1,none⟩=some (.int .i64 x.s):=aJ B rfl;have o2:L.cell? ⟨w.heap.size,2,none⟩=some (.int .i64 x.f):=aJ B rfl;have o3:L.cell? ⟨w.heap.size,3,none⟩=some (.int .i64 x.b):=aJ B rfl;obtain⟨a,ha⟩:∃ a,a=if k=0 then m else yB ((k:Int)-1) l.length g:=⟨_,rfl⟩;have zb:=aG ha;have HA0:Hid (k=0->m=a):=fun h=>by rw[ha,if_pos h]
     have yh:Hid (¬ k=0->ah=a):=fun h=>by rw[ha,if_neg h];exact ys.out (by omega)
     clear ha;have e1:0<=(k:Int)*x.q:=Int.mul_nonneg (by omega) (by omega);have e2:(k:Int)*x.q<=40*50:=Int.mul_le_mul (by omega) q2 (by omega) (by omega);have e3:0<=((k:Int)+1)*x.s:=Int.mul_nonneg (by omega) (by omega);have e4:((k:Int)+1)*x.s<=40*50:=Int.mul_le_mul (by omega) s2 (by omega) (by omega)
     by_cases K:k=0
     case' pos=>
      have ek:((k:Int)==0)=true:=by simp[K]
      obtain⟨r,t,W,V⟩:∃ r t:Int,Hid ((r,t)=(m,m))/\Hid (lU x l g d k=⟨c.x,c.y,r,t,x.f+k*x.q+d,x.b+((k:Int)+1)*x.s-1+d⟩):=⟨_,_,rfl,qE x l g d k c HC.oQ m m _ _ _ _ N.oQ (by rw[if_pos K]) (by omega) (by omega) (by omega) (by omega)⟩;clear K;go_wp2_with fail
     case' neg=>
      have ek:((k:Int)==0)=false:=by simp[K]
      have yj:=aG (yh.oQ K);clear K;rw[yj.oQ]
      rcases Int.lt_trichotomy a m with E | E | E
      case' inl=>
       have d1:decide (a<m)=true:=by simp[E]
       have d2:decide (m<a)=false:=by simp;omega
       have m1:min a m=a:=by omega
       have m2:max a m=m:=by omega
       obtain⟨r,t,W,V⟩:∃ r t:Int,Hid ((r,t)=(a,m))/\Hid (lU x l g d k=⟨c.x,c.y,r,t,x.f+k*x.q+d,x.b+((k:Int)+1)*x.s-1+d⟩):=⟨_,_,rfl,qE x l g d k c HC.oQ a m _ _ _ _ N.oQ zb.oQ (by omega) (by omega) (by omega) (by omega)⟩
      case' inr.inl=>
       obtain⟨r,t,W,V⟩:∃ r t:Int,Hid ((r,t)=(m,m))/\Hid (lU x l g d k=⟨c.x,c.y,r,t,x.f+k*x.q+d,x.b+((k:Int)+1)*x.s-1+d⟩):=⟨_,_,rfl,qE x l g d k c HC.oQ m m _ _ _ _ N.oQ (E.symm.trans zb.oQ) (by omega) (by omega) (by omega) (by omega)⟩;have yi:=aG E;clear E;rw[yi.oQ]
      case' inr.inr=>
       have d1:decide (a<m)=false:=by simp;omega
       have d2:decide (m<a)=true:=by simp[E]
       have m1:min a m=m:=by omega
       have m2:max a m=a:=by omega
       obtain⟨r,t,W,V⟩:∃ r t:Int,Hid ((r,t)=(m,a))/\Hid (lU x l g d k=⟨c.x,c.y,r,t,x.f+k*x.q+d,x.b+((k:Int)+1)*x.s-1+d⟩):=⟨_,_,rfl,qE x l g d k c HC.oQ a m _ _ _ _ N.oQ zb.oQ (by omega) (by omega) (by omega) (by omega)⟩
      all_goals go_wp2_with fail
     all_goals
      refine(SB x.q x.s x.f x.b k yf q1 q2 s1 s2 f1 f2 b1 b2 L).mono ?_;rintro e w3 ⟨rfl,n⟩;have ya:Boxed w3 U 3 (.int .i64 ((k:Int)+1)):=(n.block _ zk.lt).trans zk;have zt:Boxed w3 D 3 (.int .i64 ((l.length:Int)-1-k-1)):=(n.block _ zg.lt).trans zg;have zz:=(n.block _ (bU B)).trans B;have zv:=(n.block _ (bU zh)).trans zh;have ze:=(n.block _ (bU zd)).trans zd;have x0:w3.cell? ⟨wr.heap.size,0,none⟩=some (.int .i64 c.x):=aJ ze rfl;have x1:w3.cell? ⟨wr.heap.size,1,none⟩=some (.int .i64 c.y):=aJ ze rfl;have G:=sX F n;have zy:=aC zx n;have hs3:=n.size;have hlt3:wr.heap.size<w3.heap.size:=by omega
      clear o0 o1 o2 o3 n zk zg B zh zd F zx
      go_wp2_with (at_builtin;refine wpList_append_own_at _ rfl (.tmp 36) (.tmp 56) 31 rfl T.heap.size 56 i0 _ 6 48 Tryz.underlying31 hi yu yv yw rfl (by decide) _ _ _ rfl ((G.alloc _).alloc _) ⟨w3.heap.size+1,0,none⟩ 1 1 (aR ⟨c.x,c.y,r,t,x.f+k*x.q+d,x.b+((k:Int)+1)*x.s-1+d⟩) rfl rfl ?qc1 ?qc2 ?qc3 ?qc4 ?qc5 ?_)
      case qc1=>cases W.oQ;first | exact fun _ _ h=>h | (refine uX _ _ ?_ _;simp)
      case qc2=>exact mL _
      case qc3=>unfold maxLen;omega
      case qc4=>omega
      case qc5=>(try simp);omega
      intro v' w4 P O _ _;have za:=V.oQ
      have HR:Hid (w4.ownsRow T.heap.size 56 6 v' (k+1) (fA (cE (lU x l g d) (k+1)))):=by
       rw[Hid,eH,jE,za];exact P
      have u:Below T.heap.size w3 w4:=((aB (aB (br _ _) _) _).mono (by omega)).trans ((br _ _).grown O (by simp;omega) (fun q hq=>fB G hq));have yr:Boxed w4 U 3 (.int .i64 ((k:Int)+1)):=(u.block _ yb).trans ya;have yl:Boxed w4 D 3 (.int .i64 ((l.length:Int)-1-k-1)):=(u.block _ zu).trans zt;have yp:=(u.block _ hZ).trans zz;have ym:=(u.block _ yn).trans zv;have yo:aF w w4:=zy.trans (u.mono (by omega));have hs4:=u.size;clear G P O zy u ya zt zz zv ze x0 x1 za;go_wp2
      go_roundw
      case rel=>exact⟨k+1,m,by omega,by go_num,rfl,HR.oQ,yo,by omega,yp,ym,by exact yr,by rw[show(l.length:Int)-1-((k+1:Nat):Int)=(l.length:Int)-1-k-1 from by omega];exact yl,fun _=>by rw[N.oQ];congr 1;omega⟩
      case measure=>simp[intOf];omega
   · have yt:k=M:=by omega
     have zr:=aG (yt.trans hM)
     first
     | (have n1:¬ ((k:Int)<(l.length:Int)):=by omega
        go_wp2
        go_ret
        exact⟨⟨_,rfl,by rw[nB,← zr.oQ];exact(aP.of_owns (by rw[eI];exact I)).weak (by omega)⟩,hN⟩)
     | (have n2:¬ ((k:Int)<40):=by omega
        go_wp2
        go_ret
        exact⟨⟨_,rfl,by rw[nB,← zr.oQ];exact(aP.of_owns (by rw[eI];exact I)).weak (by omega)⟩,hN⟩)
end Go.Proofs.YtcdbcliaepcpfaaGreatDoor
namespace Go.Proofs.YtcdbcliaepcpfaaGreatDoor
set_option maxRecDepth 100000
set_option maxHeartbeats 8000000
open Go.RowKit Go.Shelf
attribute [local go_sem] Oper.semAt_some
theorem ID {x:Wx}{a:Int}(h:iC x a=true):x.Small/\0<=a/\a<=300:=by
 simp only[iC,fO,bat,dte]at h;exact⟨⟨by omega,by omega,by omega,by omega,by omega,by omega,by omega,by omega⟩,by omega,by omega⟩
theorem xH (x:Wx)(a:Int):iC x a=(fO a 0 300&&qC x.q x.s x.f x.b):=by
 unfold iC qC;cases fO a 0 300<;>cases fO x.q 1 50<;>cases fO x.s 1 50<;>cases fO x.f 0 10000<;>cases fO x.b 0 10000<;>rfl
def XY (x:Wx)(z:Nat)(way lev:Int)(wb woff lb loff:Nat)(y:Yx)(lv:Int)(n:Nat)(j:Nat)(v:Value)(w:World):Prop:=
 match j with
 |0=>v=x.val
 |1=>v=RO x.q x.s x.f x.b
 |2=>v=.pointer (some ⟨z,6,none⟩)
 |3=>v=.slice x.wa x.wl.length x.wc
 |4=>v=.int .i64 way
 |5=>v=.pointer (some ⟨wb,woff,none⟩)
 |6=>v=.pointer (some ⟨wb,woff,none⟩)
 |7=>v=.slice y.a y.l.length y.c
 |8=>v=.pointer (some ⟨z,7,none⟩)
 |9=>v=.slice x.la x.ll.length x.lc
 |10=>v=.int .i64 lev
 |11=>v=.pointer (some ⟨lb,loff,none⟩)
 |12=>v=.int .i64 lv
 |13=>v=VJ x.q x.s x.f x.b y.a y.l.length y.c lv
 |14=>∃p u,v=.pointer (some ⟨p,0,none⟩)/\n<=p/\w.heap[p]?=some (.cells u 233)/\u.size=6
 |_=>True
theorem XY.zL {x:Wx}{z:Nat}{d c:Int}{i b lb a:Nat}{y:Yx}{g:Int}{n:Nat}(j:Nat)(v:Value)(w w':World)(h:XY x z d c i b lb a y g n j v w)(k:aF w w'):XY x z d c i b lb a y g n j v w':=by
 unfold XY at h ⊢;split
 all_goals first
  |exact h
  |(obtain⟨p,u,e,l,f,m⟩:=h;exact⟨p,u,e,l,(k.block _ (bU f)).trans f,m⟩)
  |trivial
theorem BW (n:Nat)(hn:4<=n)(x:Wx)(r m g:Int)(w:World)(Y:x.In w)(zy:∀y∈x.wl,y.l.length<=y.c/\y.c<=9223372036854775807)(zx:∀y∈x.wl,y.l.length<=1048576):
 CallsIn Fence.wide n Tryz.prog 142 #[x.val,.int .i64 r,.int .i64 m,.int .i64 g] w λe w'=>(∃v,e=.returned v/\aP w' w.heap.size v (bM x r m g))/\aF w w':=by
 have h1n:1<=n:=by omega
 have M:aF w (w.alloc x.obj):=aB (br _ _) _;have hO:=wnq w x.obj;obtain⟨T,hT⟩:=bP (bM x r m g);rw[←hT];obtain⟨v1,h1⟩:∃v,l8 x.wl.length r=v:=⟨_,rfl⟩;obtain⟨v2,h2⟩:∃v,l8 x.ll.length m=v:=⟨_,rfl⟩;obtain⟨v3,h3⟩:∃v,fO g 0 300=v:=⟨_,rfl⟩;obtain⟨v4,h4⟩:∃v,qC x.q x.s x.f x.b=v:=⟨_,rfl⟩;have HT:Hid (T=if v1&&(v2&&(v3&&v4))then pX x (CA x.wl r.toNat).l (MU x.ll m.toNat) g else[]):=by rw[Hid,hT,bM,xH,h1,h2,h3,h4]
 have H1:Hid _:=h1;have H2:Hid _:=h2;have H3:Hid _:=h3;have H4:Hid _:=h4;clear hT h1 h2 h3 h4;refine callsIn_of_wp Tryz.func142 rfl trivial ?_ rfl;simp only[Tryz.ntmps142,lsz,llc,lln,Nat.reduceAdd,Nat.reduceSub,ars,arz,lpt,lap,lna,lca];gi_wp2_with fail;refine⟨trivial,?_⟩;refine(cw.2 (LR _ _ _ r _)).mono ?_;rintro e w1 ⟨rfl,rfl⟩;rw[H1.oQ];cases v1 with
 |false=>
  gi_wp2_with fail;refine⟨trivial,?_⟩;gi_wp2_with fail;refine⟨trivial,?_⟩;gi_wp2_with fail;refine⟨trivial,?_⟩;gi_wp2;go_ret;exact⟨⟨_,rfl,.inl ⟨rfl,by rw[HT.oQ];rfl⟩⟩,M⟩
 |true=>
 gi_wp2_with fail;refine⟨trivial,?_⟩;refine(cw.2 (K9 _ _ _ m _)).mono ?_;rintro e w1 ⟨rfl,rfl⟩;rw[H2.oQ];cases v2 with
 |false=>
  gi_wp2_with fail;refine⟨trivial,?_⟩;gi_wp2_with fail;refine⟨trivial,?_⟩;gi_wp2;go_ret;exact⟨⟨_,rfl,.inl ⟨rfl,by rw[HT.oQ];rfl⟩⟩,M⟩
 |true=>
 gi_wp2_with fail;refine⟨trivial,?_⟩;refine(cw.2 (xT 300 _)).mono ?_;rintro e w1 ⟨rfl,W⟩;have zi:=(W.block _ (bU hO)).trans hO;have zg:=aC M W;have Q:Hid _:=zi;clear M hO W zi;gi_wp2_with fail;refine⟨trivial,?_⟩;refine(cw.2 (o6 0 300 g _)).mono ?_;rintro e w2 ⟨rfl,X⟩;rw[H3.oQ];have V:=(X.block _ (bU Q.oQ)).trans Q.oQ;have C:=aC zg X;clear zg X Q;cases v3 with
 |false=>
  gi_wp2;go_ret;exact⟨⟨_,rfl,.inl ⟨rfl,by rw[HT.oQ];rfl⟩⟩,C⟩
 |true=>
 obtain⟨hw0,hw1⟩:0<=r/\r<x.wl.length:=by simpa[l8]using H1.oQ
 obtain⟨hl0,hl1⟩:0<=m/\m<x.ll.length:=by simpa[l8]using H2.oQ
 obtain⟨z,zv⟩:∃z:Nat,r=(z:Int):=⟨r.toNat,by omega⟩;obtain⟨G,zu⟩:∃G:Nat,m=(G:Int):=⟨m.toNat,by omega⟩;subst zv;subst zu;have A:z<x.wl.length:=by omega
 have O:G<x.ll.length:=by omega
 rcases Y.ws with h|⟨wb,zr,zn,zo⟩;·rw[h]at A;simp at A
 rcases Y.ls with h|⟨lb,zq,zk,zl⟩;·rw[h]at O;simp at O
 have c7:=NR ((zo z A).zL C);have H:=NK ((zl G O).zL C);have zp:=(Y.yn x.wl[z] (lgm A)).zL C;have za:=zy x.wl[z] (lgm A);have P:=zx x.wl[z] (lgm A);have HY:Hid (CA x.wl (z:Int).toNat=x.wl[z]):=by rw[Hid,Int.toNat_natCast,yS _ _ A]
 have HL:Hid (MU x.ll (G:Int).toNat=x.ll[G]):=by rw[Hid,Int.toNat_natCast,OK _ _ O]
 rw[Nat.mul_one]at c7 H;generalize x.wl[z]=y at c7 zp za P HY;generalize x.ll[G]=lv at H HL;have zc:Hid (T=if v4 then pX x y.l lv g else[]):=by rw[Hid,HT.oQ,HY.oQ,HL.oQ];cases v4<;>rfl
 clear zo zl HT H1 H2 HY HL;obtain⟨k0,k1,k2,k3,k4,k5,k6,k7⟩:=gJ V;have zd:Hid _:=zn;have zb:Hid _:=zk;clear zn zk;have HO2:Hid _:=V;clear V;gi_wp2_with fail
 refine jF (by kernel_rfl) 15 rfl (λd=>{ tmps:=#[x.val,.int .i64 (z:Int),.int .i64 (G:Int),.int .i64 g,.pointer (some ⟨w.heap.size,0,none⟩),undef,undef,undef,.slice none 0 0,d 14,.pointer (some ⟨w.heap.size,6,none⟩),.slice x.wa x.wl.length x.wc,.int .i64 (z:Int),.bool true,.bool false,.bool false,.pointer (some ⟨w.heap.size,7,none⟩),.slice x.la x.ll.length x.lc,.int .i64 (G:Int),.bool true,.bool false,.bool false,.bool false,VP 0 300,.int .i64 g,.bool true,.bool false,.bool false,d 0,d 1,d 2,d 3,d 4,d 5,d 6,d 7,d 8,d 9,d 10,d 11,d 12,d 13,undef,undef,undef,undef,undef,undef,undef],defers:=[]}) (λ_=>undef)
  (XY x w.heap.size z G wb (zr+z) lb (zq+G) y lv w2.heap.size) XY.zL (GK (by kernel_rfl)) (yK (by kernel_rfl)) ?step ?fin
 case step=>
  intro i o d w' Y k B D;have m0:=(B.cell (aA k0)).trans k0;have m1:=(B.cell (aA k1)).trans k1;have m2:=(B.cell (aA k2)).trans k2;have m3:=(B.cell (aA k3)).trans k3;have m4:=(B.cell (aA k4)).trans k4;have m5:=(B.cell (aA k5)).trans k5;have m6:=(B.cell (aA k6)).trans k6;have m7:=(B.cell (aA k7)).trans k7;have n7:=(B.cell (aA c7)).trans c7;have n12:=(B.cell (aA H)).trans H;match i,Y with
  |0,_|2,_|4,_|8,_|10,_=>
   simp at k;subst k;gi_wp2;exact⟨_,by simp[aH],rfl,br _ _⟩
  |1,_=>
   simp at k;subst k;have d0:d 0=_:=Zq D 0;rw[d0];gi_wp2_with fail;refine⟨trivial,?_⟩;refine(cw.2 (sR x w')).mono ?_;rintro e w3 ⟨rfl,hb⟩;gi_wp2;exact⟨_,by simp[aH,d0],rfl,hb⟩
  |3,_=>
   simp at k;subst k;have d2:d 2=_:=Zq D 2;rw[d2];gi_wp2;exact⟨_,by simp[aH,d2],rfl,br _ _⟩
  |5,_=>
   simp at k;subst k;have d3:d 3=_:=Zq D 3;have d4:d 4=_:=Zq D 4;rw[d3,d4];rw[zd.oQ];have q0:(0:Int)<=(z:Int):=by omega
   have q1:(z:Int)<(x.wl.length:Int):=by omega
   gi_wp2;exact⟨_,by simp[aH,d3,d4,zd.oQ],rfl,br _ _⟩
  |6,_=>
   simp at k;subst k;have d5:d 5=_:=Zq D 5;rw[d5];gi_wp2;exact⟨_,by simp[aH,d5],rfl,br _ _⟩
  |7,_=>
   simp at k;subst k;have d6:d 6=_:=Zq D 6;rw[d6];gi_wp2;exact⟨_,by simp[aH,d6],rfl,br _ _⟩
  |9,_=>
   simp at k;subst k;have d8:d 8=_:=Zq D 8;rw[d8];gi_wp2;exact⟨_,by simp[aH,d8],rfl,br _ _⟩
  |11,_=>
   simp at k;subst k;have d9:d 9=_:=Zq D 9;have I:d 10=_:=Zq D 10;rw[d9,I];rw[zb.oQ];have q0:(0:Int)<=(G:Int):=by omega
   have q1:(G:Int)<(x.ll.length:Int):=by omega
   gi_wp2;exact⟨_,by simp[aH,d9,I,zb.oQ],rfl,br _ _⟩
  |12,_=>
   simp at k;subst k;have J:d 11=_:=Zq D 11;rw[J];gi_wp2;exact⟨_,by simp[aH,J],rfl,br _ _⟩
  |13,_=>
   simp at k;subst k;have d1:d 1=_:=Zq D 1;have d7:d 7=_:=Zq D 7;have K:d 12=_:=Zq D 12;rw[d1,d7,K];gi_wp2;exact⟨_,by simp[aH,d1,d7,K],rfl,br _ _⟩
  |14,_=>
   simp at k;subst k;gi_wp2;exact⟨_,by simp[aH],⟨_,_,rfl,B.size,wnq _ _,rfl⟩,aB (br _ _) _⟩
 case fin=>
  intro o d w' k B t;simp at k;subst k;have ze:d 13=_:=t 13 (by decide);obtain⟨p,u,zf,F,zm,Z⟩:=t 14 (by decide);have d0:d 0=_:=t 0 (by decide);have d1:d 1=_:=t 1 (by decide);have d2:d 2=_:=t 2 (by decide);have d3:d 3=_:=t 3 (by decide);have d4:d 4=_:=t 4 (by decide);have d5:d 5=_:=t 5 (by decide);have d6:d 6=_:=t 6 (by decide);have d7:d 7=_:=t 7 (by decide);have d8:d 8=_:=t 8 (by decide);have d9:d 9=_:=t 9 (by decide);have I:d 10=_:=t 10 (by decide);have J:d 11=_:=t 11 (by decide);have K:d 12=_:=t 12 (by decide);rw[d0,d1,d2,d3,d4,d5,d6,d7,d8,d9,I,J,K,ze,zf];have j:w'.rowIs p 233 6 (λi=>u.getD i undef):=⟨u,zm,Z,λi Y=>by simp[Z,Y]⟩;have z0:=j.cell (i:=0) (by omega);have z1:=j.cell (i:=1) (by omega);have z2:=j.cell (i:=2) (by omega);have z3:=j.cell (i:=3) (by omega);have z4:=j.cell (i:=4) (by omega);have z5:=j.cell (i:=5) (by omega);have fz:=λi=>j.frozen i;have zh:aF w w':=aC C B;have r2:=(((((j.set 0 (.int .i64 x.q)).set 1 (.int .i64 x.s)).set 2 (.int .i64 x.f)).set 3 (.int .i64 x.b)).set 4 (.slice y.a y.l.length y.c)).set 5 (.int .i64 lv);have E:w.heap.size<=p:=by have:=C.size;omega
  have S:aF w ((((((w'.setCell ⟨p,0,none⟩ (.int .i64 x.q)).setCell ⟨p,1,none⟩ (.int .i64 x.s)).setCell ⟨p,2,none⟩ (.int .i64 x.f)).setCell ⟨p,3,none⟩ (.int .i64 x.b)).setCell ⟨p,4,none⟩ (.slice y.a y.l.length y.c)).setCell ⟨p,5,none⟩ (.int .i64 lv)):=(((((zh.setCell E _).setCell E _).setCell E _).setCell E _).setCell E _).setCell E _;have L:aF w2 ((((((w'.setCell ⟨p,0,none⟩ (.int .i64 x.q)).setCell ⟨p,1,none⟩ (.int .i64 x.s)).setCell ⟨p,2,none⟩ (.int .i64 x.f)).setCell ⟨p,3,none⟩ (.int .i64 x.b)).setCell ⟨p,4,none⟩ (.slice y.a y.l.length y.c)).setCell ⟨p,5,none⟩ (.int .i64 lv)):=(((((B.setCell F _).setCell F _).setCell F _).setCell F _).setCell F _).setCell F _;clear t d0 d1 d2 d3 d4 d5 d6 d7 d8 d9 I J K ze zf;clear k0 k1 k2 k3 k4 k5 k6 k7 c7 H;gi_wp2_with fail;refine⟨trivial,?_⟩;obtain⟨W5,zj⟩:=cK (((((((w'.setCell ⟨p,0,none⟩ (.int .i64 x.q)).setCell ⟨p,1,none⟩ (.int .i64 x.s)).setCell ⟨p,2,none⟩ (.int .i64 x.f)).setCell ⟨p,3,none⟩ (.int .i64 x.b)).setCell ⟨p,4,none⟩ (.slice y.a y.l.length y.c)).setCell ⟨p,5,none⟩ (.int .i64 lv)));rw[zj]at r2 S L ⊢;clear zj j z0 z1 z2 z3 z4 z5 fz zm Z zh;refine(cw.2 (xR x.q x.s x.f x.b W5)).mono ?_;rintro e w6 ⟨rfl,N⟩;rw[H4.oQ];have r6:=r2.of_block (N.block _ r2.lt);have U:=aC S N;have zw:=aC L N;have y0:w6.cell? ⟨p,0,none⟩=some (.int .i64 x.q):=r6.cell (i:=0) (by omega);have y1:w6.cell? ⟨p,1,none⟩=some (.int .i64 x.s):=r6.cell (i:=1) (by omega);have y2:w6.cell? ⟨p,2,none⟩=some (.int .i64 x.f):=r6.cell (i:=2) (by omega);have y3:w6.cell? ⟨p,3,none⟩=some (.int .i64 x.b):=r6.cell (i:=3) (by omega);have y4:w6.cell? ⟨p,4,none⟩=some (.slice y.a y.l.length y.c):=r6.cell (i:=4) (by omega);have y5:w6.cell? ⟨p,5,none⟩=some (.int .i64 lv):=r6.cell (i:=5) (by omega);clear r2 r6 N S L;cases v4 with
  |false=>
   gi_wp2;go_ret;exact⟨⟨_,rfl,.inl ⟨rfl,by rw[zc.oQ];rfl⟩⟩,U⟩
  |true=>
   have R:Hid (x.Small/\0<=g/\g<=300):=ID (by rw[xH,H3.oQ,H4.oQ];rfl);gi_wp2_with fail;refine⟨trivial,?_⟩;refine(cw.2 (UL x R.oQ.1 y.l y.a y.c lv g w6 (Yx.In.zL zp zw) P za.1 za.2 R.oQ.2.1 R.oQ.2.2)).mono ?_;rintro e w7 ⟨⟨v,rfl,hv⟩,zt⟩;have zs:Hid _:=hv;clear hv y0 y1 y2 y3 y4 y5;gi_wp2;go_ret;exact⟨⟨_,rfl,by rw[zc.oQ];exact aP.weak zs.oQ U.size⟩,aC U zt⟩
theorem pY (x:Wx)(d b a:Int)(w:World)(h:x.In w)(g:∀y∈x.wl,y.l.length<=y.c/\y.c<=9223372036854775807)(f:∀y∈x.wl,y.l.length<=1048576):
 aY 142 #[x.val,.int .i64 d,.int .i64 b,.int .i64 a] w λe w'=>(∃v,e=.returned v/\aP w' w.heap.size v (bM x d b a))/\aF w w':=
 cw.1 (BW 4 (by omega) x d b a w h g f)
end Go.Proofs.YtcdbcliaepcpfaaGreatDoor
namespace Go.Proofs.YtcdbcliaepcpfaaGreatDoor
set_option maxRecDepth 100000
set_option maxHeartbeats 4000000
open Go.RowKit Go.BigFrame
abbrev Cx.obj (c:Cx):Obj:=.cells #[.int .i64 c.x,.int .i64 c.y] 120
def QJ (l:List Fx)(c:Cx)(k:Nat):Prop:=(l.take k).any (λf=>qQ f c.x c.y)=false
theorem WM {l:List Fx}{c:Cx}{k:Nat}{f:Fx}(h:k<l.length)(b:f=l[k])(a:QJ l c k)(hx:¬(f.x=c.x/\f.y=c.y)):QJ l c (k+1):=by
 unfold QJ at*;rw[gQ _ l k h,←b,a,show qQ f c.x c.y=false from decide_eq_false hx];rfl
theorem wZ (l:List Fx)(u:Option Addr)(q:Nat)(c:Cx)(w:World)(B:Xs 3 Fx.cells w u l)(hn:l.length<=1048576):
 aY 161 #[.slice u l.length q,c.val] w λe w'=>e=.returned (.bool (BV l c.x c.y))/\aF w w':=by
 obtain⟨V,r⟩:=bP (BV l c.x c.y);rw[←r];have t:=aG r;clear r
 go_enter Tryz.func161,Tryz.ntmps161
 go_wp2
 go_loopw [5] (λi wr=>∃k:Nat,k<=l.length/\i=.int .i64 k/\aF w wr/\wr.heap[w.heap.size]?=some c.obj/\Hid (QJ l c k)) (λi _=>l.length-(intOf i).toNat)
 case atStart=>exact⟨0,nz _,rfl,aB (br _ _) _,wnq w _,by simp[Hid,QJ]⟩
 case round=>
  obtain⟨k,hk,rfl,o,d,b⟩:=hrel;have a0:wr.cell? ⟨w.heap.size,0,none⟩=some (.int .i64 c.x):=aJ d rfl;have a1:wr.cell? ⟨w.heap.size,1,none⟩=some (.int .i64 c.y):=aJ d rfl;have s:=aG d;clear d
  by_cases a:k<l.length
  ·rcases B with h|⟨bl,off,rfl,z⟩
   ·subst h;simp at a
   ·have j:=(z k a).zL o
    obtain⟨f,g⟩:=bP (l[k]);rw[←g]at j;have p:=aG g;clear g z;obtain⟨c0,c1,c2⟩:=m8 j;clear j
    by_cases hx:f.x=c.x
    ·by_cases m:f.y=c.y
     ·have v:(f.x==c.x)=true:=by simp[hx]
      have A:(f.y==c.y)=true:=by simp[m]
      have n:Hid (f.x=c.x/\f.y=c.y):=⟨hx,m⟩;clear hx m;go_wp2_with fail
      go_quiet (fail)
      go_wp2
      go_ret;exact⟨aD (by rw[t.oQ];exact(gI _ l k a (by rw[←p.oQ];exact decide_eq_true n.oQ)).symm),(below_drewN o _)⟩
     ·have v:(f.x==c.x)=true:=by simp[hx]
      have A:(f.y==c.y)=false:=by simp[m]
      have n:Hid (¬(f.x=c.x/\f.y=c.y)):=λh=>m h.2;clear hx m;go_wp2_with fail
      go_quiet (fail)
      go_wp2
      go_roundw
      case rel=>exact⟨k+1,by omega,by go_num,(below_drewN o _),s.oQ,WM a p.oQ b.out n.oQ⟩
      case measure=>simp[intOf];omega
    ·have v:(f.x==c.x)=false:=by simp[hx]
     have n:Hid (¬(f.x=c.x/\f.y=c.y)):=λh=>hx h.1;clear hx;go_wp2_with fail
     go_quiet (fail)
     go_wp2
     go_roundw
     case rel=>exact⟨k+1,by omega,by go_num,(below_drewN o _),s.oQ,WM a p.oQ b.out n.oQ⟩
     case measure=>simp[intOf];omega
  ·go_wp2
   go_ret;refine⟨aD ?_,o⟩;unfold QJ at b;rw[ltl (by omega)]at b;rw[t.oQ];exact b.out.symm
theorem kI (n b a:Int)(v:Bool)(c:fO n b a=v)(w:World):
 aY 49 #[.int .i64 n,.int .i64 b,.int .i64 a] w λe w'=>e=.returned (.bool v)/\w'=w:=by
 subst c;exact dV n b a w
def IH (l:List Cx)(k:Nat):Prop:=(l.take k).all fM=true/\iA (l.take k)=true
theorem xN {l:List Cx}{k:Nat}(hk:k<l.length)(h:iA (l.take k)=true)(b:∀_:0<k,iU (l[k-1]'(by omega)) l[k]=true):iA (l.take (k+1))=true:=by
 rw[pE]at h ⊢;intro i a;simp only[List.length_take]at a;by_cases e:i+1=k
 ·subst e;have:=b (by omega);simpa using this
 ·have:=h i (by simp only[List.length_take];omega);simpa using this
theorem GB {l:List Cx}{k:Nat}(h:(l.take k).all fM=true){j:Nat}(hj:j<k)(hl:j<l.length):fM l[j]=true:=by
 have:=lat.1 h l[j] (by rw[List.mem_iff_getElem];exact⟨j,by simp;omega,by simp⟩);exact this
theorem SX (c:Cx):fM c=(fO c.x 0 15&&fO c.y 0 15):=by
 rw[Bool.eq_iff_iff];simp only[fM,iD,fO,bat,dte];omega
theorem TB (p c:Cx):iU p c=(fO (c.x-p.x) (-1) 1&&fO (c.y-p.y) (-1) 1&&!(c.x==p.x&&c.y==p.y)):=by
 rw[Bool.eq_iff_iff];simp only[iU,fO,bat,dte,Bool.not_eq_true',Bool.and_eq_false_iff,beq_eq_false_iff_ne,ne_eq];omega
theorem GU {c:Cx}(h:fM c=true):0<=c.x/\c.x<16/\0<=c.y/\c.y<16:=by
 simpa only[fM,iD,dte]using h
theorem P7 (j:List Fx)(y:Yx)(af:Option Addr)(cf:Nat)(w:World)(W:Xs 3 Fx.cells w af j)(hy:y.In w)(za:j.length<=1048576)(hn:y.l.length<=1048576):
 aY 114 #[.slice af j.length cf,y.val] w λe w'=>e=.returned (.bool (jI j y.l))/\aF w w':=by
 obtain⟨ao,l,d⟩:=y;simp only at hn ⊢;have hl:Xs 2 Cx.cells w ao l:=hy;clear hy;obtain⟨V,hV⟩:=bP (jI j l);rw[←hV];have O:=aG hV;clear hV;obtain⟨v0,h0⟩:∃v,fO (l.length:Int) 2 40=v:=⟨_,rfl⟩
 have H2:Hid (zB l.length=v0):=by
  rw[Hid,←h0,Bool.eq_iff_iff];simp only[zB,fO,dte];omega
 have T:aF w (w.alloc (.cells #[.slice ao l.length d] 118)):=aB (br _ _) _
 cases v0 with
 |false=>
  go_enter Tryz.func114,Tryz.ntmps114
  go_wp2_with fail
  refine(kI _ _ _ _ h0 _).mono ?_;rintro e D ⟨rfl,rfl⟩;go_wp2
  go_ret;exact⟨aD (by rw[O.oQ,jI,H2.oQ];rfl),T⟩
 |true=>
 have zh:2<=l.length:=by have:=H2.oQ;simp only[zB,dte]at this;omega
 have ze:=aG h0;clear h0
 rcases hl with h|⟨P,m,rfl,U⟩
 · subst h;simp at zh
 go_enter Tryz.func114,Tryz.ntmps114
 go_wp2_with fail
 refine(kI _ _ _ _ ze.oQ _).mono ?_;rintro e D ⟨rfl,rfl⟩;go_wp2
 go_loopw [6] (λi wr=>∃k:Nat,k<=l.length/\i=.int .i64 k/\aF w wr/\wr.heap[w.heap.size]?=some (.cells #[.slice (some ⟨P,m,none⟩) l.length d] 118)/\Hid (IH l k)) (λi _=>l.length-(intOf i).toNat)
 case atStart=>exact⟨0,nz _,rfl,T,wnq w _,by simp[Hid,IH,iA]⟩
 case round=>
  obtain⟨k,hk,rfl,H,r,q⟩:=hrel;have a0:wr.cell? ⟨w.heap.size,0,none⟩=some (.slice (some ⟨P,m,none⟩) l.length d):=aJ r rfl
  by_cases o:k<l.length
  · have K:=(U k o).zL H
    have J:=(U (k-1) (by omega)).zL H;have Hp:Hid (0<k->fM (l[k-1]'(by omega))=true):=λh=>GB q.out.1 (by omega) (by omega);obtain⟨c,I⟩:=bP (l[k]);obtain⟨p,M⟩:=bP (l[k-1]'(by omega));rw[←I]at K;rw[←M]at J Hp;have HB:=aG I;have HP:=aG M;clear I M;obtain⟨c0,c1⟩:=pM K;obtain⟨p0,p1⟩:=pM J;clear K J;have A:aF wr (wr.alloc c.obj):=aB (br _ _) _;have b:aF w (wr.alloc c.obj):=aC H A;have t:(wr.alloc c.obj).heap[w.heap.size]?=some (.cells #[.slice (some ⟨P,m,none⟩) l.length d] 118):=(A.block _ (bU r)).trans r;have L:(wr.alloc c.obj).heap[wr.heap.size]?=some c.obj:=wnq wr _;have u:Hid _:=t;have HNo:Hid (jI j l=false∨True):=Or.inr trivial;obtain⟨v1,F⟩:∃v,fO c.x 0 15=v:=⟨_,rfl⟩;obtain⟨v2,G⟩:∃v,fO c.y 0 15=v:=⟨_,rfl⟩;have HC:Hid (fM c=(v1&&v2)):=by rw[Hid,SX,F,G]
    have E:Hid (fM c=false->jI j l=false):=λh=>by
     have:l.all fM=false:=iZ _ l k o (by rw[←HB.oQ];exact h);rw[jI,this];simp
    cases v1 with
    |false=>
     go_wp2_with (go_at_call 49;refine(kI _ _ _ _ F _).mono ?_;rintro e D ⟨rfl,rfl⟩)
     go_ret;exact⟨aD (by rw[O.oQ];exact(E.oQ HC.oQ).symm),b⟩
    |true=>
    cases v2 with
    |false=>
     go_wp2_with fail
     refine(kI c.x 0 15 true F _).mono ?_;rintro e D ⟨rfl,rfl⟩;go_wp2_with fail
     refine(kI c.y 0 15 false G _).mono ?_;rintro e D ⟨rfl,rfl⟩;go_wp2_with fail
     go_ret;exact⟨aD (by rw[O.oQ];exact(E.oQ HC.oQ).symm),b⟩
    |true=>
    have zg:=GU HC.oQ;have S:(wr.alloc c.obj).cell? ⟨w.heap.size,0,none⟩=some (.slice (some ⟨P,m,none⟩) l.length d):=aJ t rfl;have e0:(wr.alloc c.obj).cell? ⟨wr.heap.size,0,none⟩=some (.int .i64 c.x):=aJ L rfl;have e1:(wr.alloc c.obj).cell? ⟨wr.heap.size,1,none⟩=some (.int .i64 c.y):=aJ L rfl;have Z:Nonempty (cO (wr.alloc c.obj)):=⟨⟨_,br _ _⟩⟩;have fa:=cO.cell S;have f0:=cO.cell e0;have f1:=cO.cell e1;have g0:=cO.cell ((A.cell (aA p0)).trans p0);have Q:=cO.cell ((A.cell (aA p1)).trans p1);clear S e0 e1 p0 p1 r t L;have f:Hid ((l.take (k+1)).all fM=true):=by rw[Hid,mQ _ l k o,q.out.1,←HB.oQ,HC.oQ];rfl
    have hi1:(k:Int)<(l.length:Int):=by omega
    have hi0:(0:Int)<=(k:Int):=by omega
    by_cases X:0<k
    · have zi:=GU (Hp.oQ X)
      obtain⟨q1,q2,q3,q4⟩:=zg;obtain⟨q5,q6,q7,q8⟩:=zi;have hkp:(k:Int)-1<(l.length:Int):=by omega
      have hkq:(0:Int)<=(k:Int)-1:=by omega
      have hkn:((k:Int)-1)=((k-1:Nat):Int):=by omega
      obtain⟨u1,t1⟩:∃v,fO (c.x-p.x) (-1) 1=v:=⟨_,rfl⟩;obtain⟨u2,t2⟩:∃v,fO (c.y-p.y) (-1) 1=v:=⟨_,rfl⟩;obtain⟨u3,t3⟩:∃v,(c.x==p.x)=v:=⟨_,rfl⟩;obtain⟨u4,t4⟩:∃v,(c.y==p.y)=v:=⟨_,rfl⟩;have HS:Hid (iU p c=(u1&&u2&&!(u3&&u4))):=by rw[Hid,TB,t1,t2,t3,t4]
      have z:Hid (iU p c=false->jI j l=false):=λh=>by
       have:iA l=false:=uK l (k-1) (by omega) (by
        have e:l[k-1+1]'(by omega)=l[k]:=by congr 1;omega
        rw[e,←HB.oQ,←HP.oQ];exact h)
       rw[jI,this];simp
      have R:Hid (iU p c=true->IH l (k+1)):=λh=>⟨f.oQ,xN o q.out.2 (λ_=>by rw[←HB.oQ,←HP.oQ];exact h)⟩
      have hu:u1=false∨(u1=true/\u2=false)∨(u1=true/\u2=true/\u3=false)∨(u1=true/\u2=true/\u3=true/\u4=false)∨(u1=true/\u2=true/\u3=true/\u4=true):=by
       cases u1<;>cases u2<;>cases u3<;>cases u4<;>simp
      rcases hu with rfl|⟨rfl,rfl⟩|⟨rfl,rfl,rfl⟩|⟨rfl,rfl,rfl,rfl⟩|⟨rfl,rfl,rfl,rfl⟩
      all_goals
       go_wp2_with fail
       refine(kI c.x 0 15 true F _).mono ?_;rintro e D ⟨rfl,rfl⟩;go_wp2_with fail
       refine(kI c.y 0 15 _ G _).mono ?_;rintro e D ⟨rfl,rfl⟩;go_wp2_with fail
       refine bC (by kernel_rfl) (by kernel_rfl) ?_
       repeat (go_big_quiet_step (fail))
       go_big_quiet_step ((go_at_call 49;exact cO.same _ (kI (c.x-p.x) (-1) 1 _ t1 _)))
       repeat (go_big_quiet_step (fail))
       try go_big_quiet_step ((go_at_call 49;exact cO.same _ (kI (c.y-p.y) (-1) 1 _ t2 _)))
       repeat (go_big_quiet_step (fail))
       refine wpQuiet_nil ?_;rintro _ ⟨s,rfl⟩;have a:=s.h;have n:Hid (s.w.heap[w.heap.size]?=some (.cells #[.slice (some ⟨P,m,none⟩) l.length d] 118)):=(a.block _ (bU u.oQ)).trans u.oQ;have g:=aG (aC b a);generalize s.w=w9 at a n g;clear s a fa f0 f1 g0 Q Z;go_wp2
       first
       |(go_ret;exact⟨aD (by rw[O.oQ];exact(z.oQ (by rw[HS.oQ];rfl)).symm),g.oQ⟩)
       |(go_roundw;(case rel=>exact⟨k+1,by omega,by go_num,g.oQ,n.oQ,R.oQ (by rw[HS.oQ];rfl)⟩);(case measure=>simp[intOf];omega))
    · have zd:Hid (IH l (k+1)):=⟨f.oQ,xN o q.out.2 (λh=>absurd h X)⟩
      go_wp2_with fail
      refine(kI c.x 0 15 true F _).mono ?_;rintro e D ⟨rfl,rfl⟩;go_wp2_with fail
      refine(kI c.y 0 15 _ G _).mono ?_;rintro e D ⟨rfl,rfl⟩;go_wp2_with fail
      refine bC (by kernel_rfl) (by kernel_rfl) ?_
      repeat (go_big_quiet_step (fail))
      refine wpQuiet_nil ?_;rintro _ ⟨s,rfl⟩;have a:=s.h;have n:Hid (s.w.heap[w.heap.size]?=some (.cells #[.slice (some ⟨P,m,none⟩) l.length d] 118)):=(a.block _ (bU u.oQ)).trans u.oQ;have g:=aG (aC b a);generalize s.w=w9 at a n g;clear s a fa f0 f1 g0 Q Z;go_wp2
      go_roundw
      case rel=>exact⟨k+1,by omega,by go_num,g.oQ,n.oQ,zd.oQ⟩
      case measure=>simp[intOf];omega
  · have Y:k=l.length:=by omega
    have HW:Hid (IH l l.length):=by rw[←Y];exact q
    clear Y;have B:=(U 0 (by omega)).zL H;have C:=(U (l.length-1) (by omega)).zL H;have E0:l[0]'(by omega)=k9 l 0:=(i8 l 0 (by omega)).symm;have E1:l[l.length-1]'(by omega)=k9 l (l.length-1):=(i8 l (l.length-1) (by omega)).symm;rw[E0,Nat.zero_mul,Nat.add_zero]at B;rw[E1]at C;obtain⟨x0,N7⟩:∃x,k9 l 0=x:=⟨_,rfl⟩;obtain⟨xn,N⟩:∃x,k9 l (l.length-1)=x:=⟨_,rfl⟩;rw[N7]at B;rw[N]at C;obtain⟨c0,c1⟩:=pM B;obtain⟨d0,d1⟩:=pM C;obtain⟨v1,Q⟩:∃v,BV j x0.x x0.y=v:=⟨_,rfl⟩;obtain⟨v2,g2⟩:∃v,BV j xn.x xn.y=v:=⟨_,rfl⟩
    have HE:Hid (jI j l=(v1&&v2)):=by
     have F:=HW.oQ.1;have G:=HW.oQ.2;rw[ltl (nlq _)]at F G;rw[Hid,jI,H2.oQ,F,G,wW,N7,N,Q,g2];rfl
    have zb:Hid _:=Q;have zc:Hid _:=g2;have hq:(1:Int)<=(l.length:Int):=by omega
    clear B C E0 E1 N7 N U Q g2 r;go_wp2_with fail
    refine(wZ j _ _ x0 _ (W.zL H) za).mono ?_;rintro e D ⟨rfl,a⟩;rw[zb.oQ];have a1:=(a.cell (aA a0)).trans a0;have d01:=(a.cell (aA d0)).trans d0;have d11:=(a.cell (aA d1)).trans d1;have b:=aC H a;clear a0 c0 c1 d0 d1 a
    cases v1 with
    |false=>
     go_wp2
     go_ret;exact⟨aD (by rw[O.oQ,HE.oQ];rfl),b⟩
    |true=>
     go_wp2_with fail
     refine(wZ j _ _ xn _ (W.zL b) za).mono ?_;rintro e w2 ⟨rfl,zf⟩;rw[zc.oQ];go_wp2
     go_ret;exact⟨aD (by rw[O.oQ,HE.oQ];rfl),aC b zf⟩
end Go.Proofs.YtcdbcliaepcpfaaGreatDoor
namespace Go.Proofs.YtcdbcliaepcpfaaGreatDoor
set_option maxRecDepth 100000
set_option maxHeartbeats 8000000
open Go.RowKit
theorem MC (l:List Fx)(b:Option Addr)(a:Nat)(v:Bool)(h:cB l=v)(w:World)(c:Xs 3 Fx.cells w b l)(d:l.length<=1048576)(g:∀f∈l,f.n.size<=9223372036854775807):
 aY 74 #[.slice b l.length a] w λe w'=>e=.returned (.bool v)/\aF w w':=by
 subst h;exact pW l b a w c d g
theorem JC (s:ByteArray)(v:Bool)(b:cS s=v)(w:World)(a:s.size<=9223372036854775807):
 aY 113 #[.string s] w λe w'=>e=.returned (.bool v)/\w'=w:=by
 subst b;exact uF s w a
def DD (fl:List Fx)(x:Wx):Bool:=cB fl&&(cS x.n&&(n9 x&&(rU x.l&&(oE x.wl.length&&ES x.ll.length))))
theorem PN (a:List Fx)(x:Wx):eJ a x=(DD a x&&((x.wl.all λy=>jI a y.l)&&x.ll.all yA)):=by
 unfold eJ DD nM iN;cases cB a<;>cases cS x.n<;>cases n9 x<;>cases rU x.l<;>cases oE x.wl.length<;>cases ES x.ll.length<;>simp
theorem vI (o:List Fx)(x:Wx)(T:Option Addr)(cf:Nat)(w:World)(M:Xs 3 Fx.cells w T o)(Q:o.length<=1048576)(hs:∀f∈o,f.n.size<=9223372036854775807)(hi:x.In w)(W:x.Fit):
 aY 77 #[.slice T o.length cf,x.val] w λe w'=>e=.returned (.bool (eJ o x))/\aF w w':=by
 obtain⟨V,hV⟩:=bP (eJ o x);rw[←hV];have HV:Hid (V=(DD o x&&((x.wl.all λy=>jI o y.l)&&x.ll.all yA))):=by rw[Hid,hV,PN]
 clear hV;have A:aF w (w.alloc x.obj):=aB (br _ _) _;have hO:(w.alloc x.obj).heap[w.heap.size]?=some x.obj:=wnq w x.obj;obtain⟨v1,h1⟩:∃v,cB o=v:=⟨_,rfl⟩;obtain⟨v2,h2⟩:∃v,cS x.n=v:=⟨_,rfl⟩;obtain⟨X,h3⟩:∃v,fO x.q 1 x.s=v:=⟨_,rfl⟩;obtain⟨Y,h5⟩:∃v,fO x.f 0 x.b=v:=⟨_,rfl⟩;obtain⟨Z,h7⟩:∃v,fO x.l 0 300=v:=⟨_,rfl⟩;obtain⟨v8,h8⟩:∃v,fO (x.wl.length:Int) 1 3=v:=⟨_,rfl⟩;obtain⟨v9,h9⟩:∃v,fO (x.ll.length:Int) 1 6=v:=⟨_,rfl⟩;obtain⟨v4,I⟩:∃v,decide (50<x.s)=v:=⟨_,rfl⟩;obtain⟨v6,J⟩:∃v,decide (10000<x.b)=v:=⟨_,rfl⟩
 have z:Hid (DD o x=(v1&&(v2&&((X&&!v4&&(Y&&!v6))&&(Z&&(v8&&v9)))))):=by
  have e8:oE x.wl.length=v8:=by rw[←h8,oE,Bool.eq_iff_iff];simp only[fO,dte];omega
  have e9:ES x.ll.length=v9:=by rw[←h9,ES,Bool.eq_iff_iff];simp only[fO,dte];omega
  have e7:rU x.l=Z:=by rw[←h7];rfl
  have ek:n9 x=(X&&!v4&&(Y&&!v6)):=by
   rw[←h3,←I,←h5,←J,Bool.eq_iff_iff];simp only[n9,fO,bat,Bool.not_eq_true',dte,decide_eq_false_iff_not];omega
  rw[Hid,DD,h1,h2,e7,e8,e9,ek]
 have hwn:=W.wn;have hln:=W.ln;have g:Hid (DD o x=false->V=false):=λh=>by rw[HV.oQ,h];rfl
 have H1:Hid _:=h1;have H2:Hid _:=h2;have H3:Hid _:=h3;have H5:Hid _:=h5;have H7:Hid _:=h7;have H8:Hid _:=h8;have H9:Hid _:=h9;have H4:Hid _:=I;have H6:Hid _:=J;clear h1 h2 h3 I h5 J h7 h8 h9
 go_enter Tryz.func77,Tryz.ntmps77
 go_wp2_with fail
 refine(MC o T cf v1 H1.oQ _ (M.zL A) Q hs).mono ?_;rintro e F ⟨rfl,B⟩;have c:=(B.block _ (bU hO)).trans hO;have d:=aC A B;have m:Hid _:=c;obtain⟨k0,k1,k2,k3,k4,k5,S,E⟩:=gJ c;clear hO c B A
 cases v1 with
 |false=>
  go_wp2
  go_ret;exact⟨aD (g.oQ (by rw[z.oQ];simp)).symm,d⟩
 |true=>
 go_wp2_with fail
 refine(JC x.n v2 H2.oQ _ W.sn).mono ?_;rintro e F ⟨rfl,rfl⟩
 cases v2 with
 |false=>
  go_wp2
  go_ret;exact⟨aD (g.oQ (by rw[z.oQ];simp)).symm,d⟩
 |true=>
 go_wp2_with fail
 refine(kI x.q 1 x.s X H3.oQ _).mono ?_;rintro e F ⟨rfl,rfl⟩
 cases X with
 |false=>
  go_wp2
  go_ret;exact⟨aD (g.oQ (by rw[z.oQ];simp)).symm,d⟩
 |true=>
 have I:=H4.oQ
 cases v4 with
 |true=>
  go_wp2
  go_ret;exact⟨aD (g.oQ (by rw[z.oQ];simp)).symm,d⟩
 |false=>
 have zb:x.s<=50:=by simpa using H4.oQ
 go_wp2_with fail
 refine(kI x.f 0 x.b Y H5.oQ _).mono ?_;rintro e F ⟨rfl,rfl⟩
 cases Y with
 |false=>
  go_wp2
  go_ret;exact⟨aD (g.oQ (by rw[z.oQ];simp)).symm,d⟩
 |true=>
 have J:=H6.oQ
 cases v6 with
 |true=>
  go_wp2
  go_ret;exact⟨aD (g.oQ (by rw[z.oQ];simp)).symm,d⟩
 |false=>
 have zc:x.b<=10000:=by simpa using H6.oQ
 go_wp2_with fail
 refine(kI x.l 0 300 Z H7.oQ _).mono ?_;rintro e F ⟨rfl,rfl⟩
 cases Z with
 |false=>
  go_wp2
  go_ret;exact⟨aD (g.oQ (by rw[z.oQ];simp)).symm,d⟩
 |true=>
 go_wp2_with fail
 refine(kI x.wl.length 1 3 v8 H8.oQ _).mono ?_;rintro e F ⟨rfl,rfl⟩
 cases v8 with
 |false=>
  go_wp2
  go_ret;exact⟨aD (g.oQ (by rw[z.oQ];simp)).symm,d⟩
 |true=>
 go_wp2_with fail
 refine(kI x.ll.length 1 6 v9 H9.oQ _).mono ?_;rintro e F ⟨rfl,rfl⟩
 cases v9 with
 |false=>
  go_wp2
  go_ret;exact⟨aD (g.oQ (by rw[z.oQ];simp)).symm,d⟩
 |true=>
 have HT:Hid (V=((x.wl.all λy=>jI o y.l)&&x.ll.all yA)):=by rw[Hid,HV.oQ,z.oQ];rfl
 clear HV g z H1 H2 H3 H4 H5 H6 H7 H8 H9 I J zb zc k0 k1 k2 k3 k4 k5;go_wp2
 go_loopw [5] (λi wr=>∃k:Nat,k<=x.wl.length/\i=.int .i64 k/\aF w wr/\wr.heap[w.heap.size]?=some x.obj/\Hid ((x.wl.take k).all (λy=>jI o y.l)=true)) (λi _=>x.wl.length-(intOf i).toNat)
 case atStart=>exact⟨0,nz _,rfl,d,m.oQ,by simp[Hid]⟩
 case round=>
  clear S E m d;obtain⟨k,hk,rfl,d,c,u⟩:=hrel;have m:Hid _:=c;have S:wr.cell? ⟨w.heap.size,6,none⟩=some (.slice x.wa x.wl.length x.wc):=aJ c rfl;have E:wr.cell? ⟨w.heap.size,7,none⟩=some (.slice x.la x.ll.length x.lc):=aJ c rfl;clear c
  by_cases a:k<x.wl.length
  ·rcases hi.ws with h|⟨bl,zf,R,L⟩
   ·rw[h]at a;simp at a
   ·have r:=(L k a).zL d
    have O:=(hi.yn x.wl[k] (lgm a)).zL d;have N:=W.yn x.wl[k] (lgm a);obtain⟨b,p⟩:=bP (x.wl[k]);rw[←p]at r O N;have G:=aG p;clear p L;have U:=NR r;rw[Nat.mul_one]at U;clear r;rw[R]at S;have ze:(k:Int)<(x.wl.length:Int):=by omega
    have zd:(0:Int)<=(k:Int):=by omega
    obtain⟨v,D⟩:=bP (jI o b.l);have t:Hid (v=jI o b.l):=D;clear D R;go_wp2_with fail
    refine(P7 o b T cf _ (M.zL d) O Q N).mono ?_;rintro e w2 ⟨rfl,C⟩;rw[←t.oQ];have za:Hid (w2.heap[w.heap.size]?=some x.obj):=(C.block _ (bU m.oQ)).trans m.oQ;have K:=aC d C;clear U C S E
    cases v with
    |false=>
     go_wp2
     go_ret;exact⟨aD (by rw[HT.oQ,iZ _ x.wl k a (by rw[←G.oQ];exact t.oQ.symm)];rfl),K⟩
    |true=>
     go_wp2
     go_roundw
     case rel=>exact⟨k+1,by omega,by go_num,K,za.oQ,by rw[Hid,mQ _ x.wl k a,u.out,←G.oQ,←t.oQ];rfl⟩
     case measure=>simp[intOf];omega
  ·have H:Hid (V=x.ll.all yA):=by
    have h:=u.out;rw[ltl (by omega)]at h;rw[Hid,HT.oQ,h];rfl
   clear HT u;go_wp2
   go_loopw [6] (λi wr=>∃k:Nat,k<=x.ll.length/\i=.int .i64 k/\aF w wr/\wr.heap[w.heap.size]?=some x.obj/\Hid ((x.ll.take k).all yA=true)) (λi _=>x.ll.length-(intOf i).toNat)
   case atStart=>exact⟨0,nz _,rfl,d,m.oQ,by simp[Hid]⟩
   case round=>
    clear S E m d;obtain⟨j,hj,rfl,d,c,u⟩:=hrel;have m:Hid _:=c;have E:=aJ (j:=7) c rfl;clear c
    by_cases a:j<x.ll.length
    ·rcases hi.ls with h|⟨bl,zf,P,L⟩
     ·rw[h]at a;simp at a
     ·have r:=(L j a).zL d
      obtain⟨b,p⟩:=bP (x.ll[j]);rw[←p]at r;have G:=aG p;clear p L;have U:=NK r;rw[Nat.mul_one]at U;clear r;rw[P]at E;clear P;have ze:(j:Int)<(x.ll.length:Int):=by omega
      have zd:(0:Int)<=(j:Int):=by omega
      obtain⟨v,D⟩:=cK (fO b 1 6);have t:Hid (yA b=v):=D;have Hv:Hid _:=D;clear D;go_wp2_with fail
      refine(kI b 1 6 v Hv.oQ _).mono ?_;rintro e w2 ⟨rfl,rfl⟩
      cases v with
      |false=>
       go_wp2
       go_ret;exact⟨aD (by rw[H.oQ,iZ _ x.ll j a (by rw[←G.oQ];exact t.oQ)]),d⟩
      |true=>
       go_wp2
       go_roundw
       case rel=>exact⟨j+1,by omega,by go_num,d,m.oQ,by rw[Hid,mQ _ x.ll j a,u.out,←G.oQ,t.oQ];rfl⟩
       case measure=>simp[intOf];omega
    ·go_wp2
     go_ret;refine⟨aD ?_,d⟩;have h:=u.out;rw[ltl (by omega)]at h;rw[H.oQ,h]
end Go.Proofs.YtcdbcliaepcpfaaGreatDoor
namespace Go.Proofs.YtcdbcliaepcpfaaGreatDoor
set_option maxRecDepth 100000
set_option maxHeartbeats 2000000
open Go.RowKit Go.Shelf
attribute [local go_sem] Oper.semAt_some
theorem zT (a b:Int)(w:World):
 aY 118 #[.int .i64 a,.int .i64 b] w λe w'=>e=.returned (.int .i64 (min a b))/\w'=w:=by
 by_cases h0:a<b
 ·go_enter Tryz.func118,Tryz.ntmps118;go_wp2;go_ret;exact⟨oO (by omega),rfl⟩
 ·go_enter Tryz.func118,Tryz.ntmps118;go_wp2;go_ret;exact⟨oO (by omega),rfl⟩
theorem UH (a b:Int)(w:World):
 aY 119 #[.int .i64 a,.int .i64 b] w λe w'=>e=.returned (.int .i64 (max a b))/\w'=w:=by
 by_cases h0:b<a
 ·go_enter Tryz.func119,Tryz.ntmps119;go_wp2;go_ret;exact⟨oO (by omega),rfl⟩
 ·go_enter Tryz.func119,Tryz.ntmps119;go_wp2;go_ret;exact⟨oO (by omega),rfl⟩
theorem zX (k n a:Int)(w:World)(hk0:-1<=k)(hk:k<=9223372036854775807/4)(hn0:0<=n)(hn:n<=9223372036854775807/4):
 aY 117 #[.int .i64 k,.int .i64 n,.int .i64 a] w λe w'=>e=.returned (.int .i64 (yB k n a))/\w'=w:=by
 obtain⟨v,b⟩:=bP (yB k n a);rw[←b];go_enter Tryz.func117,Tryz.ntmps117;go_wp2_with fail;refine(zT _ _ _).mono ?_;rintro e c ⟨rfl,rfl⟩;go_wp2_with fail;refine(zT _ _ _).mono ?_;rintro e c ⟨rfl,rfl⟩;go_wp2;go_ret;exact⟨oO (by rw[b];rfl),rfl⟩
theorem MR (x:Wx)(a:Int)(w:World):
 aY 116 #[x.val,.int .i64 a] w λe w'=>e=.returned (.bool (iC x a))/\aF w w':=by
 obtain⟨V,l⟩:=bP (iC x a);rw[←l];have g:=aG l;clear l;have d:aF w (w.alloc x.obj):=aB (br _ _) _;go_enter Tryz.func116,Tryz.ntmps116;go_wp2_with fail;obtain⟨n,c⟩:∃v,fO x.q 1 50=v:=⟨_,rfl⟩;refine(dV _ _ _ _).mono ?_;rintro e j ⟨rfl,rfl⟩;rw[c];cases n with
 |false=>
  go_wp2;go_ret;exact⟨aD (by rw[g.oQ,iC,c];rfl),d⟩
 |true=>
 go_wp2_with fail;obtain⟨o,h⟩:∃v,fO x.s 1 50=v:=⟨_,rfl⟩;refine(dV _ _ _ _).mono ?_;rintro e j ⟨rfl,rfl⟩;rw[h];cases o with
 |false=>
  go_wp2;go_ret;exact⟨aD (by rw[g.oQ,iC,c,h];rfl),d⟩
 |true=>
 go_wp2_with fail;obtain⟨p,i⟩:∃v,fO x.f 0 10000=v:=⟨_,rfl⟩;refine(dV _ _ _ _).mono ?_;rintro e j ⟨rfl,rfl⟩;rw[i];cases p with
 |false=>
  go_wp2;go_ret;exact⟨aD (by rw[g.oQ,iC,c,h,i];rfl),d⟩
 |true=>
 go_wp2_with fail;obtain⟨r,k⟩:∃v,fO x.b 0 10000=v:=⟨_,rfl⟩;refine(dV _ _ _ _).mono ?_;rintro e j ⟨rfl,rfl⟩;rw[k];cases r with
 |false=>
  go_wp2;go_ret;exact⟨aD (by rw[g.oQ,iC,c,h,i,k];rfl),d⟩
 |true=>
 go_wp2_with fail;obtain⟨v5,m⟩:∃v,fO a 0 300=v:=⟨_,rfl⟩;refine(dV _ _ _ _).mono ?_;rintro e j ⟨rfl,rfl⟩;rw[m];go_wp2;go_ret;exact⟨aD (by rw[g.oQ,iC,c,h,i,k,m];rfl),d⟩
set_option maxHeartbeats 16000000
theorem G9 (n:Nat)(i:Int):fO i 0 ((n:Int)-1)=l8 n i:=by
 rw[Bool.eq_iff_iff];simp only[fO,l8,dte];omega
def WR (u9:Value)(bl off n yc k:Nat)(c:Cx)(here bef:Int)(x:Wx)(late:Int)(z m:Nat)(j:Nat)(v:Value)(w:World):Prop:=
 match j with
 |0=>v=u9
 |1=>v=.slice (some ⟨bl,off,none⟩) n yc
 |2=>v=.int .i64 (k:Int)
 |3=>v=.pointer (some ⟨bl,off+k*2,none⟩)
 |4=>v=.pointer (some ⟨bl,off+k*2,none⟩)
 |5=>v=.int .i64 c.x
 |6=>v=.slice (some ⟨bl,off,none⟩) n yc
 |7=>v=.int .i64 (k:Int)
 |8=>v=.pointer (some ⟨bl,off+k*2,none⟩)
 |9=>v=.pointer (some ⟨bl,off+k*2+1,none⟩)
 |10=>v=.int .i64 c.y
 |11=>v=.int .i64 bef
 |12=>v=.int .i64 here
 |13=>v=.int .i64 (min bef here)
 |14=>v=.int .i64 bef
 |15=>v=.int .i64 here
 |16=>v=.int .i64 (max bef here)
 |17=>v=.pointer (some ⟨z,3,none⟩)
 |18=>v=.int .i64 x.f
 |19=>v=.int .i64 late
 |20=>v=.int .i64 (x.f+late)
 |21=>v=.int .i64 (k:Int)
 |22=>v=.pointer (some ⟨z,1,none⟩)
 |23=>v=.int .i64 x.q
 |24=>v=.int .i64 ((k:Int)*x.q)
 |25=>v=.int .i64 (x.f+late+(k:Int)*x.q)
 |26=>v=.pointer (some ⟨z,4,none⟩)
 |27=>v=.int .i64 x.b
 |28=>v=.int .i64 late
 |29=>v=.int .i64 (x.b+late)
 |30=>v=.int .i64 (k:Int)
 |31=>v=.int .i64 ((k:Int)+1)
 |32=>v=.pointer (some ⟨z,2,none⟩)
 |33=>v=.int .i64 x.s
 |34=>v=.int .i64 (((k:Int)+1)*x.s)
 |35=>v=.int .i64 (x.b+late+((k:Int)+1)*x.s)
 |36=>v=.int .i64 (x.b+late+((k:Int)+1)*x.s-1)
 |37=>v=Bx.val ⟨c.x,c.y,min bef here,max bef here,x.f+late+(k:Int)*x.q,x.b+late+((k:Int)+1)*x.s-1⟩
 |38=>∃g,v=.slice (some ⟨g,0,none⟩) 1 1/\m<=g/\fL w g 0 ⟨c.x,c.y,min bef here,max bef here,x.f+late+(k:Int)*x.q,x.b+late+((k:Int)+1)*x.s-1⟩
 |_=>True
theorem WR.zL {u9:Value}{i f n l k:Nat}{c:Cx}{a d:Int}{x:Wx}{b:Int}{z m:Nat}(j:Nat)(v:Value)(w w':World)(h:WR u9 i f n l k c a d x b z m j v w)(o:aF w w'):WR u9 i f n l k c a d x b z m j v w':=by
 unfold WR at h ⊢;split
 all_goals first
  |exact h
  |(obtain⟨g,e,p,q⟩:=h;exact⟨g,e,p,q.zL o⟩)
  |trivial
theorem U7 (W:World)(b:Bx)(t:Nat):fL (W.alloc (.cells #[.int .i64 b.x,.int .i64 b.y,.int .i64 b.lo,.int .i64 b.hi,.int .i64 b.i,.int .i64 b.o] t)) W.heap.size 0 b:=by
 refine⟨?_,?_,?_,?_,?_,?_⟩<;>simp
theorem UR {w:World}{g:Nat}{b:Bx}(h:fL w g 0 b):∀j u,(aR b)[j]?=some u->w.cell? ((⟨g,0,none⟩:Addr).add j)=some u:=by
 obtain⟨k,c,d,e,f,i⟩:=h;intro j u a;rw[Nat.zero_add]at c d e f i;match j,a with
 |0,a=>simp[aR]at a;subst a;exact k
 |1,a=>simp[aR]at a;subst a;exact c
 |2,a=>simp[aR]at a;subst a;exact d
 |3,a=>simp[aR]at a;subst a;exact e
 |4,a=>simp[aR]at a;subst a;exact f
 |5,a=>simp[aR]at a;subst a;exact i
theorem sC (n:Nat)(hn:4<=n)(x:Wx)(C B d:Int)(w:World)(hi:x.In w)(hwn:x.wl.length<=1048576)(hln:x.ll.length<=1048576)(xr:∀y∈x.wl,y.l.length<=1048576):
 CallsIn Fence.wide n Tryz.prog 80 #[x.val,.int .i64 C,.int .i64 B,.int .i64 d] w λe w'=>(∃v,e=.returned v/\aP w' w.heap.size v (bM x C B d))/\aF w w':=by
 have h1n:1<=n:=by omega
 obtain⟨i0,xl,xs,xt,xu⟩:=info_parts Tryz.info56;have Q:aF w ((w.alloc x.obj).alloc (.cells #[] 56)):=aB (aB (br _ _) _) _;have hO:=(halq (w.alloc x.obj) (.cells #[] 56) w.heap.size (by simp)).trans (wnq w x.obj)
 have E:((w.alloc x.obj).alloc (.cells #[] 56)).ownsRow (w.heap.size+1) 56 6 (.slice (some ⟨w.heap.size+1,0,none⟩) 0 0) 0 (fA []):=by
  simpa[fA]using World.ownsRow_lit (base:=w.heap.size+1) (e:=56) (size:=6) (w.alloc x.obj) #[] 0 (by simp) (nz _) rfl
 have xa:((w.alloc x.obj).alloc (.cells #[] 56)).heap.size=w.heap.size+2:=by simp
 obtain⟨T,hT⟩:=bP (bM x C B d);rw[←hT];obtain⟨v1,h1⟩:∃v,fO C 0 ((x.wl.length:Int)-1)=v:=⟨_,rfl⟩;obtain⟨v2,h2⟩:∃v,fO B 0 ((x.ll.length:Int)-1)=v:=⟨_,rfl⟩;obtain⟨v3,h3⟩:∃v,iC x d=v:=⟨_,rfl⟩;have HT:Hid (T=if v1&&(v2&&v3)then pX x (CA x.wl C.toNat).l (MU x.ll B.toNat) d else[]):=by rw[Hid,hT,bM,←G9,←G9,h1,h2,h3]
 have H1:Hid _:=h1;have H2:Hid _:=h2;have H3:Hid _:=h3;clear hT h1 h2 h3;refine callsIn_of_wp Tryz.func80 rfl trivial ?_ rfl;simp only[Tryz.ntmps80,lsz,llc,lln,Nat.reduceAdd,Nat.reduceSub,ars,arz,lpt,lap,lna,lca];gi_wp2_with fail
 refine⟨trivial,?_⟩;obtain⟨W0,yu⟩:=cK ((w.alloc x.obj).alloc (.cells #[] 56));rw[yu]at Q hO E xa ⊢;clear yu;have K:Hid (aP W0 w.heap.size (.slice (some ⟨w.heap.size+1,0,none⟩) 0 0) []):=(aP.of_owns (l:=[]) E).weak (by omega);obtain⟨k0,k1,k2,k3,k4,k5,k6,k7⟩:=gJ hO;have HO:Hid _:=hO;clear hO;refine(cw.2 (kI C 0 ((x.wl.length:Int)-1) v1 H1.oQ _)).mono ?_;rintro e w1 ⟨rfl,rfl⟩
 cases v1 with
 |false=>
  gi_wp2_with fail
  refine⟨trivial,?_⟩;gi_wp2_with fail
  refine⟨trivial,?_⟩;gi_wp2;go_ret;exact⟨⟨_,rfl,by rw[HT.oQ];exact K.oQ⟩,Q⟩
 |true=>
 gi_wp2_with fail
 refine⟨trivial,?_⟩;refine(cw.2 (kI B 0 ((x.ll.length:Int)-1) v2 H2.oQ _)).mono ?_;rintro e w1 ⟨rfl,rfl⟩
 cases v2 with
 |false=>
  gi_wp2_with fail
  refine⟨trivial,?_⟩;gi_wp2;go_ret;exact⟨⟨_,rfl,by rw[HT.oQ];exact K.oQ⟩,Q⟩
 |true=>
 gi_wp2_with fail
 refine⟨trivial,?_⟩;refine(cw.2 (MR x d w1)).mono ?_;rintro e w2 ⟨rfl,N⟩;rw[H3.oQ];have zf:=(N.block _ (bU HO.oQ)).trans HO.oQ;have Y:=aC Q N;have V:=sX E N;have P:=aG (aP.zL K.oQ N);have hs2:=N.size;clear HO K Q N E k0 k1 k2 k3 k4 k5 k6 k7
 cases v3 with
 |false=>
  gi_wp2;go_ret;exact⟨⟨_,rfl,by rw[HT.oQ];exact P.oQ⟩,Y⟩
 |true=>
 have xg:=aG (ID H3.oQ);obtain⟨⟨q1,q2,s1,s2,f1,f2,b1,b2⟩,t1,t2⟩:=xg.oQ;obtain⟨hw0,hw1⟩:0<=C/\C<=(x.wl.length:Int)-1:=by simpa[fO]using H1.oQ
 obtain⟨hl0,hl1⟩:0<=B/\B<=(x.ll.length:Int)-1:=by simpa[fO]using H2.oQ
 obtain⟨D,xp⟩:∃D:Nat,C=(D:Int):=⟨C.toNat,by omega⟩;obtain⟨F,xn⟩:∃F:Nat,B=(F:Int):=⟨B.toNat,by omega⟩;subst xp;subst xn;have O:D<x.wl.length:=by omega
 have za:F<x.ll.length:=by omega
 have i1:(D:Int)<(x.wl.length:Int):=by omega
 have i2:(F:Int)<(x.ll.length:Int):=by omega
 rcases hi.ws with h|⟨wb,A,xb,xc⟩
 ·rw[h]at O;simp at O
 rcases hi.ls with h|⟨lb,z,yx,yy⟩
 ·rw[h]at za;simp at za
 have c7:=NR ((xc D O).zL Y);have zj:=hi.yn x.wl[D] (lgm O);have xd:=xr x.wl[D] (lgm O);have R:=yy F za;have HY:Hid (CA x.wl (D:Int).toNat=x.wl[D]):=by rw[Hid,Int.toNat_natCast,yS _ _ O]
 have HL:Hid (MU x.ll (F:Int).toNat=x.ll[F]):=by rw[Hid,Int.toNat_natCast,OK _ _ za]
 rw[Nat.mul_one]at c7 R;generalize x.wl[D]=y at c7 zj xd HY;generalize x.ll[F]=lv at R HL;have zc:Hid (T=pX x y.l lv d):=by rw[Hid,HT.oQ,HY.oQ,HL.oQ];rfl
 obtain⟨ya,r,yc⟩:=y;simp only at c7 xd zc;have xq:Xs 2 Cx.cells w ya r:=zj;have k6:w2.cell? ⟨w.heap.size,6,none⟩=some (.slice (some ⟨wb,A,none⟩) x.wl.length x.wc):=by rw[←xb];exact aJ zf rfl
 have xe:Hid _:=yx;have zn:Hid _:=zf;clear xc yy HT H1 H2 H3 HY HL zj xb yx zf;obtain⟨M,hM⟩:=bP (min r.length 40:Nat);gi_wp2
 gi_loopw [9,12] (λv i wr=>∃k:Nat,k<=M/\i=.int .i64 k/\wr.ownsRow (w.heap.size+1) 56 6 v k (fA (cE (lU x r lv d) k))/\aF w wr/\w.heap.size+2<=wr.heap.size/\wr.heap[w.heap.size]?=some x.obj) (λ_ i _=>M-(intOf i).toNat)
 case atStart=>exact⟨0,nz _,rfl,V,Y,by omega,zn.oQ⟩
 case round=>
  clear c7 k6 zn V Y P;obtain⟨k,hk,rfl,U,hN,hwz,H⟩:=hrel
  by_cases hlt:k<M
  ·have Z:k<r.length:=by omega
   have hk40:k<40:=by omega
   rcases xq with h|⟨bl,G,rfl,hc⟩
   ·subst h;simp at Z
   have zg:=(hc k Z).zL hN;have zh:k9 r k=r[k]:=i8 r k Z;obtain⟨c,yv⟩:=bP (r[k]);rw[←yv]at zg zh;have HC:=aG zh;clear yv zh hc;obtain⟨c0,c1⟩:=pM zg;clear zg;have z12:=NK (R.zL hN);have g1:(k:Int)<(r.length:Int):=by omega
   have g0:(0:Int)<=(k:Int):=by omega
   have g2:(k:Int)<40:=by omega
   have d1:decide ((k:Int)<(r.length:Int))=true:=by simp;omega
   have k1:wr.cell? ⟨w.heap.size,1,none⟩=some (.int .i64 x.q):=aJ H rfl;have k2:wr.cell? ⟨w.heap.size,2,none⟩=some (.int .i64 x.s):=aJ H rfl;have k3:wr.cell? ⟨w.heap.size,3,none⟩=some (.int .i64 x.f):=aJ H rfl;have k4:wr.cell? ⟨w.heap.size,4,none⟩=some (.int .i64 x.b):=aJ H rfl;have k7:wr.cell? ⟨w.heap.size,7,none⟩=some (.slice (some ⟨lb,z,none⟩) x.ll.length x.lc):=by rw[←xe.oQ];exact aJ H rfl
   have xf:Hid _:=H;clear H;have e1:0<=(k:Int)*x.q:=Int.mul_nonneg (by omega) (by omega);have e2:(k:Int)*x.q<=40*50:=Int.mul_le_mul (by omega) q2 (by omega) (by omega);have e3:0<=((k:Int)+1)*x.s:=Int.mul_nonneg (by omega) (by omega);have e4:((k:Int)+1)*x.s<=40*50:=Int.mul_le_mul (by omega) s2 (by omega) (by omega);obtain⟨m,zi⟩:∃h,h=yB k r.length lv:=⟨_,rfl⟩;have HH:=aG zi;gi_wp2_with fail
   refine⟨trivial,?_⟩;refine(cw.2 (zX k r.length lv wr (by omega) (by omega) (by omega) (by omega))).mono ?_;rintro e w3 ⟨rfl,rfl⟩;rw[←zi];clear zi
   by_cases yw:0<k
   case' pos=>
    have gk:decide (0<(k:Int))=true:=by simp;omega
    obtain⟨u,I⟩:∃h,h=yB ((k:Int)-1) r.length lv:=⟨_,rfl⟩;have zl:Hid (u=if k=0 then m else yB ((k:Int)-1) r.length lv):=by rw[Hid,I,if_neg (by omega)]
    gi_wp2_with fail
    refine⟨trivial,?_⟩;refine(cw.2 (zX ((k:Int)-1) r.length lv _ (by omega) (by omega) (by omega) (by omega))).mono ?_;rintro e w3 ⟨rfl,rfl⟩;rw[←I];have zk:Hid (u=u):=rfl;clear I yw gk;gi_wp2_with fail
   case' neg=>
    have gk:decide (0<(k:Int))=false:=by simp;omega
    have xh:decide (0<k)=false:=by simp;omega
    obtain⟨u,I⟩:∃h,h=m:=⟨_,rfl⟩;have zl:Hid (u=if k=0 then m else yB ((k:Int)-1) r.length lv):=by rw[Hid,if_pos (by omega)];exact I
    have zk:=aG I;clear I;gi_wp2_with fail
    clear yw gk xh
   all_goals
    first
    |refine nL (by kernel_rfl) 39 rfl (λa=>{ tmps:=#[x.val,.int .i64 (D:Int),.int .i64 (F:Int),.int .i64 d,.pointer (some ⟨w.heap.size,0,none⟩),undef,undef,undef,.slice none 0 0,u9,.slice (some ⟨bl,G,none⟩) r.length yc,.int .i64 (r.length:Int),.int .i64 (k:Int),.int .i64 m,.int .i64 u,.slice (some ⟨w.heap.size+1,0,none⟩) 0 0,.int .i64 (D:Int),.pointer (some ⟨w.heap.size,6,none⟩),.slice x.wa x.wl.length x.wc,.int .i64 (x.wl.length:Int),.int .i64 ((x.wl.length:Int)-1),.bool true,.bool false,.bool false,.int .i64 (F:Int),.pointer (some ⟨w.heap.size,7,none⟩),.slice x.la x.ll.length x.lc,.int .i64 (x.ll.length:Int),.int .i64 ((x.ll.length:Int)-1),.bool true,.bool false,.bool false,.bool false,.agg #[.string x.n,.int .i64 x.q,.int .i64 x.s,.int .i64 x.f,.int .i64 x.b,.int .i64 x.l,.slice x.wa x.wl.length x.wc,.slice x.la x.ll.length x.lc],.int .i64 d,.bool true,.bool false,.bool false,undef,.pointer (some ⟨w.heap.size,6,none⟩),.slice (some ⟨wb,A,none⟩) x.wl.length x.wc,.int .i64 (D:Int),.pointer (some ⟨wb,A+D,none⟩),.pointer (some ⟨wb,A+D,none⟩),.slice (some ⟨bl,G,none⟩) r.length yc,.slice (some ⟨bl,G,none⟩) r.length yc,.int .i64 (r.length:Int),.int .i64 (k:Int),.int .i64 (r.length:Int),.bool true,.bool true,.int .i64 (k:Int),.bool true,.bool true,u54,u55,.int .i64 (k:Int),.int .i64 (r.length:Int),.pointer (some ⟨w.heap.size,7,none⟩),.slice (some ⟨lb,z,none⟩) x.ll.length x.lc,.int .i64 (F:Int),.pointer (some ⟨lb,z+F,none⟩),.int .i64 lv,.int .i64 m,.int .i64 m,.int .i64 (k:Int),.bool true,.int .i64 (k:Int),.int .i64 ((k:Int)-1),.int .i64 (r.length:Int),.pointer (some ⟨w.heap.size,7,none⟩),.slice (some ⟨lb,z,none⟩) x.ll.length x.lc,.int .i64 (F:Int),.pointer (some ⟨lb,z+F,none⟩),.int .i64 lv,.int .i64 u,a 0,a 1,a 2,a 3,a 4,a 5,a 6,a 7,a 8,a 9,a 10,a 11,a 12,a 13,a 14,a 15,a 16,a 17,a 18,a 19,a 20,a 21,a 22,a 23,a 24,a 25,a 26,a 27,a 28,a 29,a 30,a 31,a 32,a 33,a 34,a 35,a 36,a 37,a 38,u115,undef],defers:=[]}) (λj=>(#[u76,u77,u78,u79,u80,u81,u82,u83,u84,u85,u86,u87,u88,u89,u90,u91,u92,u93,u94,u95,u96,u97,u98,u99,u100,u101,u102,u103,u104,u105,u106,u107,u108,u109,u110,u111,u112,u113,u114]:Array Value).getD j undef) (WR u9 bl G r.length yc k c m u x d w.heap.size w3.heap.size) WR.zL (o5 (by kernel_rfl)) (by kernel_rfl) (by kernel_rfl) ?step ?fin
    |refine nL (by kernel_rfl) 39 rfl (λa=>{ tmps:=#[x.val,.int .i64 (D:Int),.int .i64 (F:Int),.int .i64 d,.pointer (some ⟨w.heap.size,0,none⟩),undef,undef,undef,.slice none 0 0,u9,.slice (some ⟨bl,G,none⟩) r.length yc,.int .i64 (r.length:Int),.int .i64 (k:Int),.int .i64 m,.int .i64 m,.slice (some ⟨w.heap.size+1,0,none⟩) 0 0,.int .i64 (D:Int),.pointer (some ⟨w.heap.size,6,none⟩),.slice x.wa x.wl.length x.wc,.int .i64 (x.wl.length:Int),.int .i64 ((x.wl.length:Int)-1),.bool true,.bool false,.bool false,.int .i64 (F:Int),.pointer (some ⟨w.heap.size,7,none⟩),.slice x.la x.ll.length x.lc,.int .i64 (x.ll.length:Int),.int .i64 ((x.ll.length:Int)-1),.bool true,.bool false,.bool false,.bool false,.agg #[.string x.n,.int .i64 x.q,.int .i64 x.s,.int .i64 x.f,.int .i64 x.b,.int .i64 x.l,.slice x.wa x.wl.length x.wc,.slice x.la x.ll.length x.lc],.int .i64 d,.bool true,.bool false,.bool false,undef,.pointer (some ⟨w.heap.size,6,none⟩),.slice (some ⟨wb,A,none⟩) x.wl.length x.wc,.int .i64 (D:Int),.pointer (some ⟨wb,A+D,none⟩),.pointer (some ⟨wb,A+D,none⟩),.slice (some ⟨bl,G,none⟩) r.length yc,.slice (some ⟨bl,G,none⟩) r.length yc,.int .i64 (r.length:Int),.int .i64 (k:Int),.int .i64 (r.length:Int),.bool true,.bool true,.int .i64 (k:Int),.bool true,.bool true,u54,u55,.int .i64 (k:Int),.int .i64 (r.length:Int),.pointer (some ⟨w.heap.size,7,none⟩),.slice (some ⟨lb,z,none⟩) x.ll.length x.lc,.int .i64 (F:Int),.pointer (some ⟨lb,z+F,none⟩),.int .i64 lv,.int .i64 m,.int .i64 m,.int .i64 (k:Int),.bool false,u67,u68,u69,u70,u71,u72,u73,u74,u75,a 0,a 1,a 2,a 3,a 4,a 5,a 6,a 7,a 8,a 9,a 10,a 11,a 12,a 13,a 14,a 15,a 16,a 17,a 18,a 19,a 20,a 21,a 22,a 23,a 24,a 25,a 26,a 27,a 28,a 29,a 30,a 31,a 32,a 33,a 34,a 35,a 36,a 37,a 38,u115,undef],defers:=[]}) (λj=>(#[u76,u77,u78,u79,u80,u81,u82,u83,u84,u85,u86,u87,u88,u89,u90,u91,u92,u93,u94,u95,u96,u97,u98,u99,u100,u101,u102,u103,u104,u105,u106,u107,u108,u109,u110,u111,u112,u113,u114]:Array Value).getD j undef) (WR u9 bl G r.length yc k c m u x d w.heap.size w3.heap.size) WR.zL (o5 (by kernel_rfl)) (by kernel_rfl) (by kernel_rfl) ?step ?fin
    case step=>
     intro i o a w' hi p L t;have mc0:=(L.cell (aA c0)).trans c0;have mc1:=(L.cell (aA c1)).trans c1;have mk1:=(L.cell (aA k1)).trans k1;have mk2:=(L.cell (aA k2)).trans k2;have mk3:=(L.cell (aA k3)).trans k3;have mk4:=(L.cell (aA k4)).trans k4
     match i,hi with
     |0,_|1,_|2,_|6,_|7,_|12,_|15,_|17,_|19,_|21,_|22,_|26,_|28,_|30,_|32,_=>
      simp at p;subst p;gi_wp2;exact⟨_,by simp[aH],rfl,br _ _⟩
     |3,_=>
      simp at p;subst p;have d1:a 1=_:=Zq t 1;have d2:a 2=_:=Zq t 2;rw[d1,d2];gi_wp2;exact⟨_,by simp[aH,d1,d2],rfl,br _ _⟩
     |4,_=>
      simp at p;subst p;have d3:a 3=_:=Zq t 3;rw[d3];gi_wp2;exact⟨_,by simp[aH,d3],rfl,br _ _⟩
     |5,_=>
      simp at p;subst p;have d4:a 4=_:=Zq t 4;rw[d4];gi_wp2;exact⟨_,by simp[aH,d4],rfl,br _ _⟩
     |8,_=>
      simp at p;subst p;have d6:a 6=_:=Zq t 6;have d7:a 7=_:=Zq t 7;rw[d6,d7];gi_wp2;exact⟨_,by simp[aH,d6,d7],rfl,br _ _⟩
     |9,_=>
      simp at p;subst p;have d8:a 8=_:=Zq t 8;rw[d8];gi_wp2;exact⟨_,by simp[aH,d8],rfl,br _ _⟩
     |10,_=>
      simp at p;subst p;have d9:a 9=_:=Zq t 9;rw[d9];gi_wp2;exact⟨_,by simp[aH,d9],rfl,br _ _⟩
     |11,_|14,_=>
      simp at p;subst p;gi_wp2;refine⟨.int .i64 u,?_,rfl,br _ _⟩
      simp[aH]
      try exact zk.oQ.symm
     |13,_=>
      simp at p;subst p;have zp:a 11=_:=Zq t 11;have zq:a 12=_:=Zq t 12;rw[zp,zq];gi_wp2_with fail
      refine⟨trivial,?_⟩;refine(cw.2 (zT _ _ w')).mono ?_;rintro e w4 ⟨rfl,rfl⟩;gi_wp2;exact⟨_,by simp[aH,zp,zq],rfl,br _ _⟩
     |16,_=>
      simp at p;subst p;have zs:a 14=_:=Zq t 14;have zt:a 15=_:=Zq t 15;rw[zs,zt];gi_wp2_with fail
      refine⟨trivial,?_⟩;refine(cw.2 (UH _ _ w')).mono ?_;rintro e w4 ⟨rfl,rfl⟩;gi_wp2;exact⟨_,by simp[aH,zs,zt],rfl,br _ _⟩
     |18,_=>
      simp at p;subst p;have zv:a 17=_:=Zq t 17;rw[zv];gi_wp2;exact⟨_,by simp[aH,zv],rfl,br _ _⟩
     |20,_=>
      simp at p;subst p;have zw:a 18=_:=Zq t 18;have zx:a 19=_:=Zq t 19;rw[zw,zx];gi_wp2;exact⟨_,by simp[aH,zw,zx],rfl,br _ _⟩
     |23,_=>
      simp at p;subst p;have yb:a 22=_:=Zq t 22;rw[yb];gi_wp2;exact⟨_,by simp[aH,yb],rfl,br _ _⟩
     |24,_=>
      simp at p;subst p;have zz:a 21=_:=Zq t 21;have yd:a 23=_:=Zq t 23;rw[zz,yd];gi_wp2;exact⟨_,by simp[aH,zz,yd],rfl,br _ _⟩
     |25,_=>
      simp at p;subst p;have zy:a 20=_:=Zq t 20;have ye:a 24=_:=Zq t 24;rw[zy,ye];gi_wp2;exact⟨_,by simp[aH,zy,ye],rfl,br _ _⟩
     |27,_=>
      simp at p;subst p;have yg:a 26=_:=Zq t 26;rw[yg];gi_wp2;exact⟨_,by simp[aH,yg],rfl,br _ _⟩
     |29,_=>
      simp at p;subst p;have yh:a 27=_:=Zq t 27;have yi:a 28=_:=Zq t 28;rw[yh,yi];gi_wp2;exact⟨_,by simp[aH,yh,yi],rfl,br _ _⟩
     |31,_=>
      simp at p;subst p;have yk:a 30=_:=Zq t 30;rw[yk];gi_wp2;exact⟨_,by simp[aH,yk],rfl,br _ _⟩
     |33,_=>
      simp at p;subst p;have yo:a 32=_:=Zq t 32;rw[yo];gi_wp2;exact⟨_,by simp[aH,yo],rfl,br _ _⟩
     |34,_=>
      simp at p;subst p;have ym:a 31=_:=Zq t 31;have yp:a 33=_:=Zq t 33;rw[ym,yp];gi_wp2;exact⟨_,by simp[aH,ym,yp],rfl,br _ _⟩
     |35,_=>
      simp at p;subst p;have yj:a 29=_:=Zq t 29;have yq:a 34=_:=Zq t 34;rw[yj,yq];gi_wp2;exact⟨_,by simp[aH,yj,yq],rfl,br _ _⟩
     |36,_=>
      simp at p;subst p;have yr:a 35=_:=Zq t 35;rw[yr];gi_wp2;exact⟨_,by simp[aH,yr],rfl,br _ _⟩
     |37,_=>
      simp at p;subst p;have d5:a 5=_:=Zq t 5;have zo:a 10=_:=Zq t 10;have zr:a 13=_:=Zq t 13;have zu:a 16=_:=Zq t 16;have yf:a 25=_:=Zq t 25;have ys:a 36=_:=Zq t 36;rw[d5,zo,zr,zu,yf,ys];gi_wp2;exact⟨_,by simp[aH,d5,zo,zr,zu,yf,ys],rfl,br _ _⟩
     |38,_=>
      simp at p;subst p;have yt:a 37=_:=Zq t 37;rw[yt];gi_wp2;exact⟨_,by simp[aH,yt],⟨_,rfl,L.size,U7 w' ⟨c.x,c.y,min u m,max u m,x.f+d+(k:Int)*x.q,x.b+d+((k:Int)+1)*x.s-1⟩ _⟩,aB (br _ _) _⟩
     |j+39,h=>exact absurd h (by omega)
    case fin=>
     intro o o' a w' p yz L hp;simp at p yz;subst p;subst yz;have d0:a 0=_:=hp 0 (by decide);obtain⟨g,zd,hgm,xk⟩:=hp 38 (by decide);have J:=sX U L;have ze:=aC hN L;refine wpListIn_append_own w' rfl (.tmp 76) (.tmp 114) 31 rfl (w.heap.size+1) 56 i0 _ 6 48 Tryz.underlying31 xl xs xt xu rfl (by decide) u9 k _ (by show a 0=_;exact d0) J ⟨g,0,none⟩ 1 1 (aR ⟨c.x,c.y,min u m,max u m,x.f+d+(k:Int)*x.q,x.b+d+((k:Int)+1)*x.s-1⟩) (by show a 38=_;exact zd) rfl (UR xk) (mL _) (by unfold maxLen;omega) (by omega) (by have:=ze.size;have:=L.size;omega) ?_;intro v' w4 W S _;have zb:lU x r lv d k=⟨c.x,c.y,min u m,max u m,x.f+d+(k:Int)*x.q,x.b+d+((k:Int)+1)*x.s-1⟩:=qE x r lv d k c HC.oQ u m _ _ _ _ HH.oQ zl.oQ rfl rfl rfl rfl
     have HR:Hid (w4.ownsRow (w.heap.size+1) 56 6 v' (k+1) (fA (cE (lU x r lv d) (k+1)))):=by
      rw[Hid,eH,jE,zb];exact W
     have X:Below (w.heap.size+1) w' w4:=(br _ _).grown S (by have:=ze.size;have:=L.size;omega) (λq hq=>fB J hq);have xj:w4.heap[w.heap.size]?=some x.obj:=(X.block _ (by omega)).trans ((L.block _ (by omega)).trans xf.oQ);have xi:aF w w4:=ze.trans (X.mono (by omega));have xo:w.heap.size+2<=w4.heap.size:=by have:=X.size;have:=L.size;omega
     rw[d0,zd];clear hp W S X zb J d0 zd;generalize a=a;gi_wp2
     go_roundw
     case rel=>exact⟨k+1,by omega,by go_num,HR.oQ,xi,xo,xj⟩
     case measure=>simp[intOf];omega
  ·have xm:k=min r.length 40:=by omega
   have zm:Hid _:=xm
   by_cases Z:k<r.length
   ·have d1:decide ((k:Int)<(r.length:Int))=true:=by simp;omega
    have g1:(k:Int)<(r.length:Int):=by omega
    have g2:¬(k:Int)<40:=by omega
    have d2:decide ((k:Int)<40)=false:=by simp;omega
    gi_wp2;go_ret;exact⟨⟨_,rfl,by rw[zc.oQ,nB,←zm.oQ];exact(aP.of_owns (by rw[eI];exact U)).weak (by omega)⟩,hN⟩
   ·have d1:decide ((k:Int)<(r.length:Int))=false:=by simp;omega
    have g1:¬(k:Int)<(r.length:Int):=by omega
    gi_wp2;go_ret;exact⟨⟨_,rfl,by rw[zc.oQ,nB,←zm.oQ];exact(aP.of_owns (by rw[eI];exact U)).weak (by omega)⟩,hN⟩
end Go.Proofs.YtcdbcliaepcpfaaGreatDoor
