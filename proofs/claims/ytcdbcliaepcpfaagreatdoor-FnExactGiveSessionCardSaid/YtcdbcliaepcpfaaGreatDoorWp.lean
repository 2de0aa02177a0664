import Derived.Test.YtcdbcliaepcpfaaGreatDoorWi
import Derived.Test.YtcdbcliaepcpfaaGreatDoorAny
namespace Go.Proofs.YtcdbcliaepcpfaaGreatDoor
set_option maxRecDepth 100000
set_option maxHeartbeats 4000000
open Go.RowKit Go.Shelf
attribute [local go_sem] Oper.semAt_some
theorem V0 (n a:Nat)(b:Option Addr)(w:World)(hn:n<=1048576):
 aY 257 #[.slice b n a] w λe w'=>e=.returned (.bool (zB n))/\w'=w:=by
 go_enter Tryz.func257,Tryz.ntmps257
 go_wp2
 all_goals go_ret
 all_goals refine⟨aD ?_,rfl⟩
 all_goals (rw[Bool.eq_iff_iff];simp only[zB,dte,Bool.false_eq_true,false_iff];omega)
theorem JD (l:List Cx)(p:Option Addr)(m:Nat)(w:World)(s:Xs 2 Cx.cells w p l)(hn:l.length<=1048576):
 aY 258 #[.slice p l.length m] w λe w'=>e=.returned (.bool (l.all fM))/\aF w w':=by
 go_enter Tryz.func258,Tryz.ntmps258
 go_wp2
 go_loopw [7] (λi wr=>∃k:Nat,k<=l.length/\i=.int .i64 k/\aF w wr/\Hid ((l.take k).all fM=true)) (λi _=>l.length-(intOf i).toNat)
 case atStart=>exact⟨0,nz _,rfl,br _ _,by simp[Hid]⟩
 case round=>
  obtain⟨k,hk,rfl,n,f⟩:=hrel
  by_cases a:k<l.length
  ·rcases s with h|⟨bl,off,rfl,r⟩
   ·subst h;simp at a
   ·have d:=(r k a).zL n
    obtain⟨b,c⟩:=bP (l[k]);rw[←c]at d;have o:Hid (b=l[k]):=c;clear c r;obtain⟨c0,c1⟩:=pM d;clear d;have g:aF w _:=lP n (nlq _) (.cells #[.int .i64 b.x,.int .i64 b.y] 120);obtain⟨V,q⟩:=bP (iD b.x b.y);have j:Hid (V=fM b):=q;clear q
    cases V with
    |false=>
     go_wp2_with (go_at_call 171;refine(oG _ _ _).mono ?_;rintro e t ⟨rfl,rfl⟩;rw[show iD b.x b.y=false from j.oQ.symm])
     go_ret;exact⟨aD (iZ _ l k a (by rw[←o.oQ];exact j.oQ.symm)).symm,g⟩
    |true=>
     go_wp2_with (go_at_call 171;refine(oG _ _ _).mono ?_;rintro e t ⟨rfl,rfl⟩;rw[show iD b.x b.y=true from j.oQ.symm])
     go_roundw
     case rel=>exact⟨k+1,by omega,by go_num,g,by rw[Hid,mQ _ l k a,f.out,←o.oQ,←j.oQ];rfl⟩
     case measure=>simp[intOf];omega
  ·go_wp2
   go_ret;refine⟨aD ?_,n⟩;rw[ltl (by omega)]at f;exact f.out.symm
theorem uB {c:Cx}(h:fM c=true):0<=c.x/\c.x<16/\0<=c.y/\c.y<16:=by
 simpa only[fM,iD,dte]using h
theorem MY (n:Nat)(hn:6<=n)(z f i:Nat)(l:List Cx)(zi:l.all fM=true)(zh:1<=l.length)(zf:l.length<=1048576)(w:World)(hc:∀j (h:j<l.length),aZ w z (f+j*2) l[j].cells):
 CallsIn Fence.wide n Tryz.prog 259 #[.slice (some ⟨z,f,none⟩) l.length i] w λe W'=>e=.returned (.bool (iA l))/\aF w W':=by
 have h1:1<=n:=by omega
 refine callsIn_of_wp_marks Tryz.func259 rfl trivial ?_ rfl;simp only[Tryz.ntmps259,lsz,llc,lln,Nat.reduceAdd,Nat.reduceSub,ars,arz,lpt,lap,lna,lca];gi_wp2_with fail
 refine⟨trivial,?_⟩;refine(UK Fence.wide (n-1) trivial rfl _ _ _ _).mono ?_;rintro e w' ⟨rfl,rfl⟩;gi_wp2_with fail
 have U:=(Boxed.new w 4 (.bool false)).alloc (.cells #[.slice (some ⟨z,f,none⟩) l.length i] 116);have bS:=Boxed.new (w.alloc (.cells #[.bool false] 4)) 116 (.slice (some ⟨z,f,none⟩) l.length i);simp only[wsa]at bS;have A:aF w ((w.alloc (.cells #[.bool false] 4)).alloc (.cells #[.slice (some ⟨z,f,none⟩) l.length i] 116)):=((br _ w).alloc (nlq _) _).alloc (by simp) _;have zj:((w.alloc (.cells #[.bool false] 4)).alloc (.cells #[.slice (some ⟨z,f,none⟩) l.length i] 116)).heap.size=w.heap.size+2:=by simp
 obtain⟨O,za⟩:=cK ((w.alloc (.cells #[.bool false] 4)).alloc (.cells #[.slice (some ⟨z,f,none⟩) l.length i] 116));rw[za]at U bS A zj ⊢;clear za
 refine wpIn_rangeFunc_ownH rfl h1 (gf:=272) (lb:=#[.pointer (some ⟨w.heap.size+1,0,none⟩)]) rfl trivial (enters_of Tryz.func272 (by kernel_rfl) rfl)
  (J9 (n-1) (w.heap.size+1) z f i l zi zh zf O bS.cell (λj h=>(hc j h).zL A)) belowK_t (belowK_b (nlq _)) (br _ _) (λ_=>rfl)
  (λm W=>(∀x∈m,iU x.1.1 x.1.2=true)/\aF O W)
  (λc m W=>((c=.ret/\∃x∈m,iU x.1.1 x.1.2=false)/\Boxed W w.heap.size 4 (.bool false))/\aF w W)
  (OwnFrom.and (ownFrom_pure _ _) (ownFrom_below (nlq _) (nlq _)))
  (λc=>OwnFrom.and (OwnFrom.and (ownFrom_pure _ _) (Own.from (boxed_own _ _ _) _)) (ownFrom_below (nlq _) (by omega)))
  ⟨by simp,br _ _⟩
  (λx a' W=>∃S T,xZ W S x.1.1/\xZ W T x.1.2/\a'={ tmps:=#[.slice (some ⟨z,f,none⟩) l.length i,undef,.pointer (some ⟨w.heap.size,0,none⟩),.pointer (some ⟨S,0,none⟩),.pointer (some ⟨T,0,none⟩),.slice (some ⟨z,f,none⟩) l.length i,.func (.func 272) #[] #[.pointer (some ⟨w.heap.size+1,0,none⟩)],x.1.1.val,x.1.2.val,undef,undef,undef,undef,undef,undef,undef,undef,undef,undef,undef,undef,undef,undef,undef,undef,undef,undef,undef],defers:=[]})
  (λx a' _ X Y row hs hg hr=>by obtain⟨S,T,e1,e2,e3⟩:=hs;exact⟨S,T,DL e1 hg (λr e=>(hr r e).2),DL e2 hg (λr e=>(hr r e).2),e3⟩)
  ?assign ?body ?done ?stop
 case assign=>
  rintro Q m x W K ⟨P,a⟩ C;gi_wp2
  exact C _ _ (((KeepsOthers.alloc _ _).trans (KeepsOthers.alloc _ _)).from _) (((br _ W).alloc a.size _).alloc (by have:=a.size;simp;omega) _) ⟨P,(a.alloc a.size _).alloc (by have:=a.size;simp;omega) _⟩
   ⟨W.heap.size,W.heap.size+1,(I8 W _ rfl x.1.1 _).zL ((br _ _).alloc (nlq _) _),I8 _ _ (by simp) x.1.2 _,rfl⟩
 case body=>
  rintro Q m x a' W hl ⟨r,hr⟩ ⟨P,a⟩ ⟨S,T,e1,e2,rfl⟩ hlt;have h1':1<=n-1-1:=by omega
  have M:=uB x.2.1;have N:=uB x.2.2;have cR:W.cell? ⟨w.heap.size,0,none⟩=some (.bool false):=(a.cell (p:=⟨w.heap.size,0,none⟩) (by show w.heap.size<_;omega)).trans U.cell;have fR:W.frozen? ⟨w.heap.size,0,none⟩=false:=(a.frozen (p:=⟨w.heap.size,0,none⟩) (by show w.heap.size<_;omega)).trans U.frozen;have V:Boxed W w.heap.size 4 (.bool false):=(a.block w.heap.size (by omega)).trans U;have Z:aF w W:=A.trans (a.mono (by omega));obtain⟨c0,c1⟩:=e1;obtain⟨d0,d1⟩:=e2;have B:x∈m++[x]:=lma.2 (.inr (by simp));have HM:=aG B;clear B;obtain⟨⟨⟨⟨q,u⟩,⟨s,d⟩⟩,hxx⟩,o⟩:∃y,y=x:=⟨_,rfl⟩;rw[←o]at M N c0 c1 d0 d1;have HX:Hid (iU x.1.1 x.1.2=iU ⟨q,u⟩ ⟨s,d⟩):=by rw[←o];rfl
  rw[←o];rw[o];have e7:x.1.1.val=.agg #[.int .i64 q,.int .i64 u]:=by rw[←o]
  have e8:x.1.2.val=.agg #[.int .i64 s,.int .i64 d]:=by rw[←o]
  clear o;simp only at M N c0 c1 d0 d1;obtain⟨F,G,zb,zc⟩:=M;obtain⟨H,I,zd,ze⟩:=N
  have b:Hid (iU ⟨q,u⟩ ⟨s,d⟩=false->KeepsFrom O.heap.size W (W.setCell ⟨w.heap.size,0,none⟩ (.bool false))/\(∃y∈m++[x],iU y.1.1 y.1.2=false)/\Boxed (W.setCell ⟨w.heap.size,0,none⟩ (.bool false)) w.heap.size 4 (.bool false)/\aF w (W.setCell ⟨w.heap.size,0,none⟩ (.bool false))):=λL=>
   ⟨(KeepsOthers.setCell _ _ _).from _,⟨x,HM.oQ,by rw[HX.oQ];exact L⟩,V.set _,Z.setCell (p:=⟨w.heap.size,0,none⟩) (nlq _) _⟩
  have t:Hid (iU ⟨q,u⟩ ⟨s,d⟩=true->KeepsFrom O.heap.size W W/\Below O.heap.size W W/\(∀y∈m++[x],iU y.1.1 y.1.2=true)/\aF O W):=λL=>
   ⟨(bO (br _ _)).from _,br _ _,λy hy=>(lma.1 hy).elim (P y) (λe=>by simp at e;subst e;rw[HX.oQ];exact L),a⟩
  clear P a Z V HX HM
  by_cases hx:q=s/\u=d
  ·have g:Hid _:=b.oQ (by simp only[iU,decide_eq_false_iff_not];omega)
   have R:(q==s)=true:=by simp[hx.1]
   have q1:(u==d)=true:=by simp[hx.2]
   clear hx b t;gi_wp2_with fail
   refine⟨trivial,?_⟩;gi_wp2_with fail
   refine⟨trivial,?_⟩;gi_wp2;exact⟨g.oQ.1,⟨⟨rfl,g.oQ.2.1⟩,g.oQ.2.2.1⟩,g.oQ.2.2.2⟩
  ·have hq:(q==s)=false∨((q==s)=true/\(u==d)=false):=by
    by_cases h:q=s
    ·exact .inr ⟨by simp[h],by simp;exact λh2=>hx ⟨h,h2⟩⟩
    ·exact .inl (by simp[h])
   have zg:=aG hx;clear hx
   by_cases h1:max (q-s) (s-q)>1
   ·have g:Hid _:=b.oQ (by simp only[iU,decide_eq_false_iff_not];omega)
    clear b t
    rcases hq with R|⟨R,q1⟩
    all_goals
     gi_wp2_with fail
     refine⟨trivial,?_⟩;refine(CallsIn.inRound Q (cw.2 (kX q s W F G H I))).mono ?_;rintro e w1 ⟨rfl,rfl⟩;gi_wp2_with fail
     refine⟨trivial,?_⟩;gi_wp2;exact⟨g.oQ.1,⟨⟨rfl,g.oQ.2.1⟩,g.oQ.2.2.1⟩,g.oQ.2.2.2⟩
   ·by_cases h2:max (u-d) (d-u)>1
    ·have g:Hid _:=b.oQ (by simp only[iU,decide_eq_false_iff_not];omega)
     clear b t
     rcases hq with R|⟨R,q1⟩
     all_goals
      gi_wp2_with fail
      refine⟨trivial,?_⟩;refine(CallsIn.inRound Q (cw.2 (kX q s W F G H I))).mono ?_;rintro e w1 ⟨rfl,rfl⟩;gi_wp2_with fail
      refine⟨trivial,?_⟩;refine(CallsIn.inRound Q (cw.2 (kX u d _ zb zc zd ze))).mono ?_;rintro e w1 ⟨rfl,rfl⟩;gi_wp2;exact⟨g.oQ.1,⟨⟨rfl,g.oQ.2.1⟩,g.oQ.2.2.1⟩,g.oQ.2.2.2⟩
    ·have g:Hid _:=t.oQ (by have:=zg.oQ;simp only[iU,dte];omega)
     clear b t
     rcases hq with R|⟨R,q1⟩
     all_goals
      gi_wp2_with fail
      refine⟨trivial,?_⟩;refine(CallsIn.inRound Q (cw.2 (kX q s W F G H I))).mono ?_;rintro e w1 ⟨rfl,rfl⟩;gi_wp2_with fail
      refine⟨trivial,?_⟩;refine(CallsIn.inRound Q (cw.2 (kX u d _ zb zc zd ze))).mono ?_;rintro e w1 ⟨rfl,rfl⟩;gi_wp2;exact⟨g.oQ.1,g.oQ.2.1,g.oQ.2.2.1,g.oQ.2.2.2⟩
 case done=>
  rintro D zs W hD rfl ⟨P,a⟩ C;have v:Boxed W w.heap.size 4 (.bool false):=(a.block w.heap.size (by omega)).trans U;have cR:=v.cell;have fR:=v.frozen;gi_wp2;have E:=(KeepsOthers.setCell W ⟨w.heap.size,0,none⟩ (.bool true)).same D _ C rfl;refine⟨by simp,.inl ⟨_,_,rfl,run_takeDeferred E,?_⟩⟩;have J:=cell_kept (v.set (.bool true)).cell (grownBy_putObj' _ D (.deferred none)) (λr e=>by cases e;exact⟨_,E,rfl⟩);refine⟨.bool true,?_,by rw[MS P],(((A.trans (a.mono (by omega))).setCell (p:=⟨w.heap.size,0,none⟩) (nlq _) _).trans (belowK_b (w:=w) (nlq _) _ D _ _ (by omega) E rfl rfl))⟩
  simp[results,Tryz.f259,go_sem,J]
 case stop=>
  rintro D c m W hD ⟨k,hk,rfl⟩ ⟨⟨⟨rfl,x,hx,hy⟩,v⟩,a⟩ C;gi_wp2;refine⟨by simp,.inl ⟨_,_,rfl,run_takeDeferred C,?_⟩⟩;have J:=cell_kept v.cell (grownBy_putObj' _ D (.deferred none)) (λr e=>by cases e;exact⟨_,C,rfl⟩);refine⟨.bool false,?_,by rw[MQ hk hx hy],a.trans (belowK_b (w:=w) (nlq _) W D _ _ (by omega) C rfl rfl)⟩
  simp[results,Tryz.f259,go_sem,J]
def I1 (s:Value)(bl off len z:Nat)(c0 cl:Cx)(j:Nat)(vs:Nat->Value)(w:World):Prop:=
 match j with
 |0=>vs 0=s
 |1=>vs 1=.pointer (some ⟨bl,off,none⟩)
 |2=>vs 2=c0.val
 |3=>vs 3=s
 |4=>vs 4=s
 |5=>vs 5=.int .i64 (len:Int)
 |6=>vs 6=.int .i64 ((len:Int)-1)
 |7=>vs 7=.pointer (some ⟨bl,off+(len-1)*2,none⟩)
 |8=>vs 8=cl.val
 |9=>vs 9≠vs 10/\∃p u v,vs 9=.pointer (some ⟨p,0,none⟩)/\z<=p/\w.heap[p]?=some (.cells #[u,v] 120)
 |10=>vs 9≠vs 10/\∃p u v,vs 10=.pointer (some ⟨p,0,none⟩)/\z<=p/\w.heap[p]?=some (.cells #[u,v] 120)
 |11=>∃p,vs 9=.pointer (some ⟨p,0,none⟩)/\xZ w p c0
 |12=>∃p,vs 10=.pointer (some ⟨p,0,none⟩)/\xZ w p cl
 |_=>True
theorem I1.upd {s:Value}{e c b z:Nat}{f g:Cx}{j i:Nat}{a:Nat->Value}{w:World}(h:I1 s e c b z f g j a w)(l:j≠i)(k:i≠9)(d:i≠10)(v:Value):I1 s e c b z f g j (aH a i v) w:=by
 have e9:Go.Proofs.YtcdbcliaepcpfaaGreatDoor.aH a i v 9=a 9:=by unfold Go.Proofs.YtcdbcliaepcpfaaGreatDoor.aH;rw[if_neg (Ne.symm k)]
 have e10:Go.Proofs.YtcdbcliaepcpfaaGreatDoor.aH a i v 10=a 10:=by unfold Go.Proofs.YtcdbcliaepcpfaaGreatDoor.aH;rw[if_neg (Ne.symm d)]
 have ej:Go.Proofs.YtcdbcliaepcpfaaGreatDoor.aH a i v j=a j:=by unfold Go.Proofs.YtcdbcliaepcpfaaGreatDoor.aH;rw[if_neg l]
 unfold I1 at h ⊢;split<;>simp_all
theorem I1.zL {s:Value}{c b a z:Nat}{d f:Cx}{j:Nat}{i:Nat->Value}{w w':World}(h:I1 s c b a z d f j i w)(g:aF w w'):I1 s c b a z d f j i w':=by
 have n:∀{p:Nat} {o:Obj},w.heap[p]?=some o->w'.heap[p]?=some o:=λh=>(g.block _ (bU h)).trans h;unfold I1 at h ⊢;split
 all_goals first
  |exact h
  |exact⟨h.1,by obtain⟨p,u,v,e,m,l⟩:=h.2;exact⟨p,u,v,e,m,n l⟩⟩
  |(obtain⟨p,e,k⟩:=h;exact⟨p,e,k.zL g⟩)
  |trivial
theorem I1.turn {s:Value} {o d b z:Nat} {r t:Cx} {j:Nat} {g:Nat->Value} {w w':World} {q:Nat} (h:I1 s o d b z r t j g w) (B:∃ u v,w'.heap[q]?=some (.cells #[u,v] 120)) (l:∀ p,p≠q->w'.heap[p]?=w.heap[p]?)
 (i:j=11->g 9≠.pointer (some ⟨q,0,none⟩)) (k:j=12->g 10≠.pointer (some ⟨q,0,none⟩)):I1 s o d b z r t j g w':=by
 have y:∀ {p:Nat} {c:Cx},p≠q->xZ w p c->xZ w' p c:=fun a f=>⟨by have:=f.1;simp only[World.cell?,l _ a]at this ⊢;exact this,by have:=f.2;simp only[World.cell?,l _ a]at this ⊢;exact this⟩;unfold I1 at h ⊢
 split
 all_goals first
  | exact h
  | (obtain⟨A,p,u,v,e,x,m⟩:=h
     refine⟨A,p,?_⟩
     by_cases a:p=q
     · subst a;obtain⟨C,D,n⟩:=B;exact⟨C,D,e,x,n⟩
     · exact⟨u,v,e,x,by rw[l _ a];exact m⟩)
  | (obtain⟨p,e,f⟩:=h
     refine⟨p,e,y ?_ f⟩;intro a;subst a
     first | exact i rfl e | exact k rfl e)
  | trivial
theorem ON {w:World}{z j:Nat}{a:Array Value}{t:TypeId}{v:Value}(h:w.heap[z]?=some (.cells a t))(b:a[j]?=some v):w.cell? ⟨z,j,none⟩=some v:=by simp[World.cell?,h,b]
theorem SW {w:World}{z:Nat}{t:TypeId}{u v:Value}(h:w.heap[z]?=some (.cells #[u,v] t)):w.rowIs z t 2 (λi=>if i=0 then u else v):=
 ⟨#[u,v],h,rfl,λi a=>by match i,a with|0,_=>rfl|1,_=>rfl⟩
theorem OH {w:World}{z:Nat}{t:TypeId}{f:Nat->Value}(h:w.rowIs z t 2 f):∃u v,w.heap[z]?=some (.cells #[u,v] t):=by
 obtain⟨a,c,d,_⟩:=h;refine⟨a[0],a[1],?_⟩;rw[c];congr 2;apply Array.ext;·simp[d]
 ·intro i h1 b;have:i=0∨i=1:=by simp at b;omega
  rcases this with rfl|rfl<;>rfl
theorem VQ (n:Nat) (hn:3<=n) (P:List Fx) (l:List Cx) (af:Option Addr) (cf M r A B:Nat) (w:World) (z:w.cell? ⟨B,0,none⟩=some (.slice af P.length cf)) (za:Xs 3 Fx.cells w af P) (hc:∀ j (h:j<l.length),aZ w M (r+j*2) l[j].cells) (zb:P.length<=1048576) (hnl:l.length<=1048576) (hl1:1<=l.length):
 CallsIn Fence.wide n Tryz.prog 260 #[.slice (some ⟨M,r,none⟩) l.length A,.pointer (some ⟨B,0,none⟩)] w fun e w'=>e=.returned (.bool (wW P l))/\aF w w':=by
 have h1:1<=n:=by omega
 have b0:=hc 0 (by omega);have bn:=hc (l.length-1) (by omega);have E0:l[0]'(by omega)=k9 l 0:=(i8 l 0 (by omega)).symm;have E1:l[l.length-1]'(by omega)=k9 l (l.length-1):=(i8 l (l.length-1) (by omega)).symm;rw[E0,Nat.zero_mul,Nat.add_zero]at b0;rw[E1]at bn;unfold wW;generalize k9 l 0=c0 at b0;generalize k9 l (l.length-1)=cl at bn;obtain⟨v1,g1⟩:∃ v,BV P c0.x c0.y=v:=⟨_,rfl⟩;obtain⟨v2,g2⟩:∃ v,BV P cl.x cl.y=v:=⟨_,rfl⟩;rw[g1,g2];have hlen:(1:Int)<=(l.length:Int):=by omega
 clear hc E0 E1;refine callsIn_of_wp Tryz.func260 rfl trivial ?_ rfl;simp only[Tryz.ntmps260,lsz,llc,lln,Nat.reduceAdd,Nat.reduceSub,ars,arz,lpt,lap,lna,lca];gi_wp2_with fail
 refine nH (by kernel_rfl) (fun c=>{ tmps:=#[.slice (some ⟨M,r,none⟩) l.length A,.pointer (some ⟨B,0,none⟩),undef,.bool false,c 9,c 10,c 0,c 1,c 2,c 3,c 4,c 5,c 6,c 7,c 8,undef,undef,undef,undef,undef,undef,undef,undef,undef,undef,undef,undef,undef,undef],defers:=[]}) (fun _=>undef)
  (I1 (.slice (some ⟨M,r,none⟩) l.length A) M r l.length w.heap.size c0 cl) (o5 (by kernel_rfl)) ?step ?fin
 case step=>
  intro D i o c w' d zc Q f g m b;have hi:i<13:=(lgs.1 f).1
  match i,hi with
  | 0,_=>
   simp at f;subst f;gi_wp2;refine dE.mk' (.slice (some ⟨M,r,none⟩) l.length A) (by simp[aH]) m rfl (fun a ha=>(b a ha).upd (i:=0) (fun e=>d (by rw[← e];exact ha)) (by omega) (by omega) _)
  | 1,_=>
   simp at f;subst f;have d0:c 0=_:=b 0 (Zq g 0);rw[d0];gi_wp2;refine dE.mk' (.pointer (some ⟨M,r,none⟩)) (by simp[aH,d0]) m rfl (fun a ha=>(b a ha).upd (i:=1) (fun e=>d (by rw[← e];exact ha)) (by omega) (by omega) _)
  | 2,_=>
   simp at f;subst f;have d1:c 1=_:=b 1 (Zq g 1);rw[d1];obtain⟨k0,k1⟩:=pM (b0.zL m);gi_wp2;refine dE.mk' (c0.val) (by simp[aH,d1]) m rfl (fun a ha=>(b a ha).upd (i:=2) (fun e=>d (by rw[← e];exact ha)) (by omega) (by omega) _)
  | 3,_=>
   simp at f;subst f;gi_wp2;refine dE.mk' (.slice (some ⟨M,r,none⟩) l.length A) (by simp[aH]) m rfl (fun a ha=>(b a ha).upd (i:=3) (fun e=>d (by rw[← e];exact ha)) (by omega) (by omega) _)
  | 4,_=>
   simp at f;subst f;gi_wp2;refine dE.mk' (.slice (some ⟨M,r,none⟩) l.length A) (by simp[aH]) m rfl (fun a ha=>(b a ha).upd (i:=4) (fun e=>d (by rw[← e];exact ha)) (by omega) (by omega) _)
  | 5,_=>
   simp at f;subst f;have d4:c 4=_:=b 4 (Zq g 4);rw[d4];gi_wp2;refine dE.mk' (.int .i64 (l.length:Int)) (by simp[aH,d4]) m rfl (fun a ha=>(b a ha).upd (i:=5) (fun e=>d (by rw[← e];exact ha)) (by omega) (by omega) _)
  | 6,_=>
   simp at f;subst f;have d5:c 5=_:=b 5 (Zq g 5);rw[d5];gi_wp2;refine dE.mk' (.int .i64 ((l.length:Int)-1)) (by simp[aH,d5]) m rfl (fun a ha=>(b a ha).upd (i:=6) (fun e=>d (by rw[← e];exact ha)) (by omega) (by omega) _)
  | 7,_=>
   simp at f;subst f;have d3:c 3=_:=b 3 (Zq g 3);have d6:c 6=_:=b 6 (Zq g 6);rw[d3,d6];gi_wp2;refine dE.mk' (.pointer (some ⟨M,r+(l.length-1)*2,none⟩)) (by simp[aH,d3,d6]) m rfl (fun a ha=>(b a ha).upd (i:=7) (fun e=>d (by rw[← e];exact ha)) (by omega) (by omega) _)
  | 8,_=>
   simp at f;subst f;have d7:c 7=_:=b 7 (Zq g 7);rw[d7];obtain⟨k0,k1⟩:=pM (bn.zL m);gi_wp2;refine dE.mk' (cl.val) (by simp[aH,d7]) m rfl (fun a ha=>(b a ha).upd (i:=8) (fun e=>d (by rw[← e];exact ha)) (by omega) (by omega) _)
  | 9,_=>
   simp at f;subst f;gi_wp2;have G:aF w' (w'.alloc (.cells #[.int .i64 0,.int .i64 0] 120)):=aB (br _ _) _;have I:(w'.alloc (.cells #[.int .i64 0,.int .i64 0] 120)).heap[w'.heap.size]?=some (.cells #[.int .i64 0,.int .i64 0] 120):=wnq w' _;have L:=m.size
   have s:D 10->c 10≠.pointer (some ⟨w'.heap.size,0,none⟩):=fun C e=>by
    obtain⟨_,p,u,v,E,_,V⟩:=b 10 C;rw[e]at E;simp at E;have:=(bU V);omega
   have hu:¬ D 10->c 10=undef:=zc 10
   have J:c 10≠.pointer (some ⟨w'.heap.size,0,none⟩):=by
    by_cases C:D 10
    · exact s C
    · rw[hu C];intro e;cases e
   refine dE.mk' (.pointer (some ⟨w'.heap.size,0,none⟩)) (by simp[aH]) (m.trans (G.mono L)) ?_ (fun a ha=>?_)
   · exact⟨by simp only[aH];simp;exact fun e=>J e.symm,w'.heap.size,_,_,by simp[aH],L,I⟩
   · have S:=(b a ha).zL G
     have zd:a≠9:=fun e=>d (by rw[← e];exact ha);have U:¬ D 11:=fun C=>d (Q 11 _ C rfl (eD 9) (by simp) rfl);unfold I1 at S ⊢
     split
     all_goals first
      | (simp only[aH];simp;exact S)
      | exact absurd rfl zd
      | exact absurd ha U
      | (obtain⟨_,p,u,v,e,O,k⟩:=S
         exact⟨by simp only[aH];simp;exact fun e=>J e.symm,p,u,v,by simp only[aH];simp;exact e,O,k⟩)
      | trivial
  | 10,_=>
   simp at f;subst f;gi_wp2;have G:aF w' (w'.alloc (.cells #[.int .i64 0,.int .i64 0] 120)):=aB (br _ _) _;have I:(w'.alloc (.cells #[.int .i64 0,.int .i64 0] 120)).heap[w'.heap.size]?=some (.cells #[.int .i64 0,.int .i64 0] 120):=wnq w' _;have L:=m.size
   have s:D 9->c 9≠.pointer (some ⟨w'.heap.size,0,none⟩):=fun C e=>by
    obtain⟨_,p,u,v,E,_,V⟩:=b 9 C;rw[e]at E;simp at E;have:=(bU V);omega
   have hu:¬ D 9->c 9=undef:=zc 9
   have J:c 9≠.pointer (some ⟨w'.heap.size,0,none⟩):=by
    by_cases C:D 9
    · exact s C
    · rw[hu C];intro e;cases e
   refine dE.mk' (.pointer (some ⟨w'.heap.size,0,none⟩)) (by simp[aH]) (m.trans (G.mono L)) ?_ (fun a ha=>?_)
   · exact⟨by simp only[aH];simp;exact J,w'.heap.size,_,_,by simp[aH],L,I⟩
   · have S:=(b a ha).zL G
     have Z:a≠10:=fun e=>d (by rw[← e];exact ha);have U:¬ D 12:=fun C=>d (Q 12 _ C rfl (eD 10) (by simp) rfl);unfold I1 at S ⊢
     split
     all_goals first
      | (simp only[aH];simp;exact S)
      | exact absurd rfl Z
      | exact absurd ha U
      | (obtain⟨_,p,u,v,e,O,k⟩:=S
         exact⟨by simp only[aH];simp;exact J,p,u,v,by simp only[aH];simp;exact e,O,k⟩)
      | trivial
  | 11,_=>
   simp at f;subst f;have X:c 2=_:=b 2 (Zq g 2);obtain⟨s,p,u,v,N,O,k⟩:=b 9 (Zq g 9);have R:=aG s;have F:=aG N;rw[X,N];have k0:w'.cell? ⟨p,0,none⟩=some u:=ON k rfl;have k1:w'.cell? ⟨p,1,none⟩=some v:=ON k rfl;have t:=SW k;have fz:=fun i=>t.frozen i;clear s;gi_wp2;have W:=(t.set 0 (.int .i64 c0.x)).set 1 (.int .i64 c0.y);refine dE.mk' undef (by simp[aH,X,N]) ((m.setCell O _).setCell O _) ?_ (fun a ha=>?_)
   · exact⟨p,by simp only[aH];simp;exact F.oQ,W.cell (i:=0) (by omega),W.cell (i:=1) (by omega)⟩
   · refine(I1.turn (b a ha) (q:=p) (OH W) (fun p' K=>?_) (fun e=>?_) (fun e=>?_)).upd (i:=11) (fun e=>d (by rw[← e];exact ha)) (by omega) (by omega) _
     · rw[Below.heap_setCell _ _ _ _ K,Below.heap_setCell _ _ _ _ K]
     · exact absurd (by rw[← e];exact ha) d
     · intro E;exact R.oQ (F.oQ.trans E.symm)
  | 12,_=>
   simp at f;subst f;have X:c 8=_:=b 8 (Zq g 8);obtain⟨s,p,u,v,N,O,k⟩:=b 10 (Zq g 10);have R:=aG s;have F:=aG N;rw[X,N];have k0:w'.cell? ⟨p,0,none⟩=some u:=ON k rfl;have k1:w'.cell? ⟨p,1,none⟩=some v:=ON k rfl;have t:=SW k;have fz:=fun i=>t.frozen i;clear s;gi_wp2;have W:=(t.set 0 (.int .i64 cl.x)).set 1 (.int .i64 cl.y);refine dE.mk' undef (by simp[aH,X,N]) ((m.setCell O _).setCell O _) ?_ (fun a ha=>?_)
   · exact⟨p,by simp only[aH];simp;exact F.oQ,W.cell (i:=0) (by omega),W.cell (i:=1) (by omega)⟩
   · refine(I1.turn (b a ha) (q:=p) (OH W) (fun p' K=>?_) (fun e=>?_) (fun e=>?_)).upd (i:=12) (fun e=>d (by rw[← e];exact ha)) (by omega) (by omega) _
     · rw[Below.heap_setCell _ _ _ _ K,Below.heap_setCell _ _ _ _ K]
     · intro E;exact R.oQ (E.trans F.oQ.symm)
     · exact absurd (by rw[← e];exact ha) d
 case fin=>
  intro c w' m b;obtain⟨p,N,q0,q1⟩:=b 11 (by decide);obtain⟨q,Y,r0,r1⟩:=b 12 (by decide);have e0:c 0=_:=b 0 (by decide);have e1:c 1=_:=b 1 (by decide);have E:c 2=_:=b 2 (by decide);have e3:c 3=_:=b 3 (by decide);have e4:c 4=_:=b 4 (by decide);have e5:c 5=_:=b 5 (by decide);have e6:c 6=_:=b 6 (by decide);have e7:c 7=_:=b 7 (by decide);have e8:c 8=_:=b 8 (by decide);rw[e0,e1,E,e3,e4,e5,e6,e7,e8,N,Y];have kB:=(m.cell (p:=⟨B,0,none⟩) (aA z)).trans z;clear b e0 e1 E e3 e4 e5 e6 e7 e8 N Y b0 bn z;gi_wp2_with fail
  refine⟨trivial,?_⟩;refine(cw.2 (nN P _ _ _ _ _ (za.zL m) zb)).mono ?_;rintro e w1 ⟨rfl,H⟩;rw[g1];have kB1:=(H.cell (p:=⟨B,0,none⟩) (aA kB)).trans kB;have r01:=(H.cell (p:=⟨q,0,none⟩) (aA r0)).trans r0;have r11:=(H.cell (p:=⟨q,1,none⟩) (aA r1)).trans r1;have T:=aC m H;clear kB r0 r1 q0 q1 H
  cases v1 with
  | false=>
   gi_wp2_with fail
   refine⟨trivial,?_⟩;gi_wp2;go_ret;exact⟨rfl,T⟩
  | true=>
   gi_wp2_with fail
   refine⟨trivial,?_⟩;refine(cw.2 (nN P _ _ _ _ _ (za.zL T) zb)).mono ?_;rintro e w2 ⟨rfl,ze⟩;rw[g2];gi_wp2;go_ret;exact⟨rfl,aC T ze⟩
theorem SI (c:List Fx)(l:List Cx)(f m:Option Addr)(n b B:Nat)(w:World)(a:w.cell? ⟨B,0,none⟩=some (.slice f c.length n))(g:Xs 3 Fx.cells w f c)(q:Xs 2 Cx.cells w m l)(i:c.length<=1048576)(j:l.length<=1048576)(d:1<=l.length):
 aY 260 #[.slice m l.length b,.pointer (some ⟨B,0,none⟩)] w λe w'=>e=.returned (.bool (wW c l))/\aF w w':=by
 rcases q with h|⟨o,k,rfl,p⟩;·subst h;simp at d
 ·exact cw.1 (VQ 3 (by omega) c l f n o k b B w a g p i j d)
theorem KL (g:Option Addr)(a:Nat)(l:List Cx)(d:l.all fM=true)(b:1<=l.length)(c:l.length<=1048576)(w:World)(m:Xs 2 Cx.cells w g l):
 aY 259 #[.slice g l.length a] w λe i=>e=.returned (.bool (iA l))/\aF w i:=by
 rcases m with h|⟨j,f,rfl,k⟩;·subst h;simp at b
 ·exact cw.1 (MY 6 (by omega) j f a l d b c w k)
end Go.Proofs.YtcdbcliaepcpfaaGreatDoor
namespace Go.Proofs.YtcdbcliaepcpfaaGreatDoor
set_option maxRecDepth 100000
set_option maxHeartbeats 2000000
open Go.RowKit
def I6 (fl:List Fx)(l:List Cx)(k:Nat):Prop:=(0<k->zB l.length=true)/\(1<k->l.all fM=true)/\(2<k->iA l=true)/\(3<k->wW fl l=true)
theorem IA {n:Nat}(h:zB n=true):1<=n:=by simp only[zB,dte]at h;omega
theorem JZ (d:List Fx)(l:List Cx)(x r:Option Addr)(E f G B:Nat)(w:World)(A:Xs 3 Fx.cells w x d)(C:Xs 2 Cx.cells w r l)(D:d.length<=1048576)(v:l.length<=1048576)
 (m:w.cell? ⟨G,0,none⟩=some (.func (.func 257) #[] #[]))(n:w.cell? ⟨G,1,none⟩=some (.func (.func 258) #[] #[]))(o:w.cell? ⟨G,2,none⟩=some (.func (.func 259) #[] #[]))
 (q:w.cell? ⟨G,3,none⟩=some (.func (.func 260) #[] #[.pointer (some ⟨B,0,none⟩)]))(F:w.cell? ⟨B,0,none⟩=some (.slice x d.length E)):
 aY 256 #[.slice r l.length f,.slice (some ⟨G,0,none⟩) 4 4] w λe w'=>e=.returned (.bool (jI d l))/\aF w w':=by
 obtain⟨V,z⟩:=bP (jI d l);rw[←z];have t:=aG z;clear z;have s:=aG F;clear F
 go_enter Tryz.func256,Tryz.ntmps256
 go_wp2
 go_loopw [9] (λi wr=>∃k:Nat,k<=4/\i=.int .i64 k/\aF w wr/\Hid (I6 d l k)) (λi _=>4-(intOf i).toNat)
 case atStart=>exact⟨0,by omega,rfl,br _ _,by simp[Hid,I6]⟩
 case round=>
  obtain⟨k,hk,rfl,a,b⟩:=hrel;have j:k=0∨k=1∨k=2∨k=3∨k=4:=by omega
  rcases j with H|I|J|K|L
  ·subst H
   have y:=(a.cell (p:=⟨G,0,none⟩) (aA m)).trans m;clear m n o q
   go_wp2_with (go_at_call 257;refine(V0 l.length f r _ v).mono ?_;rintro e wr ⟨rfl,rfl⟩)
   ·have c:zB l.length=false:=nf (by assumption)
    go_ret;exact⟨aD (by rw[t.oQ];exact(show jI d l=false from by rw[jI,c];rfl).symm),a⟩
   ·have c:zB l.length=true:=nt (by assumption)
    go_roundw
    case rel=>exact⟨1,by omega,by go_num,a,⟨λ_=>c,λh=>absurd h (by omega),λh=>absurd h (by omega),λh=>absurd h (by omega)⟩⟩
    case measure=>simp[intOf]
  ·subst I
   have y:=(a.cell (p:=⟨G,1,none⟩) (aA n)).trans n;clear m n o q
   go_wp2_with (go_at_call 258;refine(JD l r f _ (C.zL a) v).mono ?_;rintro e u ⟨rfl,g⟩;have a:aF w u:=bL a (nlq _) g)
   ·have c:l.all fM=false:=nf (by assumption)
    go_ret;exact⟨aD (by rw[t.oQ];exact(show jI d l=false from by rw[jI,c];simp).symm),a⟩
   ·have c:l.all fM=true:=nt (by assumption)
    go_roundw
    case rel=>exact⟨2,by omega,by go_num,a,⟨λ_=>b.out.1 (by omega),λ_=>c,λh=>absurd h (by omega),λh=>absurd h (by omega)⟩⟩
    case measure=>simp[intOf]
  ·subst J
   have y:=(a.cell (p:=⟨G,2,none⟩) (aA o)).trans o;clear m n o q
   go_wp2_with (go_at_call 259;refine(KL r f l (b.out.2.1 (by omega)) (IA (b.out.1 (by omega))) v _ (C.zL a)).mono ?_;rintro e u ⟨rfl,g⟩;have a:aF w u:=bL a (nlq _) g)
   ·have c:iA l=false:=nf (by assumption)
    go_ret;exact⟨aD (by rw[t.oQ];exact(show jI d l=false from by rw[jI,c];simp).symm),a⟩
   ·have c:iA l=true:=nt (by assumption)
    go_roundw
    case rel=>exact⟨3,by omega,by go_num,a,⟨λ_=>b.out.1 (by omega),λ_=>b.out.2.1 (by omega),λ_=>c,λh=>absurd h (by omega)⟩⟩
    case measure=>simp[intOf]
  ·subst K
   have y:=(a.cell (p:=⟨G,3,none⟩) (aA q)).trans q;clear m n o q
   go_wp2_with (go_at_call 260;refine(SI d l x r E f B _ ((a.cell (p:=⟨B,0,none⟩) (aA s.oQ)).trans s.oQ) (A.zL a) (C.zL a) D v (IA (b.out.1 (by omega)))).mono ?_;rintro e u ⟨rfl,g⟩;have a:aF w u:=bL a (nlq _) g)
   ·have c:wW d l=false:=nf (by assumption)
    go_ret;exact⟨aD (by rw[t.oQ];exact(show jI d l=false from by rw[jI,c];simp).symm),a⟩
   ·have c:wW d l=true:=nt (by assumption)
    go_roundw
    case rel=>exact⟨4,by omega,by go_num,a,⟨λ_=>b.out.1 (by omega),λ_=>b.out.2.1 (by omega),λ_=>b.out.2.2.1 (by omega),λ_=>c⟩⟩
    case measure=>simp[intOf]
  ·subst L
   clear m n o q;go_wp2
   go_ret;obtain⟨M,N,O,P⟩:=b.out;exact⟨aD (by rw[t.oQ,jI,M (by omega),N (by omega),O (by omega),P (by omega)];rfl),a⟩
theorem D9 (b:List Fx)(l:List Cx)(c d:Option Addr)(i a:Nat)(w:World)(g:Xs 3 Fx.cells w c b)(j:Xs 2 Cx.cells w d l)(h:b.length<=1048576)(k:l.length<=1048576):
 aY 237 #[.slice c b.length i,.slice d l.length a] w λe w'=>e=.returned (.bool (jI b l))/\aF w w':=by
 go_enter Tryz.func237,Tryz.ntmps237;go_wp2_with fail;refine(JZ b l c d i a (w.heap.size+1) w.heap.size _ (g.zL (aB (aB (br _ _) _) _)) (j.zL (aB (aB (br _ _) _) _)) h k (by simp) (by simp) (by simp) (by simp) (by simp)).mono ?_;rintro e w1 ⟨rfl,f⟩;go_wp2_with fail;go_ret;exact⟨rfl,aC (aB (aB (br _ _) _) _) f⟩
theorem LZ (f:List Fx)(l:List Yx)(G H:Option Addr)(L A:Nat)(w:World)(x:Xs 3 Fx.cells w G f)(N:Xs 1 Yx.cells w H l)(z:f.length<=1048576)(hn:l.length<=1048576)(M:∀y∈l,y.In w/\y.l.length<=1048576):
 aY 194 #[.slice G f.length L,.slice H l.length A] w λe w'=>e=.returned (.bool (nM f l))/\aF w w':=by
 by_cases t:1<=l.length/\l.length<=3
 ·obtain⟨V,o⟩:=bP (nM f l)
  rw[←o];have F:Hid (V=l.all λy=>jI f y.l):=by rw[Hid,o,nM,oE,decide_eq_true t];rfl
  clear o;have u:(1:Int)<=(l.length:Int):=by omega
  have B:(l.length:Int)<=3:=by omega
  clear t
  go_enter Tryz.func194,Tryz.ntmps194
  go_wp2
  go_loopw [17] (λi wr=>∃k:Nat,k<=l.length/\i=.int .i64 k/\aF w wr/\Hid ((l.take k).all (λy=>jI f y.l)=true)) (λi _=>l.length-(intOf i).toNat)
  case atStart=>exact⟨0,nz _,rfl,br _ _,by simp[Hid]⟩
  case round=>
   obtain⟨k,hk,rfl,C,s⟩:=hrel
   by_cases j:k<l.length
   ·rcases N with h|⟨bl,off,rfl,I⟩
    ·subst h;simp at j
    ·have r:=(I k j).zL C
     have g:=M l[k] (lgm j);obtain⟨b,q⟩:=bP (l[k]);rw[←q]at r g;have E:=aG q;clear q I;have K:=NR r;rw[Nat.mul_one]at K;clear r;have d:aF w _:=lP C (nlq _) (.cells #[.slice b.a b.l.length b.c] 118);obtain⟨v,J⟩:=bP (jI f b.l);have m:=aG J;clear J
     cases v with
     |false=>
      go_wp2_with (go_at_call 237;refine(D9 f b.l _ _ _ _ _ (x.zL d) (g.1.zL d) z g.2).mono ?_;rintro e D ⟨rfl,p⟩;rw[←m.oQ];have n:aF w D:=aC d p)
      go_ret;exact⟨aD (by rw[F.oQ];exact(iZ _ l k j (by rw[←E.oQ];exact m.oQ.symm)).symm),n⟩
     |true=>
      go_wp2_with (go_at_call 237;refine(D9 f b.l _ _ _ _ _ (x.zL d) (g.1.zL d) z g.2).mono ?_;rintro e D ⟨rfl,p⟩;rw[←m.oQ];have n:aF w D:=aC d p)
      go_roundw
      case rel=>exact⟨k+1,by omega,by go_num,n,by rw[Hid,mQ _ l k j,s.out,←E.oQ,←m.oQ];rfl⟩
      case measure=>simp[intOf];omega
   ·go_wp2
    go_ret;refine⟨aD ?_,C⟩;rw[ltl (by omega)]at s;rw[F.oQ];exact s.out.symm
 ·have o:nM f l=false:=by rw[nM,oE,decide_eq_false t];rfl
  rw[o]
  by_cases h1:1<=l.length
  ·have u:(1:Int)<=(l.length:Int):=by omega
   have B:3<(l.length:Int):=by omega
   have d1:decide ((l.length:Int)<1)=false:=by simp;omega
   clear t o
   go_enter Tryz.func194,Tryz.ntmps194
   go_wp2
   go_ret;exact⟨rfl,br _ _⟩
  ·have u:(l.length:Int)<1:=by omega
   clear t o
   go_enter Tryz.func194,Tryz.ntmps194
   go_wp2
   go_ret;exact⟨rfl,br _ _⟩
theorem E7 (l:List Int)(v:Option Addr)(t:Nat)(w:World)(A:Xs 1 eW w v l)(hn:l.length<=1048576):
 aY 196 #[.slice v l.length t] w λe w'=>e=.returned (.bool (iN l))/\aF w w':=by
 by_cases m:1<=l.length/\l.length<=6
 ·obtain⟨V,c⟩:=bP (iN l)
  rw[←c];have s:Hid (V=l.all yA):=by rw[Hid,c,iN,ES,decide_eq_true m];rfl
  clear c;have n:(1:Int)<=(l.length:Int):=by omega
  have u:(l.length:Int)<=6:=by omega
  clear m
  go_enter Tryz.func196,Tryz.ntmps196
  go_wp2
  go_loopw [15] (λi wr=>∃k:Nat,k<=l.length/\i=.int .i64 k/\aF w wr/\Hid ((l.take k).all yA=true)) (λi _=>l.length-(intOf i).toNat)
  case atStart=>exact⟨0,nz _,rfl,br _ _,by simp[Hid]⟩
  case round=>
   obtain⟨k,hk,rfl,o,g⟩:=hrel
   by_cases a:k<l.length
   ·rcases A with h|⟨bl,off,rfl,y⟩
    ·subst h;simp at a
    ·have f:=(y k a).zL o
     obtain⟨b,d⟩:=bP (l[k]);rw[←d]at f;have r:=aG d;clear d y;have z:=NK f;rw[Nat.mul_one]at z;clear f
     by_cases p:1<=b
     ·by_cases q:b<=6
      ·have j:Hid (yA b=true):=decide_eq_true ⟨p,q⟩
       have x:decide (b<1)=false:=by simp;omega
       go_wp2
       go_roundw
       case rel=>exact⟨k+1,by omega,by go_num,o,by rw[Hid,mQ _ l k a,g.out,←r.oQ,j.oQ];rfl⟩
       case measure=>simp[intOf];omega
      ·have j:Hid (yA b=false):=decide_eq_false (λh=>q h.2)
       have x:decide (b<1)=false:=by simp;omega
       go_wp2
       go_ret;exact⟨aD (by rw[s.oQ];exact(iZ _ l k a (by rw[←r.oQ];exact j.oQ)).symm),o⟩
     ·have j:Hid (yA b=false):=decide_eq_false (λh=>p h.1)
      go_wp2
      go_ret;exact⟨aD (by rw[s.oQ];exact(iZ _ l k a (by rw[←r.oQ];exact j.oQ)).symm),o⟩
   ·go_wp2
    go_ret;refine⟨aD ?_,o⟩;rw[ltl (by omega)]at g;rw[s.oQ];exact g.out.symm
 ·have c:iN l=false:=by rw[iN,ES,decide_eq_false m];rfl
  rw[c]
  by_cases h1:1<=l.length
  ·have n:(1:Int)<=(l.length:Int):=by omega
   have u:6<(l.length:Int):=by omega
   have x:decide ((l.length:Int)<1)=false:=by simp;omega
   clear m c
   go_enter Tryz.func196,Tryz.ntmps196
   go_wp2
   go_ret;exact⟨rfl,br _ _⟩
  ·have n:(l.length:Int)<1:=by omega
   clear m c
   go_enter Tryz.func196,Tryz.ntmps196
   go_wp2
   go_ret;exact⟨rfl,br _ _⟩
theorem QK (b:List Fx)(h:Option Addr)(g B:Nat)(x:Wx)(w:World)(a:w.cell? ⟨B,0,none⟩=some (.slice h b.length g))(d:b.length<=g)(j:g<=9223372036854775807)(l:Xs 3 Fx.cells w h b)(m:b.length<=1048576)(o:∀f∈b,f.n.size<=9223372036854775807):
 aY 186 #[x.val,.pointer (some ⟨B,0,none⟩)] w λe w'=>e=.returned (.bool (cB b))/\aF w w':=by
 have c:aF w (w.alloc x.obj):=aB (br _ _) _;have k:=(c.cell (p:=⟨B,0,none⟩) (aA a)).trans a;go_enter Tryz.func186,Tryz.ntmps186;go_wp2_with fail;refine(pZ b h g d j _ (l.zL c) m o).mono ?_;rintro e w1 ⟨rfl,i⟩;go_wp2;go_ret;exact⟨rfl,aC c i⟩
theorem PT (x:Wx)(w:World)(b:x.n.size<=9223372036854775807):
 aY 187 #[x.val] w λe w'=>e=.returned (.bool (cS x.n))/\aF w w':=by
 go_enter Tryz.func187,Tryz.ntmps187;go_wp2_with fail;refine(sG x.n _ b).mono ?_;rintro e w1 ⟨rfl,a⟩;go_wp2;go_ret;exact⟨rfl,by first|exact aC (aB (br _ _) _) a|(subst a;exact aB (br _ _) _)⟩
theorem PZ (c:List Fx)(d:Option Addr)(i B:Nat)(x:Wx)(w:World)(b:w.cell? ⟨B,0,none⟩=some (.slice d c.length i))(g:Xs 3 Fx.cells w d c)(h:c.length<=1048576)(l:x.In w)(j:x.Fit):
 aY 193 #[x.val,.pointer (some ⟨B,0,none⟩)] w λe w'=>e=.returned (.bool (nM c x.wl))/\aF w w':=by
 have a:aF w (w.alloc x.obj):=aB (br _ _) _;have k:=(a.cell (p:=⟨B,0,none⟩) (aA b)).trans b;go_enter Tryz.func193,Tryz.ntmps193;go_wp2_with fail;refine(LZ c x.wl d _ i _ _ (g.zL a) (l.ws.zL a) h j.wn (λy m=>⟨(l.yn y m).zL a,j.yn y m⟩)).mono ?_;rintro e w1 ⟨rfl,f⟩;go_wp2;go_ret;exact⟨rfl,aC a f⟩
theorem OU (x:Wx)(w:World)(d:x.In w)(c:x.Fit):
 aY 195 #[x.val] w λe w'=>e=.returned (.bool (iN x.ll))/\aF w w':=by
 have a:aF w (w.alloc x.obj):=aB (br _ _) _;go_enter Tryz.func195,Tryz.ntmps195;go_wp2_with fail;refine(E7 x.ll _ _ _ (d.ls.zL a) c.ln).mono ?_;rintro e w1 ⟨rfl,b⟩;go_wp2;go_ret;exact⟨rfl,aC a b⟩
set_option maxHeartbeats 4000000
def IF (fl:List Fx)(x:Wx)(k:Nat):Prop:=(0<k->cB fl=true)/\(1<k->cS x.n=true)/\(2<k->n9 x=true)/\(3<k->rU x.l=true)/\(4<k->nM fl x.wl=true)/\(5<k->iN x.ll=true)
theorem GZ (j:List Fx)(x:Wx)(I:Option Addr)(C G B:Nat)(w:World)(F:Xs 3 Fx.cells w I j)(H:j.length<=1048576)(E:j.length<=C)(K:C<=9223372036854775807)(W:∀f∈j,f.n.size<=9223372036854775807)(N:x.In w)(L:x.Fit)
 (q:w.cell? ⟨G,0,none⟩=some (.func (.func 186) #[] #[.pointer (some ⟨B,0,none⟩)]))(r:w.cell? ⟨G,1,none⟩=some (.func (.func 187) #[] #[]))(s:w.cell? ⟨G,2,none⟩=some (.func (.func 188) #[] #[]))
 (t:w.cell? ⟨G,3,none⟩=some (.func (.func 192) #[] #[]))(u:w.cell? ⟨G,4,none⟩=some (.func (.func 193) #[] #[.pointer (some ⟨B,0,none⟩)]))(v:w.cell? ⟨G,5,none⟩=some (.func (.func 195) #[] #[]))(M:w.cell? ⟨B,0,none⟩=some (.slice I j.length C)):
 aY 185 #[x.val,.slice (some ⟨G,0,none⟩) 6 6] w λe w'=>e=.returned (.bool (eJ j x))/\aF w w':=by
 obtain⟨V,J⟩:=bP (eJ j x);rw[←J];have z:=aG J;clear J;have o:=aG M;clear M
 go_enter Tryz.func185,Tryz.ntmps185
 go_wp2
 go_loopw [9] (λi wr=>∃k:Nat,k<=6/\i=.int .i64 k/\aF w wr/\wr.heap[w.heap.size]?=some x.obj/\Hid (IF j x k)) (λi _=>6-(intOf i).toNat)
 case atStart=>exact⟨0,by omega,rfl,aB (br _ _) _,wnq w _,by simp[Hid,IF]⟩
 case round=>
  obtain⟨k,hk,rfl,b,a,d⟩:=hrel;obtain⟨A,b1,b2,b3,b4,b5,b6,b7⟩:=gJ a;have y:k=0∨k=1∨k=2∨k=3∨k=4∨k=5∨k=6:=by omega
  rcases y with O|P|Q|R|S|T|U
  ·subst O
   have D:=(b.cell (p:=⟨G,0,none⟩) (aA q)).trans q;clear q r s t u v
   go_wp2_with (go_at_call 186;refine(QK j I C B x _ ((b.cell (p:=⟨B,0,none⟩) (aA o.oQ)).trans o.oQ) E K (F.zL b) H W).mono ?_;rintro e m ⟨rfl,c⟩;have a:=(c.block _ (aA A)).trans a;have b:aF w m:=bL b (nlq _) c)
   ·have g:cB j=false:=nf (by assumption)
    go_ret;exact⟨aD (by rw[z.oQ];exact(show eJ j x=false from by rw[eJ,g];simp).symm),b⟩
   ·have g:cB j=true:=nt (by assumption)
    go_roundw
    case rel=>exact⟨1,by omega,by go_num,b,a,⟨λ_=>g,λh=>absurd h (by omega),λh=>absurd h (by omega),λh=>absurd h (by omega),λh=>absurd h (by omega),λh=>absurd h (by omega)⟩⟩
    case measure=>simp[intOf]
  ·subst P
   have D:=(b.cell (p:=⟨G,1,none⟩) (aA r)).trans r;clear q r s t u v
   go_wp2_with (go_at_call 187;refine(PT x _ L.sn).mono ?_;rintro e m ⟨rfl,c⟩;have a:=(c.block _ (aA A)).trans a;have b:aF w m:=bL b (nlq _) c)
   ·have g:cS x.n=false:=nf (by assumption)
    go_ret;exact⟨aD (by rw[z.oQ];exact(show eJ j x=false from by rw[eJ,g];simp).symm),b⟩
   ·have g:cS x.n=true:=nt (by assumption)
    go_roundw
    case rel=>exact⟨2,by omega,by go_num,b,a,⟨λ_=>d.out.1 (by omega),λ_=>g,λh=>absurd h (by omega),λh=>absurd h (by omega),λh=>absurd h (by omega),λh=>absurd h (by omega)⟩⟩
    case measure=>simp[intOf]
  ·subst Q
   have D:=(b.cell (p:=⟨G,2,none⟩) (aA s)).trans s;clear q r s t u v
   go_wp2_with (go_at_call 188;refine(QY x _).mono ?_;rintro e m ⟨rfl,c⟩;have a:=(c.block _ (aA A)).trans a;have b:aF w m:=bL b (nlq _) c)
   ·have g:n9 x=false:=nf (by assumption)
    go_ret;exact⟨aD (by rw[z.oQ];exact(show eJ j x=false from by rw[eJ,g];simp).symm),b⟩
   ·have g:n9 x=true:=nt (by assumption)
    go_roundw
    case rel=>exact⟨3,by omega,by go_num,b,a,⟨λ_=>d.out.1 (by omega),λ_=>d.out.2.1 (by omega),λ_=>g,λh=>absurd h (by omega),λh=>absurd h (by omega),λh=>absurd h (by omega)⟩⟩
    case measure=>simp[intOf]
  ·subst R
   have D:=(b.cell (p:=⟨G,3,none⟩) (aA t)).trans t;clear q r s t u v
   go_wp2_with (go_at_call 192;refine(SA x _).mono ?_;rintro e m ⟨rfl,c⟩;have a:=(c.block _ (aA A)).trans a;have b:aF w m:=bL b (nlq _) c)
   ·have g:rU x.l=false:=nf (by assumption)
    go_ret;exact⟨aD (by rw[z.oQ];exact(show eJ j x=false from by rw[eJ,g];simp).symm),b⟩
   ·have g:rU x.l=true:=nt (by assumption)
    go_roundw
    case rel=>exact⟨4,by omega,by go_num,b,a,⟨λ_=>d.out.1 (by omega),λ_=>d.out.2.1 (by omega),λ_=>d.out.2.2.1 (by omega),λ_=>g,λh=>absurd h (by omega),λh=>absurd h (by omega)⟩⟩
    case measure=>simp[intOf]
  ·subst S
   have D:=(b.cell (p:=⟨G,4,none⟩) (aA u)).trans u;clear q r s t u v
   go_wp2_with (go_at_call 193;refine(PZ j I C B x _ ((b.cell (p:=⟨B,0,none⟩) (aA o.oQ)).trans o.oQ) (F.zL b) H (N.zL b) L).mono ?_;rintro e m ⟨rfl,c⟩;have a:=(c.block _ (aA A)).trans a;have b:aF w m:=bL b (nlq _) c)
   ·have g:nM j x.wl=false:=nf (by assumption)
    go_ret;exact⟨aD (by rw[z.oQ];exact(show eJ j x=false from by rw[eJ,g];simp).symm),b⟩
   ·have g:nM j x.wl=true:=nt (by assumption)
    go_roundw
    case rel=>exact⟨5,by omega,by go_num,b,a,⟨λ_=>d.out.1 (by omega),λ_=>d.out.2.1 (by omega),λ_=>d.out.2.2.1 (by omega),λ_=>d.out.2.2.2.1 (by omega),λ_=>g,λh=>absurd h (by omega)⟩⟩
    case measure=>simp[intOf]
  ·subst T
   have D:=(b.cell (p:=⟨G,5,none⟩) (aA v)).trans v;clear q r s t u v
   go_wp2_with (go_at_call 195;refine(OU x _ (N.zL b) L).mono ?_;rintro e m ⟨rfl,c⟩;have a:=(c.block _ (aA A)).trans a;have b:aF w m:=bL b (nlq _) c)
   ·have g:iN x.ll=false:=nf (by assumption)
    go_ret;exact⟨aD (by rw[z.oQ];exact(show eJ j x=false from by rw[eJ,g];simp).symm),b⟩
   ·have g:iN x.ll=true:=nt (by assumption)
    go_roundw
    case rel=>exact⟨6,by omega,by go_num,b,a,⟨λ_=>d.out.1 (by omega),λ_=>d.out.2.1 (by omega),λ_=>d.out.2.2.1 (by omega),λ_=>d.out.2.2.2.1 (by omega),λ_=>d.out.2.2.2.2.1 (by omega),λ_=>g⟩⟩
    case measure=>simp[intOf]
  ·subst U
   clear q r s t u v;go_wp2
   go_ret;obtain⟨X,Y,Z,q3,q4,q5⟩:=d.out;exact⟨aD (by rw[z.oQ,eJ,X (by omega),Y (by omega),Z (by omega),q3 (by omega),q4 (by omega),q5 (by omega)];rfl),b⟩
theorem tV (a:List Fx)(x:Wx)(c:Option Addr)(b:Nat)(w:World)(k:Xs 3 Fx.cells w c a)(l:a.length<=1048576)(g:a.length<=b)(j:b<=9223372036854775807)(s:∀f∈a,f.n.size<=9223372036854775807)(r:x.In w)(q:x.Fit):
 aY 140 #[.slice c a.length b,x.val] w λe w'=>e=.returned (.bool (eJ a x))/\aF w w':=by
 have d:aF w ((w.alloc (.cells #[.slice c a.length b] 27)).alloc x.obj):=aB (aB (br _ _) _) _;have h:=wnq ((w.alloc (.cells #[.slice c a.length b] 27)).alloc x.obj) (.cells #[.func (.func 186) #[] #[.pointer (some ⟨w.heap.size,0,none⟩)],.func (.func 187) #[] #[],.func (.func 188) #[] #[],.func (.func 192) #[] #[],.func (.func 193) #[] #[.pointer (some ⟨w.heap.size,0,none⟩)],.func (.func 195) #[] #[]] 219);rw[wsa,wsa]at h;have m:=(halq ((w.alloc (.cells #[.slice c a.length b] 27)).alloc x.obj) (.cells #[.func (.func 186) #[] #[.pointer (some ⟨w.heap.size,0,none⟩)],.func (.func 187) #[] #[],.func (.func 188) #[] #[],.func (.func 192) #[] #[],.func (.func 193) #[] #[.pointer (some ⟨w.heap.size,0,none⟩)],.func (.func 195) #[] #[]] 219) w.heap.size (by simp;omega)).trans ((halq (w.alloc (.cells #[.slice c a.length b] 27)) x.obj w.heap.size (by simp)).trans (wnq w _));have p:Hid _:=h;have o:Hid _:=m;clear h m
 go_enter Tryz.func140,Tryz.ntmps140
 go_wp2_with fail
 refine(GZ a x c b (w.heap.size+1+1) w.heap.size _ (k.zL (aB d _)) l g j s (r.zL (aB d _)) q ?g0 ?g1 ?g2 ?g3 ?g4 ?g5 ?g6).mono ?_
 all_goals try (first|exact aJ p.oQ rfl|exact aJ o.oQ rfl)
 rintro e w1 ⟨rfl,i⟩;go_wp2_with fail
 go_ret;exact⟨rfl,aC (aB d _) i⟩
end Go.Proofs.YtcdbcliaepcpfaaGreatDoor
