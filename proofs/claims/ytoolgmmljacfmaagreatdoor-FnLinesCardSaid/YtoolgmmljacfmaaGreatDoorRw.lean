import Derived.Deep.DeepCutAuto
import Derived.Deep.LoopGhost
import Derived.Test.YtoolgmmljacfmaaGreatDoorRd4
import Derived.Test.YtoolgmmljacfmaaGreatDoorTurn
set_option maxRecDepth 100000
set_option maxHeartbeats 4000000
open List renaming length → ln
open Go.RowKit
namespace Go.Proofs.YtoolgmmljacfmaaGreatDoor
open Go.BigFrame
variable {w c m w1:Wd}{R n d r z W:Nat}{k e t O:Oa}{v y:Va}{l s Q:List Cx}{q u f g j p C D P F x:Int}{xs:List Va}
def rD (c:Cx):Prop:=-100<=c.x/\c.x<=100/\-100<=c.y/\c.y<=100
def two (x y:Int)(i:Nat):Value:=if i=0 then I x else I y
structure zV (w wx:World)(R n cap:Nat)(ao:Option Addr)(q ax ay bx dy:Int)(v:Value)(cs:List Cx):Prop where
 rd:∃p',p'<=q/\Rd wx R ao n cap p'
 but:aZ R w wx
 own:wx.ownsRow (w.heap.size+2) 107 2 v cs.length (aJ Cx.cells cs)
 a:wx.rowIs w.heap.size 107 2 (two ax ay)
 b:wx.rowIs (w.heap.size+1) 107 2 (two bx dy)
theorem zV.cells {q e f g j:Int}(h:zV w c R n d k q e f g j v l):
 c.cell? (Y w.heap.size 0)=some (I e)/\c.cell? (Y w.heap.size 1)=some (I f)/\c.cell? (Y (w.heap.size+1) 0)=some (I g)/\c.cell? (Y (w.heap.size+1) 1)=some (I j):=
 ⟨h.a.cell (i:=0) om,h.a.cell (i:=1) om,h.b.cell (i:=0) om,h.b.cell (i:=1) om⟩
theorem zV.next {q q1 f g i j l:Int}(h:zV w m R n r e q g i j l v s)(d:aZ R m w1)(p:Rd w1 R e n r f)(o:f<=q1)(hR:R<w.heap.size):
 zV w w1 R n r e q1 g i j l v s:=
 ⟨⟨f,o,p⟩,h.but.trans d,wE h.own d om,h.a.of_block (d.block _ h.a.lt om),h.b.of_block (d.block _ h.b.lt om)⟩
theorem zV.drew (h:zV w w1 R n r t q u f g j v s)(k:Nat):
 zV w (w1.drewN k) R n r t q u f g j v s:=
 ⟨by obtain⟨p,m,o⟩:=h.rd;exact⟨p,m,o.zL (below_drewN (br _ _) k)⟩,h.but.drew k,h.own,h.a,h.b⟩
theorem zV.start (h:Rd w R k n z p)(a b:Cx):
 zV w (((w.alloc (.cells #[I a.x,I a.y] 107)).alloc (.cells #[I b.x,I b.y] 107)).alloc (.cells #[I a.x,I a.y] 107)) R n z k p a.x a.y b.x b.y (.slice (some (Y (w.heap.size+2) 0)) 1 1) [a]:=by
 have hl:=h.lt
 have o:∀(c:Cx) (W:Wd),(W.alloc (.cells #[I c.x,I c.y] 107)).rowIs W.heap.size 107 2 (two c.x c.y):=λc W=>
  wra W #[I c.x,I c.y] 107 _ (λi t=>by rcases i with _|_|i<;>first|rfl|(simp at t;omega))
 obtain⟨w1,g⟩:=cI (w.alloc (.cells #[I a.x,I a.y] 107));have l:=o a w;rw[g]at l;obtain⟨d,f⟩:=cI (w1.alloc (.cells #[I b.x,I b.y] 107));have m:=o b w1;rw[f]at m;have q:w1.heap.size=w.heap.size+1:=by rw[←g];simp
 have u:d.heap.size=w.heap.size+2:=by rw[←f];simp[q]
 have r:aG w w1:=by rw[←g];exact aC (br _ _) _
 have s:aG w d:=by rw[←f];exact aC r _
 rw[g,f];have j:aG w (d.alloc (.cells #[I a.x,I a.y] 107)):=aC s _;refine⟨⟨p,ilr _,h.zL (j.mono om)⟩,aZ.below j,?_,?_,?_⟩
 ·refine⟨rfl,Or.inr ⟨d.heap.size,1,_,by rw[u];rfl,om,wnq _ _,sm,by unfold maxLen;omega,rfl,?_⟩⟩;simp[aJ,Cx.cells]
 ·refine(l.of_block ?_).of_block (Below.block (aC (br d.heap.size d) _) _ om);rw[←f];exact Below.block (aC (br w1.heap.size w1) _) _ om
 ·rw[←q];exact m.of_block (Below.block (aC (br d.heap.size d) _) _ om)
theorem zV.store (h:zV w w1 R n W O q C D P u v Q)(x y:Int)(J:R<w.heap.size):
 zV w ((w1.setCell (Y w.heap.size 0) (I x)).setCell (Y w.heap.size 1) (I y)) R n W O q x y P u v Q:=by
 have e:∀B,B<=w.heap.size->Below B w1 ((w1.setCell (ya w 0) (I x)).setCell (ya w 1) (I y)):=λB e=>((br B w1).setCell (p:=(ya w 0)) e _).setCell (p:=(ya w 1)) e _;have f:=e _ (nlq _);have A:∀k,k≠w.heap.size->((w1.setCell (ya w 0) (I x)).setCell (ya w 1) (I y)).heap[k]?=w1.heap[k]?:=λk j=>(bhs _ _ _ _ j).trans (bhs _ _ _ _ j);obtain⟨N,o,L⟩:=h.rd;refine⟨⟨N,o,L.zL (e _ J)⟩,⟨f.os.trans h.but.os,f.tape.trans h.but.tape,f.output.trans h.but.output,nlt h.but.size f.size,λk j M=>(f.block k j).trans (h.but.block k j M)⟩,?_,?_,h.b.of_block (A _ om)⟩
 ·obtain⟨z,m|⟨g,W,l,m,F,G,H⟩⟩:=h.own;·exact⟨z,.inl m⟩
  ·exact⟨z,.inr ⟨g,W,l,m,F,(A g om).trans G,H⟩⟩
 ·refine((h.a.set 0 (I x)).set 1 (I y)).congr λi K=>?_;match i,K with
  |0,_|1,_=>rfl
theorem zV.more (h:zV w m R n d O q P F u x v Q) (hR:R<w.heap.size) (o:Obj) (c:Cx) (z:(m.alloc o).grownBy w1 v.ownBlock)
 (g:w1.ownsRow (w.heap.size+2) 107 2 y (ln Q+1) (aJ Cx.cells Q++c.cells)):zV w w1 R n d O q P F u x y (Q++[c]):=by
 have hl:=h.b.lt;have j:∀B,B<=w.heap.size+2->Below B m w1:=λB j=>((br B m).alloc om o).grown z so (λk l=>by have:=eH h.own l;omega);have e:=j w.heap.size om;have f:=j (w.heap.size+2) om;obtain⟨D,p,A⟩:=h.rd;refine⟨⟨D,p,A.zL (j _ om)⟩,⟨e.os.trans h.but.os,e.tape.trans h.but.tape,e.output.trans h.but.output,nlt h.but.size e.size,λk l C=>(e.block k l).trans (h.but.block k l C)⟩,?_,h.a.of_block (f.block _ om),h.b.of_block (f.block _ om)⟩;rw[eL,lL,lla];exact g
theorem news2 (W:Wd)(x y:Va)(t:TypeId):∀j u,[x,y][j]?=some u->(W.alloc (.cells #[x,y] t)).cell? (((Y W.heap.size 0):Addr).add j)=some u:=by
 intro j u a;match j,a with
 |0,a=>simp at a;subst a;simp[Addr.add]
 |1,a=>simp at a;subst a;simp[Addr.add]
 |n+2,a=>simp at a
theorem ints2 (x y:Int):∀u∈[I x,I y],u.oneCell'=true:=by
 intro u a;simp at a;rcases a with rfl|rfl<;>rfl
theorem iY (h:w.ownsRow R r z v W xs)(hb:n<=R):w.ownsRow n r z v W xs:=by
 obtain⟨d,c|⟨g,a,b,c,h2,f⟩⟩:=h;·exact⟨d,.inl c⟩
 ·exact⟨d,.inr ⟨g,a,b,c,om,f⟩⟩
theorem nI (h:w.ownsRow R n d v r xs):∃a b,v=.slice a r b:=by
 obtain⟨_,⟨rfl,rfl⟩|⟨g,cap,cur,rfl,_⟩⟩:=h;·exact⟨_,_,rfl⟩
 ·exact⟨_,_,rfl⟩
theorem YV (R n f:Nat)(A:Option Addr)(p t:Int)(a b:Cx)(w:World)(h:Rd w R A n f p)(hp:p<=900000)(ha:rD a)(hb:rD b)(ht0:0<=t)(zi:t<=1000):
 Calls Tryz.prog 54 #[.pointer (some ⟨R,0,none⟩),a.val,b.val,.int .i64 t] w λe w'=>(∃v d,e=.returned v/\w'.ownsRow w.heap.size 107 2 v d.length (aJ Cx.cells d)/\1<=d.length/\d.length<=40/\∀c∈d,rD c)/\
  (∃p',p'<=p+240/\Rd w' R A n f p')/\aZ R w w':=by
 have U:=h.lt;have hS:=zV.start h a b;have hbb:-100<=b.x/\b.x<=100/\-100<=b.y/\b.y<=100:=hb;have zg:-100<=a.x/\a.x<=100/\-100<=a.y/\a.y<=100:=ha;obtain⟨i0,hi,zj,zk,zl⟩:=info_parts Tryz.info107
 go_enter Tryz.func54,Tryz.ntmps54
 go_wp2
 go_loopg [3,9,10] 120 (λk s v i wr=>∃(j:Nat) (t z u:Int) (d:List Cx),k+j=120/\i=.int .i64 j/\s=.int .i64 t/\-(j:Int)<=t/\t<=1000/\zV w wr R n f A (p+2*j) z u b.x b.y v d/\(-100<=z/\z<=100/\-100<=u/\u<=100)/\1<=d.length/\d.length<=40/\∀c∈d,rD c)
 case atStart=>exact⟨0,t,a.x,a.y,[a],rfl,rfl,rfl,by omega,zi,by simpa using hS,zg,by simp,by simp,λc V=>by rw[lms.1 V];exact ha⟩
 case round=>
  obtain⟨j,t,z,u,d,hj,rfl,rfl,t0,t1,S,ze,l1,l2,P⟩:=hrel;obtain⟨F,G,N,O⟩:=S.cells;obtain⟨L,M,rfl⟩:=nI S.own;have o:Hid (zV w wr R n f A (p+2*j) z u b.x b.y (.slice L d.length M) d):=S;clear S hS;obtain⟨e1,Q⟩:∃v,(z==b.x)=v:=⟨_,rfl⟩;obtain⟨e2,T⟩:∃v,(u==b.y)=v:=⟨_,rfl⟩
  go_upto_region 3 with fail
  go_cut [31] (λg C=>(∃D,g=.bool D/\(D=true->j<120/\d.length<40))/\wr=C)
  case first=>
   by_cases g1:j<120
   ·by_cases g2:d.length<40
    ·have zc:((j:Int)<120):=by omega
     have zf:((d.length:Int)<40):=by omega
     obtain⟨e3,he3⟩:∃v,((d.length:Int)==1)=v:=⟨_,rfl⟩
     cases e1<;>cases e2<;>cases e3
     all_goals go_wp2
     all_goals go_meet
     all_goals exact⟨⟨_,rfl,λ_=>⟨g1,g2⟩⟩,rfl⟩
    ·have zc:((j:Int)<120):=by omega
     have zf:¬((d.length:Int)<40):=by omega
     clear Q T;go_wp2
     all_goals go_meet
     all_goals exact⟨⟨_,rfl,λh=>by cases h⟩,rfl⟩
   ·have zc:¬((j:Int)<120):=by omega
    clear Q T;go_wp2
    all_goals go_meet
    all_goals exact⟨⟨_,rfl,λh=>by cases h⟩,rfl⟩
  case rest=>
   obtain⟨⟨D,rfl,hg⟩,rfl⟩:=hcut
   cases D with
   |false=>
    go_wp2
    go_ret;obtain⟨p',hp',zh⟩:=o.out.rd;refine⟨⟨_,d,rfl,iY o.out.own (by omega),l1,l2,P⟩,⟨p',by omega,zh⟩,o.out.but⟩
   |true=>
    obtain⟨g1,g2⟩:=hg rfl;clear hg;clear Q T
    go_upto_region 5 with fail
    go_cut [11] (λx C=>(∃i,x=.int .i64 i/\-101<=i/\i<=101)/\zV w C R n f A (p+2*j) z u b.x b.y (.slice L d.length M) d)
    case first=>
     have zm:=WV (b.x-z)
     go_quiet ((go_at_call 96;exact Calls.quiet_of ((J6 _ _).mono λ_ _ h=>⟨h.1,0,h.2⟩)))
     go_wp2
     all_goals go_meet
     all_goals exact⟨⟨_,rfl,by omega,by omega⟩,o.out.drew _⟩
    case rest=>
    clear F G N O o;obtain⟨⟨x,rfl,x0,x1⟩,S⟩:=hcut;obtain⟨F,G,N,O⟩:=S.cells;have o:Hid (zV w wc R n f A (p+2*j) z u b.x b.y (.slice L d.length M) d):=S;clear S
    go_upto_region 6 with fail
    go_cut [12] (λx C=>(∃i,x=.int .i64 i/\-101<=i/\i<=101)/\zV w C R n f A (p+2*j) z u b.x b.y (.slice L d.length M) d)
    case first=>
     have zm:=WV (b.y-u)
     go_quiet ((go_at_call 96;exact Calls.quiet_of ((J6 _ _).mono λ_ _ h=>⟨h.1,0,h.2⟩)))
     go_wp2
     all_goals go_meet
     all_goals exact⟨⟨_,rfl,by omega,by omega⟩,o.out.drew _⟩
    case rest=>
    clear F G N O o;obtain⟨⟨y,rfl,y0,y1⟩,S⟩:=hcut;obtain⟨F,G,N,O⟩:=S.cells;have o:Hid (zV w wc R n f A (p+2*j) z u b.x b.y (.slice L d.length M) d):=S;clear S
    go_upto_region 7 with fail
    go_cut [58] (λg C=>(∃D,g=.bool D)/\wc=C)
    case first=>
     obtain⟨e1,Q⟩:∃v,(z==b.x)=v:=⟨_,rfl⟩;obtain⟨e2,T⟩:∃v,(u==b.y)=v:=⟨_,rfl⟩
     by_cases ht:0<t
     ·go_wp2
      all_goals go_meet
      all_goals exact⟨⟨_,rfl⟩,rfl⟩
     ·cases e1<;>cases e2
      all_goals go_wp2
      all_goals go_meet
      all_goals exact⟨⟨_,rfl⟩,rfl⟩
    case rest=>
    obtain⟨⟨D,rfl⟩,rfl⟩:=hcut
    go_upto_if 58 with fail
    go_cut [3,11,12] (λs x y C=>(∃t' l m:Int,s=.int .i64 t'/\-((j:Int)+1)<=t'/\t'<=1000/\x=.int .i64 l/\-101<=l/\l<=102/\y=.int .i64 m/\-101<=m/\m<=102)/\zV w C R n f A (p+2*j+2) z u b.x b.y (.slice L d.length M) d)
    case first=>
     cases D with
     |false=>
      go_wp2
      go_meet
      obtain⟨X,K,q⟩:=o.out.rd;exact⟨⟨t,x,y,rfl,by omega,by omega,rfl,by omega,by omega,rfl,by omega,by omega⟩,o.out.next (aZ.refl _ _) q (by omega) U⟩
     |true=>
      go_upto_region 8 with fail
      go_cut [11] (λx C=>(∃i,x=.int .i64 i/\-101<=i/\i<=102)/\zV w C R n f A (p+2*j+1) z u b.x b.y (.slice L d.length M) d)
      case first=>
       obtain⟨X,K,q⟩:=o.out.rd
       go_region_with (go_at_call 10;refine(bP R n f A X 3 _ (q.zL (below_drewN (br _ _) _)) (by omega) (by omega)).mono ?_;rintro e w1 ⟨⟨r,rfl,r0,r1,-⟩,W,B⟩;replace r1:=r1 (by omega);have k0:=B.cell (p:=⟨w.heap.size,0,none⟩) (by show w.heap.size≠R;omega) F)
       all_goals (try go_wp2)
       all_goals go_meet
       all_goals exact⟨⟨_,rfl,by simp only[IntKind.wrap_i64];omega,by simp only[IntKind.wrap_i64];omega⟩,o.out.next (((aZ.refl R wc).drew _).trans B) W (by omega) U⟩
      case rest=>
      clear F G N O o;obtain⟨⟨l,rfl,x0',x1'⟩,S⟩:=hcut;obtain⟨F,G,N,O⟩:=S.cells;have o:Hid (zV w wc R n f A (p+2*j+1) z u b.x b.y (.slice L d.length M) d):=S;clear S
      go_upto_region 9 with fail
      go_cut [12] (λx C=>(∃i,x=.int .i64 i/\-101<=i/\i<=102)/\zV w C R n f A (p+2*j+2) z u b.x b.y (.slice L d.length M) d)
      case first=>
       obtain⟨X,K,q⟩:=o.out.rd
       go_region_with (go_at_call 10;refine(bP R n f A X 3 _ (q.zL (below_drewN (br _ _) _)) (by omega) (by omega)).mono ?_;rintro e w1 ⟨⟨r,rfl,r0,r1,-⟩,W,B⟩;replace r1:=r1 (by omega);have k0:=B.cell (p:=⟨w.heap.size,1,none⟩) (by show w.heap.size≠R;omega) G)
       all_goals (try go_wp2)
       all_goals go_meet
       all_goals exact⟨⟨_,rfl,by simp only[IntKind.wrap_i64];omega,by simp only[IntKind.wrap_i64];omega⟩,o.out.next (((aZ.refl R wc).drew _).trans B) W (by omega) U⟩
      case rest=>
      clear F G N O o;obtain⟨⟨m,rfl,y0',y1'⟩,S⟩:=hcut;go_wp2
      go_meet
      exact⟨⟨t-1,l,m,rfl,by omega,by omega,rfl,by omega,by omega,rfl,by omega,by omega⟩,S⟩
    case rest=>
    clear F G N O o x0 x1 y0 y1;obtain⟨⟨t',l,m,rfl,t0',t1',rfl,x0,x1,rfl,y0,y1⟩,S⟩:=hcut;obtain⟨F,G,N,O⟩:=S.cells;have o:Hid (zV w wc R n f A (p+2*j+2) z u b.x b.y (.slice L d.length M) d):=S;clear S
    go_upto_region 11 with fail
    go_cut [90] (λg C=>(∃D,g=.bool D/\(D=true->0<=l/\l<16/\0<=m/\m<16))/\wc=C)
    case first=>
     obtain⟨v1,h1⟩:∃v,fQ l 0 15=v:=⟨_,rfl⟩;obtain⟨v2,h2⟩:∃v,fQ m 0 15=v:=⟨_,rfl⟩;have Z:Hid (v1=true->0<=l/\l<16):=λh=>by rw[h]at h1;simp only[fQ,dte]at h1;omega
     have HY:Hid (v2=true->0<=m/\m<16):=λh=>by rw[h]at h2;simp only[fQ,dte]at h2;omega
     have H1:Hid (fQ l 0 15=v1):=h1;have H2:Hid (fQ m 0 15=v2):=h2;clear h1 h2
     by_cases hx:l=z
     ·subst hx
      by_cases hy:m=u
      ·subst hy
       go_wp2
       all_goals go_meet
       all_goals (refine⟨⟨_,rfl,λhh=>?_⟩,rfl⟩;first|exact absurd hh Bool.false_ne_true|exact⟨(Z.out (by trivial)).1,(Z.out (by trivial)).2,(HY.out (by trivial)).1,(HY.out (by trivial)).2⟩)
      ·have ey:(m==u)=false:=by simp[hy]
       cases v1<;>cases v2
       all_goals go_wp2_with (first|(go_at_call_of 57 (Value.int .i64 l);refine(bO l 0 15 _ H1.out _).mono ?_;rintro e w1 ⟨rfl,rfl⟩)|(go_at_call_of 57 (Value.int .i64 m);refine(bO m 0 15 _ H2.out _).mono ?_;rintro e w1 ⟨rfl,rfl⟩))
       all_goals go_meet
       all_goals (refine⟨⟨_,rfl,λhh=>?_⟩,rfl⟩;first|exact absurd hh Bool.false_ne_true|exact⟨(Z.out (by trivial)).1,(Z.out (by trivial)).2,(HY.out (by trivial)).1,(HY.out (by trivial)).2⟩)
     ·have ex:(l==z)=false:=by simp[hx]
      cases v1<;>cases v2
      all_goals go_wp2_with (first|(go_at_call_of 57 (Value.int .i64 l);refine(bO l 0 15 _ H1.out _).mono ?_;rintro e w1 ⟨rfl,rfl⟩)|(go_at_call_of 57 (Value.int .i64 m);refine(bO m 0 15 _ H2.out _).mono ?_;rintro e w1 ⟨rfl,rfl⟩))
      all_goals go_meet
      all_goals (refine⟨⟨_,rfl,λhh=>?_⟩,rfl⟩;first|exact absurd hh Bool.false_ne_true|exact⟨(Z.out (by trivial)).1,(Z.out (by trivial)).2,(HY.out (by trivial)).1,(HY.out (by trivial)).2⟩)
    case rest=>
    obtain⟨⟨D,rfl,hg⟩,rfl⟩:=hcut
    cases D with
    |false=>
     by_cases ht:t'<=0
     ·go_wp2
      go_roundg (gk-1)
      case measure=>omega
      case rel=>exact⟨j+1,1,z,u,d,by omega,by go_num,rfl,by omega,by omega,by obtain⟨X,K,q⟩:=o.out.rd;exact o.out.next (aZ.refl _ _) q (by omega) U,ze,l1,l2,P⟩
     ·go_wp2
      go_roundg (gk-1)
      case measure=>omega
      case rel=>exact⟨j+1,t',z,u,d,by omega,by go_num,rfl,by omega,by omega,by obtain⟨X,K,q⟩:=o.out.rd;exact o.out.next (aZ.refl _ _) q (by omega) U,ze,l1,l2,P⟩
    |true=>
     have hq:=hg rfl;clear hg;have A1:=o.out.a;have F0:=λi=>A1.frozen i;have A2:=A1.set 0 (.int .i64 l);have F1:=λi=>A2.frozen i;have S0:=o.out.store l m U;obtain⟨W0,zd⟩:∃W0,(wc.setCell ⟨w.heap.size,0,none⟩ (.int .i64 l)).setCell ⟨w.heap.size,1,none⟩ (.int .i64 m)=W0:=⟨_,rfl⟩;rw[zd]at S0;have m1:(wc.setCell ⟨w.heap.size,0,none⟩ (.int .i64 l)).cell? ⟨w.heap.size,1,none⟩=some (.int .i64 u):=A2.cell (i:=1) (by omega);clear N O A1 A2;obtain⟨k0,k1,-,-⟩:=S0.cells;have hO:=S0.own;have hl:=S0.b.lt;have za:Hid (zV w W0 R n f A (p+2*j+2) l m b.x b.y (.slice L d.length M) d):=S0;clear S0 o
     go_wp2_with (at_builtin;refine wpList_append_own _ rfl (.tmp 94) (.tmp 96) 87 rfl (w.heap.size+2) 107 i0 _ 2 16 Tryz.underlying87 hi zj zk zl rfl (by decide) _ _ _ rfl (hO.alloc _) ⟨W0.heap.size,0,none⟩ 1 1 [.int .i64 l,.int .i64 m] rfl rfl (news2 W0 _ _ _) (ints2 l m) (by unfold maxLen;omega) (by omega) (by simp;omega) ?_)
     intro v' w1 J H _;have zb:Hid (zV w w1 R n f A (p+2*j+2) l m b.x b.y v' (d++[⟨l,m⟩])):=za.out.more U _ ⟨l,m⟩ H J;clear J H hO za F G k0 k1 m1 zd F0 F1;go_wp2
     go_roundg (gk-1)
     case measure=>omega
     case rel=>
      refine⟨j+1,t',l,m,_,by omega,by go_num,rfl,by omega,by omega,by obtain⟨X,K,q⟩:=zb.out.rd;exact zb.out.next (aZ.refl _ _) q (by omega) U,by omega,by simp,by simp;omega,λc V=>?_⟩
      rcases lma.1 V with V|V
      ·exact P c V
      ·rw[lms.1 V];show-100<=l/\l<=100/\-100<=m/\m<=100;omega
