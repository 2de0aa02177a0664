import Derived.MapKept
import Derived.Laws.StructEq
import Derived.Test.YtcdbcliaepcpfaaGreatDoorCh1
namespace Go.Proofs.YtcdbcliaepcpfaaGreatDoor
set_option maxRecDepth 100000
open Go.RowKit Go.Shelf
theorem YG (a b c d b' e:Int)(w:World):(Op.equal 80 (fW a b c) (fW d b' e)).run Tryz.prog w=.ok (a==d&&(b==b'&&c==e)) w:=by
 have i:Tryz.prog.underlying 80=some (.struct (Tryz.prog.fieldsOf 80)):=by kernel_rfl
 have j:Tryz.prog.stoodInHeld 80=false:=by kernel_rfl
 unfold Op.equal Op.maxDepth;rw[show(10000:Nat)=9999+1 from rfl,run_equalIn_struct w 9999 80 _ _ i j];simp only[Program.fieldsOf,Tryz.underlying80];go_simp;by_cases f:a=d<;>by_cases g:b=b'<;>by_cases h:c=e<;>simp[f,g,h]
theorem NJ (d:Bool)(a b c:Int)(w:World):(Instr.checkKey d 10000 80 (fW a b c)).run Tryz.prog w=.ok () w:=by
 rw[show(10000:Nat)=9998+1+1 from rfl,Instr.checkKey];simp only[Sem.run_bind,run_underlying Tryz.underlying80,Result.andThen_ok];rw[←Array.forIn_toList];simp only[List.forIn_cons,List.forIn_nil]
 have hk:∀(i:Int) (w:World),(Instr.checkKey d (9998+1) 3 (.int .i64 i)).run Tryz.prog w=.ok () w:=λi w=>by
  rw[Instr.checkKey];simp[Sem.run_bind,run_underlying Tryz.underlying3,Result.andThen_ok]
 go_simp
def XE (es:List MapEntry):Prop:=∀e∈es,∃i k:Int,e.key=fW 0 i k
theorem xB (i k:Int):∀(a:List MapEntry) (n:Nat),XE a->∃r,(∀w,(Instr.findAsking 80 (fW 0 i k) a n).run Tryz.prog w=.ok r w)/\∀j v,r=some (j,v)->∃e∈a,e.key=fW 0 i k/\e.val=v
 |[],n,_=>⟨none,λw=>by simp[Instr.findAsking],λ_ _ h=>by cases h⟩
 |e::a,n,h=>by
  obtain⟨l,o,d⟩:=h e (List.mem_cons_self ..);by_cases b:i=l/\k=o
  ·obtain⟨rfl,rfl⟩:=b;refine⟨some (n,e.val),λw=>?_,λj v f=>?_⟩
   ·rw[Instr.findAsking,d];simp[Sem.run_bind,YG,Result.andThen_ok]
   ·cases f;exact⟨e,List.mem_cons_self ..,d,rfl⟩
  ·obtain⟨r,p,q⟩:=xB i k a (n+1) (λc m=>h c (List.mem_cons_of_mem _ m));refine⟨r,λw=>?_,λj v f=>?_⟩
   ·have s:((0:Int)==0&&(i==l&&k==o))=false:=by
     rw[Bool.eq_false_iff];intro g;simp at g;exact b g
    rw[Instr.findAsking,d];simp only[Sem.run_bind,YG,Result.andThen_ok,s,Bool.false_eq_true,if_false];exact p w
   ·obtain⟨c,m,g⟩:=q j v f;exact⟨c,List.mem_cons_of_mem _ m,g⟩
theorem GR (i k:Int)(a:List MapEntry)(h:XE a):∃r,(∀w,(Instr.findKey 80 (fW 0 i k) a).run Tryz.prog w=.ok r w)/\∀j v,r=some (j,v)->∃e∈a,e.key=fW 0 i k/\e.val=v:=by
 cases a with
 |nil=>exact⟨none,λw=>by simp[Instr.findKey,run_underlying Tryz.underlying80,Result.andThen,Instr.findNow],λ_ _ h=>by cases h⟩
 |cons e a=>
  obtain⟨r,b,c⟩:=xB i k (e::a) 0 h;refine⟨r,λw=>?_,c⟩;have f:∀d,Instr.findNow (.struct d) (fW 0 i k) (e::a) 0=none:=λd=>by simp[Instr.findNow,Instr.sameNow]
  unfold Instr.findKey;simp only[Sem.run_bind,run_underlying Tryz.underlying80,Result.andThen_ok,f];exact b w
theorem U8 (i k:Int)(r:Nat)(b:Array MapEntry)(a:Nat)(h:XE b.toList):
 ∃o:Option Value,(∀v,o=some v->∃e∈b.toList,e.key=fW 0 i k/\e.val=v)/\
  (∀w,w.heap[r]?=some (.map b a)->(Instr.lookup 312 (.map (some r)) (fW 0 i k) true).run Tryz.prog w=.ok (.tuple #[o.getD (.slice none 0 0),.bool o.isSome]) w)/\
  (o=none->∀w c,w.heap[r]?=some (.map b a)->(Instr.mapUpdate 312 (.map (some r)) (fW 0 i k) c).run Tryz.prog w=.ok () { w with heap:=w.heap.setIfInBounds r (.map (b.push ⟨fW 0 i k,c,a⟩) (a+1))}):=by
 obtain⟨f,l,m⟩:=GR i k b.toList h;have s:∀w,(zeroValue 150).run Tryz.prog w=.ok (.slice none 0 0) w:=λw=>by go_simp
 refine⟨f.map Prod.snd,?_,?_,?_⟩
 ·intro v p;obtain⟨⟨j,t⟩,rfl,rfl⟩:=Option.map_eq_some_iff.1 p;exact m j t rfl
 ·intro w d;have g:(getObj r).run Tryz.prog w=.ok (.map b a) w:=by simp[getObj,Sem.run,d]
  unfold Instr.lookup;simp only[Sem.run_bind,run_underlying Tryz.underlying312,Result.andThen_ok,g,Sem.run_pure,NJ,l];cases f with
  |none=>simp[s]
  |some q=>simp
 ·intro n w c d;cases f with
  |some q=>cases n
  |none=>
   have g:(getObj r).run Tryz.prog w=.ok (.map b a) w:=by simp[getObj,Sem.run,d]
   unfold Instr.mapUpdate;simp only[Sem.run_bind,run_underlying Tryz.underlying312,Result.andThen_ok,g,NJ,l];simp[setObj,Sem.run,d]
end Go.Proofs.YtcdbcliaepcpfaaGreatDoor
namespace Go.Proofs.YtcdbcliaepcpfaaGreatDoor
open Go.RowKit Go.Shelf
attribute [local go_sem] Oper.semAt_some
structure kS (m:Nat)(w w':World):Prop where
 os:w'.os=w.os
 tape:w'.tape=w.tape
 output:w'.output=w.output
 size:w.heap.size<=w'.heap.size
 block:∀k,k<w.heap.size->k≠m->w'.heap[k]?=w.heap[k]?
theorem kS.of_below {m:Nat}{w w':World}(h:aF w w'):kS m w w':=⟨h.os,h.tape,h.output,h.size,λk a _=>h.block k a⟩
theorem kS.trans {m:Nat}{a b c:World}(h:kS m a b)(g:kS m b c):kS m a c:=
 ⟨g.os.trans h.os,g.tape.trans h.tape,g.output.trans h.output,Nat.le_trans h.size g.size,λk d e=>(g.block k (Nat.lt_of_lt_of_le d h.size) e).trans (h.block k d e)⟩
theorem kS.set {m:Nat}(w:World)(o:Obj):kS m w { w with heap:=w.heap.setIfInBounds m o}:=
 ⟨rfl,rfl,rfl,by simp,λk _ a=>by simp[Ne.symm a]⟩
theorem kS.cell {m:Nat}{w w':World}{d:Array MapEntry}{c:Nat}(h:kS m w w')(g:w.heap[m]?=some (.map d c)){p:Addr}{v:Value}(a:w.cell? p=some v):w'.cell? p=some v:=by
 have b:p.block≠m:=λe=>by subst e;simp[World.cell?,g]at a
 have f:=h.block p.block (aA a) b;unfold World.cell? at a ⊢;rw[f];exact a
theorem kS.spsF {m:Nat}{w w':World}{r:Array MapEntry}{c:Nat}(h:kS m w w')(o:w.heap[m]?=some (.map r c)){a:Int}{P:Int->Prop}{v:Value}(B:oV a P v w):oV a P v w':=by
 obtain⟨p,n,l,s,d,t,x⟩:=B;refine⟨p,n,l,s,⟨?_,?_⟩,t,x⟩
 ·rcases d.1 with d|⟨f,b,e,y⟩;·exact .inl d
  ·exact .inr ⟨f,b,e,λk A j u z=>h.cell o (y k A j u z)⟩
 ·rcases d.2 with d|⟨f,b,q,e,i⟩;·exact .inl d
  ·exact .inr ⟨f,b,q,e,(h.block f (bU i) (λg=>by rw[g,o]at i;cases i)).trans i⟩
structure oH (z:Nat)(b:Bk)(x:Wx)(w:World):Prop where
 hb:w.heap[z]?=some b.obj
 hx:w.heap[z+1]?=some x.obj
 hc:w.heap[z+3]?=some (.cells #[.map (some (z+2))] 312)
 hm:∃es clock,w.heap[z+2]?=some (.map es clock)/\∀e∈es.toList,∃i k:Int,e.key=fW 0 i k/\oV x.l (λd=>rX b x d i k=false) e.val w
theorem oH.zL {z:Nat}{b:Bk}{x:Wx}{w w':World}(h:oH z b x w)(a:aF w w'):oH z b x w':=by
 obtain⟨j,l,n,d,c,p,q⟩:=h;have go:∀{k:Nat} {o:Obj},w.heap[k]?=some o->w'.heap[k]?=some o:=λe=>(a.block _ (bU e)).trans e;exact⟨go j,go l,go n,d,c,go p,λe m=>by obtain⟨i,k,f,g⟩:=q e m;exact⟨i,k,f,g.zL a⟩⟩
theorem oH.put {z:Nat}{b:Bk}{x:Wx}{w:World}{f:Array MapEntry}{c:Nat}(h:oH z b x w)(a:w.heap[z+2]?=some (.map f c))(t:∀e∈f.toList,∃i k:Int,e.key=fW 0 i k/\oV x.l (λd=>rX b x d i k=false) e.val w){i k:Int}{v:Value}(y:oV x.l (λd=>rX b x d i k=false) v w)(g j:Nat):
 oH z b x { w with heap:=w.heap.setIfInBounds (z+2) (.map (f.push ⟨fW 0 i k,v,g⟩) j)}:=by
 have n:=kS.set (m:=z+2) w (.map (f.push ⟨fW 0 i k,v,g⟩) j);have p:=(bU a);have go:∀{q:Nat} {o:Obj},q≠z+2->w.heap[q]?=some o->(World.heap { w with heap:=w.heap.setIfInBounds (z+2) (.map (f.push ⟨fW 0 i k,v,g⟩) j)})[q]?=some o:=λu e=>(n.block _ (bU e) u).trans e;refine⟨go (by omega) h.hb,go (by omega) h.hx,go (by omega) h.hc,_,_,by simp[p];exact⟨rfl,rfl⟩,λe m=>?_⟩;rw[Array.toList_push,lma,List.mem_singleton]at m;rcases m with m|rfl
 ·obtain⟨A,B,r,s⟩:=t e m;exact⟨A,B,r,n.spsF a s⟩
 ·exact⟨i,k,rfl,n.spsF a y⟩
set_option maxRecDepth 100000
set_option maxHeartbeats 8000000
theorem RF (l:List Sp)(d:Int):jT l ⟨d,d⟩=true↔gS l d:=by
 unfold jT gS;rw[List.any_eq_true];constructor
 ·rintro⟨s,a,h⟩;simp only[jK,bat,dte]at h;exact⟨s,a,by omega,by omega⟩
 ·rintro⟨s,a,h1,h2⟩;exact⟨s,a,by simp only[jK,bat,dte];omega⟩
theorem oV.covers {a:Int}{P:Int->Bool}{v:Value}{w:World}{d:Int}(h:oV a (λd=>P d=false) v w)(f:0<=d)(g:d<=a):∃c b l,v=.slice c (List.length l) b/\Xs 2 Sp.cells w c l/\l.length<=1048576/\jT l ⟨d,d⟩=!P d:=by
 obtain⟨c,b,l,e,i,hl,j⟩:=h;refine⟨c,b,l,e,i.1,by omega,?_⟩;rw[Bool.eq_iff_iff,RF,j d f g];simp
theorem MN (n:Nat)(hn:5<=n)(z:Nat)(b:Bk)(x:Wx)(d i k:Int)(w:World)(hF:oH z b x w)(hb:iW w b)(hx:iL w x)(zj:aN b=true)(K:0<=b.now)(L:b.now<=10000)(zh:0<=x.l)(zi:x.l<=300)(zl:0<=x.f)(zm:0<=x.q)(Y:0<=d)(Z:d<=x.l):
 CallsIn Fence.wide n Tryz.prog 261 #[fW d i k,.pointer (some ⟨z+3,0,none⟩),.pointer (some ⟨z,0,none⟩),.pointer (some ⟨z+1,0,none⟩)] w λe w'=>e=.returned (.bool (rX b x d i k))/\kS (z+2) w w'/\oH z b x w':=by
 have h1n:1<=n:=by omega
 have p:aF w ((w.alloc (iR d i k)).alloc (iR 0 i k)):=aB (aB (br _ _) _) _;have C0:=(halq (w.alloc (iR d i k)) (iR 0 i k) w.heap.size (by simp)).trans (wnq w (iR d i k));have Q:=wnq (w.alloc (iR d i k)) (iR 0 i k);rw[wsa]at Q;have c:=hF.zL p;obtain⟨T,W⟩:=cK ((w.alloc (iR d i k)).alloc (iR 0 i k));rw[W]at p C0 Q c;obtain⟨U,u,y,r⟩:=c.hm;obtain⟨o,M,zc,N⟩:=U8 i k (z+2) U u (λe m=>by obtain⟨i',k',g,_⟩:=r e m;exact⟨i',k',g⟩);have p0:T.cell? ⟨z+3,0,none⟩=some (.map (some (z+2))):=aJ c.hc rfl;obtain⟨d0,d1,d2⟩:=aM Q;have A:=zc T y;refine callsIn_of_wp Tryz.func261 rfl trivial ?_ rfl;simp only[Tryz.ntmps261,lsz,llc,lln,Nat.reduceAdd,Nat.reduceSub,ars,arz,lpt,lap,lna,lca];have HW0:=aG W;have t:=aG C0;have R:=aG Q;clear C0 Q zc;obtain⟨V,hV⟩:=bP (rX b x d i k);rw[←hV];have HV:Hid _:=hV;clear hV;cases o with
 |some v=>
  obtain⟨e,za,J,rfl⟩:=M v rfl;obtain⟨i',k',g1,g2⟩:=r e za;rw[g1]at J;obtain⟨rfl,rfl⟩:i'=i/\k'=k:=by simpa using J
  obtain⟨ao,F,l,zb,hX,hl,h⟩:=g2.covers Y Z;rw[zb]at A;obtain⟨c0,c1,c2⟩:=aM t.oQ;have HR:Hid (kS (z+2) w T):=kS.of_below p;have D:Hid (jT l ⟨d,d⟩=!V):=by rw[Hid,h,HV.oQ]
  have E:Hid _:=c;clear M N r za J g1 g2 h c zb y;simp only[Option.getD_some,Option.isSome_some]at A;gi_wp2_with fail;refine⟨trivial,?_⟩;refine(cw.2 (rS l ⟨d,d⟩ ao F T hX hl)).mono ?_;rintro e s ⟨rfl,a⟩;rw[D.oQ];have HE:Hid (kS (z+2) w s/\oH z b x s):=⟨HR.oQ.trans (kS.of_below a),E.oQ.zL a⟩;cases V<;>
  ·gi_wp2;go_ret;exact⟨rfl,HE.oQ⟩
 |none=>
  have C:=N rfl;have zg:Hid _:=C;clear M N C;simp only[Option.getD_none,Option.isSome_none]at A;obtain⟨c0,c1,c2⟩:=aM t.oQ;obtain⟨m0,m1,m2⟩:=aM c.hb;obtain⟨q0,q1,q2,q3,q4,q5,q6,q7⟩:=gJ c.hx;have E:Hid _:=c;have S:Hid _:=y;have ze:Hid _:=r;clear c y r;gi_wp2_with fail;refine⟨trivial,?_⟩;refine(PA (n-1) (by omega) b x i k T (hb.zL p) (hx.zL p) zj K L zh zi zl zm).mono ?_;rintro e s ⟨⟨v,rfl,hv⟩,a⟩;have H:=E.oQ.zL a;have j:=(a.block _ (bU S.oQ)).trans S.oQ;have B:∀e∈U.toList,∃i k:Int,e.key=fW 0 i k/\oV x.l (λd=>rX b x d i k=false) e.val s:=λe m=>by obtain⟨i',k',g1,g2⟩:=ze.oQ e m;exact⟨i',k',g1,g2.zL a⟩
  have zk:=zg.out s v j;have I:=H.put j B hv u (u+1);have G:=(kS.of_below (m:=z+2) (aC p a)).trans (kS.set (m:=z+2) s (.map (U.push ⟨fW 0 i k,v,u⟩) (u+1)));have O:=(kS.set (m:=z+2) s (.map (U.push ⟨fW 0 i k,v,u⟩) (u+1))).spsF j hv;have C1:=(a.block _ (bU t.oQ)).trans t.oQ;have D1:=(a.block _ (bU R.oQ)).trans R.oQ;have p0:s.cell? ⟨z+3,0,none⟩=some (.map (some (z+2))):=aJ H.hc rfl;obtain⟨d0,d1,d2⟩:=aM D1;obtain⟨w2,P⟩:=cK (({ s with heap:=s.heap.setIfInBounds (z+2) (.map (U.push ⟨fW 0 i k,v,u⟩) (u+1))}:World));have c0:w2.cell? ⟨w.heap.size,0,none⟩=some (.int .i64 d):=by rw[←P];exact(kS.set (m:=z+2) s _).cell j (aJ C1 rfl)
  rw[P]at zk I G O;obtain⟨ao,F,l,rfl,hX,hl,h⟩:=O.covers Y Z;have D:Hid (jT l ⟨d,d⟩=!V):=by rw[Hid,h,HV.oQ]
  have zf:Hid _:=I;have zd:Hid _:=G;clear m0 m1 m2 q0 q1 q2 q3 q4 q5 q6 q7 H j B C1 D1 h I G O hv a P A;gi_wp2_with fail;refine⟨trivial,?_⟩;refine(cw.2 (rS l ⟨d,d⟩ ao F w2 hX hl)).mono ?_;rintro e w3 ⟨rfl,X⟩;rw[D.oQ];have HE:Hid (kS (z+2) w w3/\oH z b x w3):=⟨zd.oQ.trans (kS.of_below X),zf.oQ.zL X⟩;cases V<;>
  ·gi_wp2;go_ret;exact⟨rfl,HE.oQ⟩
end Go.Proofs.YtcdbcliaepcpfaaGreatDoor
namespace Go.Proofs.YtcdbcliaepcpfaaGreatDoor
set_option maxRecDepth 100000
set_option maxHeartbeats 2000000
open Go.RowKit Go.Shelf
theorem YU (t:TypeId)(w:World):(Instr.makeMap t none).run Tryz.prog w=.ok (.map (some w.heap.size)) (w.alloc (.map #[] 0)):=rfl
attribute [local go_sem] YU
abbrev WZ (r:Nat):Obj:=.cells #[.map (some r)] 312
theorem LU (b:Bk)(x:Wx)(w:World):
 aY 239 #[b.val,x.val] w λe w'=>e=.returned (.func (.func 261) #[] #[.pointer (some ⟨w.heap.size+3,0,none⟩),.pointer (some ⟨w.heap.size,0,none⟩),.pointer (some ⟨w.heap.size+1,0,none⟩)])/\aF w w'/\oH w.heap.size b x w':=by
 have a:aF w ((((w.alloc b.obj).alloc x.obj).alloc (.map #[] 0)).alloc (WZ (w.heap.size+2))):=aB (aB (aB (aB (br _ _) _) _) _) _
 have c:oH w.heap.size b x ((((w.alloc b.obj).alloc x.obj).alloc (.map #[] 0)).alloc (WZ (w.heap.size+2))):=by
  have h:=wnq w b.obj;have d:=wnq (w.alloc b.obj) x.obj;have f:=wnq ((w.alloc b.obj).alloc x.obj) (.map #[] 0);have g:=wnq (((w.alloc b.obj).alloc x.obj).alloc (.map #[] 0)) (WZ (w.heap.size+2));simp only[wsa]at d f g;refine⟨?_,?_,g,#[],0,?_,λe m=>by simp at m⟩;·exact(halq _ _ _ (by simp;omega)).trans ((halq _ _ _ (by simp;omega)).trans ((halq _ _ _ (by simp)).trans h))
  ·exact(halq _ _ _ (by simp)).trans ((halq _ _ _ (by simp)).trans d)
  ·exact(halq _ _ _ (by simp)).trans f
 have H:Hid _:=And.intro a c;clear a c;go_enter Tryz.func239,Tryz.ntmps239;go_wp2;go_ret;exact⟨rfl,H.oQ⟩
end Go.Proofs.YtcdbcliaepcpfaaGreatDoor
