import Derived.Test.YtoolgmmljacfmaaGreatDoorAl
import Derived.RangeFuncNested
import Derived.RangeFuncBound
import Derived.RangeFuncCalls
import Derived.RangeFuncLeaves
open List renaming length → ln
open Go.RowKit
namespace Go.Proofs.YtoolgmmljacfmaaGreatDoor
structure bE (X:Nat->Prop)(A A':World):Prop where
 size:A.heap.size<=A'.heap.size
 c:∀(k:Nat) (o:Obj),¬X k->A.heap[k]?=some o->o.isCells=true->A'.heap[k]?=some o
theorem bE.refl (X:Nat->Prop)(A:Wd):bE X A A:=⟨nlq _,λ_ _ _ h _=>h⟩
theorem bE.trans {X:Nat->Prop}{A B C:Wd}(h:bE X A B)(g:bE X B C):bE X A C:=⟨nlt h.size g.size,λk o hx b a=>g.c k o hx (h.c k o hx b a) a⟩
theorem bE.of_below {X:Nat->Prop}{A B:Wd}(h:aG A B):bE X A B:=⟨h.size,λk _ _ a _=>(h.block k (cE a)).trans a⟩
theorem bE.putObj {X:Nat->Prop}{W:Wd}{l:Nat}{o:Obj}(g:Obj)(f:W.heap[l]?=some o)(d:o.isCells=false):bE X W (W.putObj l g):=by
 refine⟨sm,λk u _ a c=>?_⟩;have b:k≠l:=λe=>by subst e;rw[f]at a;cases a;rw[d]at c;cases c
 exact(World.putObj_heap_other b).trans a
theorem QV {X:Nat->Prop}{A B C:Wd}(h:bE X A B)(g:bE X B C):bE X A C:=h.trans g
theorem QZ {X:Nat->Prop}{w:Wd}(W:Wd)(l:Nat)(o a:Obj)(_:w.heap.size<=l)(c:W.heap[l]?=some o)(b:o.isCells=false)(_:o.isWalk=false):bE X W (W.putObj l a):=bE.putObj a c b
theorem bE.setCell {X:Nat->Prop}(W:Wd)(b j:Nat)(v:Va)(hx:X b):bE X W (W.setCell (Y b j) v):=
 ⟨by show W.heap.size<=(W.heap.modify _ _).size;rw[Array.size_modify];exact nlq _,λk _ a h _=>(bhs W _ v k (λe=>a (by cases e;exact hx))).trans h⟩
theorem bE.cell {X:Nat->Prop}{A d:Wd}(h:bE X A d){p:Addr}{v:Va}(hx:¬X p.block)(a:A.cell? p=some v):d.cell? p=some v:=by
 obtain⟨o,e,b⟩:=cells_of_cell a;have h':=h.c _ _ hx e b;unfold World.cell? at a ⊢;rw[e]at a;rw[h'];exact a
theorem KeepsFrom.mono {B a:Nat}{W b:Wd}(h:KeepsFrom B W b)(c:B<=a):KeepsFrom a W b:=⟨h.size,λk o d=>h.same k o (nlt c d)⟩
theorem pH {B l:Nat}{W:Wd}{o:Obj}(a:Obj)(_:W.heap[l]?=some o)(hB:l<B):KeepsFrom B W (W.putObj l a):=⟨sm,λk _ hk h _=>(World.putObj_heap_other om).trans h⟩
def SeqO {α:Type}(F:Fence)(n:Nat)(P:Program)(g:Nat)(lb:Array Value)(encs:α->Array Value)(X:Nat->Prop)(S Sp:List α->Prop)(N:Nat)(w:World):Prop:=
 ∀(l:Nat) (J Jx:List α->World->Prop) (W:World),aG w W->OwnFrom W.heap.size J->OwnFrom W.heap.size Jx->
  (∀pre x W1,J pre W1->pre.length<N->YieldAt F (n-1) P l (encs x) W1 λe W'=>
   KeepsFrom W.heap.size W1 W'/\((e=rt (.bool true)/\J (pre++[x]) W'/\bE X W1 W')∨(e=rt (.bool false)/\Jx (pre++[x]) W')))->
  J [] W->
  CallsIn F n P g (#[.func (.yield l) #[] #[]]++lb) W λe W'=>(∃v,e=rt v)/\((∃xs,S xs/\J xs W')∨(∃pre,Sp pre/\Jx pre W'))
def SeqT {α:Type}(F:Fence)(n:Nat)(P:Program)(g:Nat)(lb:Array Value)(encs:α->Array Value)(Kp:World->World->Prop)(S Sp:List α->Prop)(N:Nat)(w:World):Prop:=
 ∀(l:Nat) (J Jx:List α->World->Prop) (W:World),aG w W->OwnFrom W.heap.size J->OwnFrom W.heap.size Jx->
  (∀pre x W1,J pre W1->pre.length<N->YieldAt F (n-1) P l (encs x) W1 λe W'=>
   KeepsFrom W.heap.size W1 W'/\((e=rt (.bool true)/\J (pre++[x]) W'/\Kp W1 W')∨(e=rt (.bool false)/\Jx (pre++[x]) W')))->
  J [] W->
  CallsIn F n P g (#[.func (.yield l) #[] #[]]++lb) W λe W'=>(∃v,e=rt v)/\((∃xs,S xs/\J xs W')∨(∃pre,Sp pre/\Jx pre W'))
structure nR (B:Nat)(r:Loop)(W:World):Prop where
 l:W.heap[B+1]?=some (.loop r)
 d:W.heap[B]?=some (.deferred (some []))
theorem nR.grown {B:Nat}{r:Loop}{A b:Wd}{a:Option Nat}(h:nR B r A)(c:A.grownBy b a)(f:∀q,a=some q->B+2<=q):nR B r b:=
 ⟨(c.block _ (cE h.l) (λe=>by have:=f _ e.symm;omega)).trans h.l,(c.block _ (cE h.d) (λe=>by have:=f _ e.symm;omega)).trans h.d⟩
theorem nR.keeps {B:Nat}{r:Loop}{A a:Wd}(h:nR B r A)(b:KeepsFrom B A a):nR B r a:=⟨b.same _ _ om h.l rfl,b.same _ _ (nlq _) h.d rfl⟩
theorem nR.put {B:Nat}{r:Loop}{A:Wd}(h:nR B r A)(a:Loop):nR B a (A.putObj (B+1) (.loop a)):=
 ⟨World.putObj_heap_same (cE h.l),(World.putObj_heap_other om).trans h.d⟩
section
variable {F:Fence}{n:Nat}{P:Program}
theorem m8 {α:Type} {g:Operand} {ps:Array Tmp} {assign body:Code} {Q:Exit->Act->Wd->Prop} {a:Act} {w:Wd}
 (zw:F.round=none) (h1:1<=n) {gf:Nat} {lb:Array Va} (hg:a.eval g=.func (.func gf) #[] lb) (zm:F.fn gf) (eg:∀args w,(callFunc gf args).run P w=.ok (.enter gf args) w)
 {u:α->Array Va} {Kp:Wd->Wd->Prop} {S Sp:List α->Prop} {N:Nat} {w0:Wd} (zj:SeqT F (n-1) P gf lb u Kp S Sp N w0) (zg:aG w0 w) (za:∀{A B C:Wd},Kp A B->Kp B C->Kp A C) (zf:∀{W:Wd} {l:Nat} {o:Obj} (o':Obj),W.heap[l]?=some o->o.isCells=false->Kp W (W.putObj l o')) (zu:∀x,(u x).size=ps.size)
 (b:List α->Wd->Prop) (Ix:Code->List α->Wd->Prop) (hI:OwnFrom w.heap.size b) (V:∀c,OwnFrom w.heap.size (Ix c)) (h0:b [] w) (Ax:α->Act->Wd->Prop) (ze:∀x T,OwnFrom w.heap.size (λ(_:Unit) W=>Ax x T W))
 (m:∀(l:Nat) (f:List α) (x:α) (W:Wd) (K:Act->Wd->Prop),b f W->(∀T W',KeepsFrom w.heap.size W W'->Kp W W'->b f W'->Ax x T W'->K T W')->
  assign.wpIn (F.inRound l) (n-1-1) P (Exit.then K (λ_ _ _=>False)) { tmps:=(ps.zip (u x)).foldl (λt (p,v)=>t.setIfInBounds p v) a.tmps,defers:=[]} W)
 (J:∀(l:Nat) (f:List α) (x:α) (T:Act) (W:Wd),w.heap.size<=l->(∃r,W.heap[l]?=some (.loop r))->b f W->Ax x T W->ln f<N->body.wpIn (F.inRound l) (n-1-1) P (ownPostG w.heap.size Kp b Ix (f++[x]) W) T W)
 (L:∀(D:Nat) (xs:List α) (W:Wd),w.heap.size<=D->S xs->b xs W->W.heap[D]?=some (.deferred (some []))->Q .normal { a with defers:={ target:=.collected D,args:=#[]}::a.defers} W)
 (R:∀(D:Nat) (c:Code) (f:List α) (W:Wd),w.heap.size<=D->Sp f->Ix c f W->W.heap[D]?=some (.deferred (some []))->c.wpIn F n P Q { a with defers:={ target:=.collected D,args:=#[]}::a.defers} W):
 (Code.rangeFunc g ps assign body).wpIn F n P Q a w:=by
 refine wpIn_rangeFunc λfn zs=>?_;rw[zw];obtain⟨B,hB⟩:=bQ w.heap.size;obtain⟨i,q⟩:∃i:LoopState->Option Code->Loop,i=λst pe=>{ state:=st,pending:=pe,fn,tmps:=a.tmps,params:=ps,assign,body,defers:=B}:=⟨_,rfl⟩;have zb:∀s p,(i s p).state=s:=λs p=>by rw[q]
 obtain⟨z,H⟩:=bQ ((w.alloc (.deferred (some []))).alloc (.loop (i .ready none)));have zx:z.heap.size=B+2:=by rw[H,hB];simp
 have zv:nR B (i .ready none) z:=by
  rw[H,hB];have a1:=wnq (w.alloc (.deferred (some []))) (.loop (i .ready none));rw[wsa]at a1;exact⟨a1,(halq _ _ _ sm).trans (wnq w _)⟩
 have zn:b [] z:=by rw[H];exact hI.alloc _ (hI.alloc _ h0)
 have zr:aG w0 z:=by rw[H];exact zg.trans ((((br _ w).alloc (nlq _) _).alloc sm _).mono zg.size)
 rw[←hB]at hI V ze m J L R;refine⟨B+1,[{ target:=.collected B,args:=#[]}],z,{ target:=.fn (.func gf) lb,args:=#[.func (.yield (B+1)) #[] #[]]},z,gf,#[.func (.yield (B+1)) #[] #[]]++lb,z,?_,?_,?_,?_,λ_=>h1,?_⟩
 ·rw[H,q,hB];exact run_enterLoop_outer _ _ _ _ _
 ·simp only[resolve,hg]
  simp[go_sem]
 ·intro f' zh;simp[Target.leads]at zh;subst zh;exact zm
 ·simp[invoke,go_sem,eg]
 have Z:∀{k:Option Nat} {A:Wd},(∀r,k=some r->z.heap.size<=r/\∃o:Obj,A.heap[r]?=some o/\o.isCells=false)->∀r,k=some r->B<=r/\∃o:Obj,A.heap[r]?=some o/\o.isCells=false:=
  λh r e=>⟨by have:=(h r e).1;omega,(h r e).2⟩
 have zk:∀{k:Option Nat} {A:Wd},(∀r,k=some r->z.heap.size<=r/\∃o:Obj,A.heap[r]?=some o/\o.isCells=false)->∀r,k=some r->B+2<=r:=λh r e=>by have:=(h r e).1;omega
 refine(zj (B+1) (λf W=>b f W/\nR B (i .ready none) W) (λf W=>∃c,Ix c f W/\nR B (i .done (some c)) W) z zr
  (λs A _ k zl M y=>⟨hI s A _ k zl.1 M (Z y),zl.2.grown M (zk y)⟩) (λs A _ k ⟨c,hc,zl⟩ M y=>⟨c,V c s A _ k hc M (Z y),zl.grown M (zk y)⟩) ?_ ⟨zn,zv⟩).mono ?_
 ·rintro f x Wr ⟨hi,O⟩ zi
  have hy:=run_yield (P:=P) (args:=u x) O.l (by rw[q];exact zu x);rw[q]at hy;refine⟨fn,_,assign,body,hy,roundIn_of_wpIn zs (m _ f x Wr _ hi λT Wa ka kx zt zq=>?_)⟩;have ra:=O.keeps ka;refine⟨_,run_beginRound ra.l (zb _ _),?_⟩;have eb:({ i .ready none with state:=.busy}:Loop)=i .busy none:=by rw[q]
  rw[eb];have rb:=ra.put (i .busy none);have kb:KeepsFrom (B+2) Wa (Wa.putObj (B+1) (.loop (i .busy none))):=pH _ ra.l om;have zz:Kp Wa (Wa.putObj (B+1) (.loop (i .busy none))):=zf _ ra.l rfl
  have zd:∀(j:Option Code) (G:Wd),KeepsFrom B (Wa.putObj (B+1) (.loop (i .busy none))) G->
   (Instr.endRound (B+1) j).run P G=.ok (.bool j.isNone) (G.putObj (B+1) (.loop (i (if j.isNone then .ready else .done) j)))/\nR B (i .busy none) G/\KeepsFrom z.heap.size Wr (G.putObj (B+1) (.loop (i (if j.isNone then .ready else .done) j))):=λj G k3=>by
   have U:=rb.keeps k3;have he:=run_endRound (P:=P) j U.l;refine⟨by rw[he,q],U,?_⟩;rw[zx];exact(((KeepsFrom.mono ka om).trans kb).trans (KeepsFrom.mono k3 om)).trans (pH _ U.l om)
  refine wpIn_mono (J _ f x T _ om ⟨_,rb.l⟩ (hI.putObj _ zt om ra.l rfl) ((ze x T).putObj (s:=()) _ zq om ra.l rfl) zi) ?_;rintro e a3 G X
  have zc:∀c:Code,KeepsFrom B (Wa.putObj (B+1) (.loop (i .busy none))) G/\Ix c (f++[x]) G->∃v w',(Instr.endRound (B+1) (some c)).run P G=.ok v w'/\(KeepsFrom z.heap.size Wr w'/\
   ((Ending.returned v=rt (.bool true)/\(b (f++[x]) w'/\nR B (i .ready none) w')/\Kp Wr w')∨(Ending.returned v=rt (.bool false)/\∃c,Ix c (f++[x]) w'/\nR B (i .done (some c)) w'))):=λc X=>by
   obtain⟨he,U,kf⟩:=zd (some c) G X.1;exact⟨_,_,he,kf,.inr ⟨rfl,c,(V c).putObj _ X.2 om U.l rfl,U.put _⟩⟩
  cases e with
  |normal=>
   obtain⟨k3,zy,i3⟩:=X;obtain⟨he,U,kf⟩:=zd none G k3;exact⟨_,_,he,kf,.inl ⟨rfl,⟨hI.putObj _ i3 om U.l rfl,U.put _⟩,za (za (za kx zz) zy) (zf _ U.l rfl)⟩⟩
  |ret=>exact zc _ X
  |exit id=>exact zc _ X
  |goto t=>exact zc _ X
  |panic ch=>exact X.elim
  |outgrown=>exact X.elim
 ·rintro e W2 ⟨⟨v,rfl⟩,⟨xs,hS,hi,y⟩|⟨f,zp,c,hi,y⟩⟩
  ·exact⟨_,_,run_endLoop (P:=P) y.l (by rw[zb];simp),by simpa only[q,lca,lna]using L B xs _ (nlq _) hS (hI.putObj _ hi om y.l rfl) (y.put _).d⟩
  ·exact⟨_,_,run_endLoop (P:=P) y.l (by rw[zb];simp),by simpa only[q,lca,lna]using R B c f _ (nlq _) zp ((V c).putObj _ hi om y.l rfl) (y.put _).d⟩
theorem mX {α:Type} {g:Operand} {J:Array Tmp} {e i:Code} {Q:Exit->Act->Wd->Prop} {a:Act} {w:Wd}
 (H:F.round=none) (O:1<=n) {gf:Nat} {lb:Array Va} (T:a.eval g=.func (.func gf) #[] lb) (A:F.fn gf) (L:∀args w,(callFunc gf args).run P w=.ok (.enter gf args) w)
 {f:α->Array Va} {X:Nat->Prop} {S Sp:List α->Prop} {N:Nat} {w0:Wd} (s:SeqO F (n-1) P gf lb f X S Sp N w0) (C:aG w0 w) (G:∀x,(f x).size=J.size)
 (b:List α->Wd->Prop) (y:Code->List α->Wd->Prop) (R:OwnFrom w.heap.size b) (B:∀c,OwnFrom w.heap.size (y c)) (M:b [] w) (u:α->Act->Wd->Prop) (z:∀x j,OwnFrom w.heap.size (λ(_:Unit) W=>u x j W))
 (h:∀(l:Nat) (d:List α) (x:α) (W:Wd) (K:Act->Wd->Prop),b d W->(∀j q,KeepsFrom w.heap.size W q->bE X W q->b d q->u x j q->K j q)->
  e.wpIn (F.inRound l) (n-1-1) P (Exit.then K (λ_ _ _=>False)) { tmps:=(J.zip (f x)).foldl (λt (p,v)=>t.setIfInBounds p v) a.tmps,defers:=[]} W)
 (k:∀(l:Nat) (d:List α) (x:α) (j:Act) (W:Wd),w.heap.size<=l->(∃r,W.heap[l]?=some (.loop r))->b d W->u x j W->ln d<N->i.wpIn (F.inRound l) (n-1-1) P (ownPostG w.heap.size (bE X) b y (d++[x]) W) j W)
 (m:∀(D:Nat) (xs:List α) (W:Wd),w.heap.size<=D->S xs->b xs W->W.heap[D]?=some (.deferred (some []))->Q .normal { a with defers:={ target:=.collected D,args:=#[]}::a.defers} W)
 (o:∀(D:Nat) (c:Code) (d:List α) (W:Wd),w.heap.size<=D->Sp d->y c d W->W.heap[D]?=some (.deferred (some []))->c.wpIn F n P Q { a with defers:={ target:=.collected D,args:=#[]}::a.defers} W):
 (Code.rangeFunc g J e i).wpIn F n P Q a w:=
 m8 (Kp:=bE X) H O T A L s C bE.trans bE.putObj G b y R B M u z h k m o
theorem sF (i:F.depth=none){m j:Nat}{l:Nat}{f:FuncId}{tmps:Array Va}{a b:Code}{w:Wd}{R:Ending->Wd->Prop}(h:RoundIn F m P l f tmps a b w R):RoundIn F j P l f tmps a b w R:=
 ⟨h.1,λc g _=>h.2 c g (λd e=>by rw[i]at e;cases e)⟩
theorem tP {m l:Nat}{f:FuncId}{tmps:Array Va}{a b:Code}{w:Wd}{R:Ending->Wd->Prop}(c:Nat)(h:RoundIn F m P l f tmps a b w R):RoundIn (F.inRound c) m P l f tmps a b w R:=h
end
variable {A B C:Wd}{l:Nat}{o:Obj}
structure fC (X:Nat->Obj->Prop)(A A':World):Prop where
 size:A.heap.size<=A'.heap.size
 c:∀(k:Nat) (o:Obj),¬X k o->A.heap[k]?=some o->o.isCells=true->A'.heap[k]?=some o
theorem fC.refl (X:Nat->Obj->Prop)(A:Wd):fC X A A:=⟨nlq _,λ_ _ _ h _=>h⟩
theorem fC.trans {X:Nat->Obj->Prop}(h:fC X A B)(g:fC X B C):fC X A C:=⟨nlt h.size g.size,λk o hx b a=>g.c k o hx (h.c k o hx b a) a⟩
theorem fC.of_below {X:Nat->Obj->Prop}(h:aG A B):fC X A B:=⟨h.size,λk _ _ a _=>(h.block k (cE a)).trans a⟩
theorem fC.putObj {X:Nat->Obj->Prop}(g:Obj)(f:A.heap[l]?=some o)(d:o.isCells=false):fC X A (A.putObj l g):=by
 refine⟨sm,λk u _ a c=>?_⟩;have b:k≠l:=λe=>by subst e;rw[f]at a;cases a;rw[d]at c;cases c
 exact(World.putObj_heap_other b).trans a
theorem Q9 {X:Nat->Obj->Prop}(h:fC X A B)(g:fC X B C):fC X A C:=h.trans g
theorem ZP {X:Nat->Obj->Prop}(W:Wd)(l:Nat)(o a:Obj)(_:A.heap.size<=l)(c:W.heap[l]?=some o)(b:o.isCells=false)(_:o.isWalk=false):fC X W (W.putObj l a):=fC.putObj a c b
theorem fC.of_keepX {X:Nat->Obj->Prop}(h:bE (λ_=>False) A B):fC X A B:=⟨h.size,λk o _ a b=>h.c k o (λe=>e) a b⟩
