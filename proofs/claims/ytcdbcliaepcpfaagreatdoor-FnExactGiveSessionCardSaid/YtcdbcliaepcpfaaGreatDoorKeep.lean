import Derived.Test.YtcdbcliaepcpfaaGreatDoorSq
import Derived.RangeFuncNested
import Derived.RangeFuncBound
import Derived.RangeFuncCalls
import Derived.RangeFuncLeaves
namespace Go.Proofs.YtcdbcliaepcpfaaGreatDoor
open Go.RowKit
structure bF (X:Nat->Prop)(A A':World):Prop where
 size:A.heap.size<=A'.heap.size
 c:∀(k:Nat) (o:Obj),¬X k->A.heap[k]?=some o->o.isCells=true->A'.heap[k]?=some o
theorem bF.refl (X:Nat->Prop)(A:World):bF X A A:=⟨nlq _,λ_ _ _ h _=>h⟩
theorem bF.trans {X:Nat->Prop}{A B C:World}(h:bF X A B)(g:bF X B C):bF X A C:=⟨Nat.le_trans h.size g.size,λk o hx b a=>g.c k o hx (h.c k o hx b a) a⟩
theorem bF.of_below {X:Nat->Prop}{A B:World}(h:aF A B):bF X A B:=⟨h.size,λk _ _ a _=>(h.block k (bU a)).trans a⟩
theorem bF.putObj {X:Nat->Prop}{W:World}{l:Nat}{o:Obj}(g:Obj)(f:W.heap[l]?=some o)(d:o.isCells=false):bF X W (W.putObj l g):=by
 refine⟨by simp,λk u _ a c=>?_⟩;have b:k≠l:=λe=>by subst e;rw[f]at a;cases a;rw[d]at c;cases c
 exact(World.putObj_heap_other b).trans a
theorem OD {X:Nat->Prop}{A B C:World}(h:bF X A B)(g:bF X B C):bF X A C:=h.trans g
theorem NV {X:Nat->Prop}{w:World}(W:World)(l:Nat)(o a:Obj)(_:w.heap.size<=l)(c:W.heap[l]?=some o)(b:o.isCells=false)(_:o.isWalk=false):bF X W (W.putObj l a):=bF.putObj a c b
theorem bF.setCell {X:Nat->Prop}(W:World)(b j:Nat)(v:Value)(hx:X b):bF X W (W.setCell ⟨b,j,none⟩ v):=
 ⟨by show W.heap.size<=(W.heap.modify _ _).size;rw[Array.size_modify];exact nlq _,λk _ a h _=>(Below.heap_setCell W _ v k (λe=>a (by cases e;exact hx))).trans h⟩
theorem bF.cell {X:Nat->Prop}{A d:World}(h:bF X A d){p:Addr}{v:Value}(hx:¬X p.block)(a:A.cell? p=some v):d.cell? p=some v:=by
 obtain⟨o,e,b⟩:=cells_of_cell a;have h':=h.c _ _ hx e b;unfold World.cell? at a ⊢;rw[e]at a;rw[h'];exact a
theorem KeepsFrom.mono {B a:Nat}{W b:World}(h:KeepsFrom B W b)(c:B<=a):KeepsFrom a W b:=⟨h.size,λk o d=>h.same k o (Nat.le_trans c d)⟩
theorem jA {B l:Nat}{W:World}{o:Obj}(a:Obj)(_:W.heap[l]?=some o)(hB:l<B):KeepsFrom B W (W.putObj l a):=⟨by simp,λk _ hk h _=>(World.putObj_heap_other (by omega)).trans h⟩
def YD {α:Type}(F:Fence)(n:Nat)(P:Program)(g:Nat)(lb:Array Value)(encs:α->Array Value)(X:Nat->Prop)(S Sp:List α->Prop)(N:Nat)(w:World):Prop:=
 ∀(l:Nat) (J Jx:List α->World->Prop) (W:World),aF w W->OwnFrom W.heap.size J->OwnFrom W.heap.size Jx->
  (∀pre x W1,J pre W1->pre.length<N->YieldAt F (n-1) P l (encs x) W1 λe W'=>
   KeepsFrom W.heap.size W1 W'/\((e=.returned (.bool true)/\J (pre++[x]) W'/\bF X W1 W')∨(e=.returned (.bool false)/\Jx (pre++[x]) W')))->
  J [] W->
  CallsIn F n P g (#[.func (.yield l) #[] #[]]++lb) W λe W'=>(∃v,e=.returned v)/\((∃xs,S xs/\J xs W')∨(∃pre,Sp pre/\Jx pre W'))
structure jN (B:Nat)(r:Loop)(W:World):Prop where
 l:W.heap[B+1]?=some (.loop r)
 d:W.heap[B]?=some (.deferred (some []))
theorem jN.grown {B:Nat}{r:Loop}{A b:World}{a:Option Nat}(h:jN B r A)(c:A.grownBy b a)(f:∀q,a=some q->B+2<=q):jN B r b:=
 ⟨(c.block _ (bU h.l) (λe=>by have:=f _ e.symm;omega)).trans h.l,(c.block _ (bU h.d) (λe=>by have:=f _ e.symm;omega)).trans h.d⟩
theorem jN.keeps {B:Nat}{r:Loop}{A a:World}(h:jN B r A)(b:KeepsFrom B A a):jN B r a:=⟨b.same _ _ (by omega) h.l rfl,b.same _ _ (nlq _) h.d rfl⟩
theorem jN.put {B:Nat}{r:Loop}{A:World}(h:jN B r A)(a:Loop):jN B a (A.putObj (B+1) (.loop a)):=
 ⟨World.putObj_heap_same (bU h.l),(World.putObj_heap_other (by omega)).trans h.d⟩
section
variable {F:Fence}{n:Nat}{P:Program}
theorem mB {α:Type} {g:Operand} {ps:Array Tmp} {assign body:Code} {Q:Exit->Act->World->Prop} {a:Act} {w:World}
 (hro:F.round=none) (h1:1<=n) {gf:Nat} {lb:Array Value} (hg:a.eval g=.func (.func gf) #[] lb) (hFg:F.fn gf) (eg:∀args w,(callFunc gf args).run P w=.ok (.enter gf args) w)
 {encs:α->Array Value} {X:Nat->Prop} {S Sp:List α->Prop} {N:Nat} {w0:World} (hseq:YD F (n-1) P gf lb encs X S Sp N w0) (hb0:aF w0 w) (hps:∀x,(encs x).size=ps.size)
 (I:List α->World->Prop) (Ix:Code->List α->World->Prop) (hI:OwnFrom w.heap.size I) (hIx:∀c,OwnFrom w.heap.size (Ix c)) (h0:I [] w) (Ax:α->Act->World->Prop) (hAx:∀x a',OwnFrom w.heap.size (fun(_:Unit) W=>Ax x a' W))
 (hassign:∀(l:Nat) (pre:List α) (x:α) (W:World) (K:Act->World->Prop),I pre W->(∀a' W',KeepsFrom w.heap.size W W'->bF X W W'->I pre W'->Ax x a' W'->K a' W')->
  assign.wpIn (F.inRound l) (n-1-1) P (Exit.then K (fun _ _ _=>False)) { tmps:=(ps.zip (encs x)).foldl (fun t (p,v)=>t.setIfInBounds p v) a.tmps,defers:=[]} W)
 (hbody:∀(l:Nat) (pre:List α) (x:α) (a':Act) (W:World),w.heap.size<=l->(∃r,W.heap[l]?=some (.loop r))->I pre W->Ax x a' W->pre.length<N->body.wpIn (F.inRound l) (n-1-1) P (ownPostG w.heap.size (bF X) I Ix (pre++[x]) W) a' W)
 (hdone:∀(D:Nat) (xs:List α) (W:World),w.heap.size<=D->S xs->I xs W->W.heap[D]?=some (.deferred (some []))->Q .normal { a with defers:={ target:=.collected D,args:=#[]}::a.defers} W)
 (hstop:∀(D:Nat) (c:Code) (pre:List α) (W:World),w.heap.size<=D->Sp pre->Ix c pre W->W.heap[D]?=some (.deferred (some []))->c.wpIn F n P Q { a with defers:={ target:=.collected D,args:=#[]}::a.defers} W):
 (Code.rangeFunc g ps assign body).wpIn F n P Q a w:=by
 refine wpIn_rangeFunc fun fn hfn=>?_;rw[hro];obtain⟨B,hB⟩:=bP w.heap.size;obtain⟨re,hre⟩:∃re:LoopState->Option Code->Loop,re=fun st pe=>{ state:=st,pending:=pe,fn,tmps:=a.tmps,params:=ps,assign,body,defers:=B}:=⟨_,rfl⟩;have hst:∀s p,(re s p).state=s:=fun s p=>by rw[hre]
 obtain⟨W1,hW1⟩:=bP ((w.alloc (.deferred (some []))).alloc (.loop (re .ready none)));have hs1:W1.heap.size=B+2:=by rw[hW1,hB];simp
 have hr1:jN B (re .ready none) W1:=by
  rw[hW1,hB];have a1:=wnq (w.alloc (.deferred (some []))) (.loop (re .ready none));rw[wsa]at a1;exact⟨a1,(halq _ _ _ (by simp)).trans (wnq w _)⟩
 have hI1:I [] W1:=by rw[hW1];exact hI.alloc _ (hI.alloc _ h0)
 have hb1:aF w0 W1:=by rw[hW1];exact hb0.trans ((((br _ w).alloc (nlq _) _).alloc (by simp) _).mono hb0.size)
 rw[←hB]at hI hIx hAx hassign hbody hdone hstop;refine⟨B+1,[{ target:=.collected B,args:=#[]}],W1,{ target:=.fn (.func gf) lb,args:=#[.func (.yield (B+1)) #[] #[]]},W1,gf,#[.func (.yield (B+1)) #[] #[]]++lb,W1,?_,?_,?_,?_,fun _=>h1,?_⟩
 · rw[hW1,hre,hB];exact run_enterLoop_outer _ _ _ _ _
 · simp only[resolve,hg]
   simp[go_sem]
 · intro f' hf';simp[Target.leads]at hf';subst hf';exact hFg
 · simp[invoke,go_sem,eg]
 have wide:∀{row:Option Nat} {A:World},(∀r,row=some r->W1.heap.size<=r/\∃o:Obj,A.heap[r]?=some o/\o.isCells=false)->∀r,row=some r->B<=r/\∃o:Obj,A.heap[r]?=some o/\o.isCells=false:=
  fun h r e=>⟨by have:=(h r e).1;omega,(h r e).2⟩
 have low:∀{row:Option Nat} {A:World},(∀r,row=some r->W1.heap.size<=r/\∃o:Obj,A.heap[r]?=some o/\o.isCells=false)->∀r,row=some r->B+2<=r:=fun h r e=>by have:=(h r e).1;omega
 refine(hseq (B+1) (fun pre W=>I pre W/\jN B (re .ready none) W) (fun pre W=>∃c,Ix c pre W/\jN B (re .done (some c)) W) W1 hb1
  (fun s A _ row hs hg' hr=>⟨hI s A _ row hs.1 hg' (wide hr),hs.2.grown hg' (low hr)⟩) (fun s A _ row ⟨c,hc,hs⟩ hg' hr=>⟨c,hIx c s A _ row hc hg' (wide hr),hs.grown hg' (low hr)⟩) ?_ ⟨hI1,hr1⟩).mono ?_
 · rintro pre x Wr ⟨hi,hrest⟩ hlen
   have hy:=run_yield (P:=P) (args:=encs x) hrest.l (by rw[hre];exact hps x);rw[hre]at hy;refine⟨fn,_,assign,body,hy,roundIn_of_wpIn hfn (hassign _ pre x Wr _ hi fun a' Wa ka kx hia hax=>?_)⟩;have ra:=hrest.keeps ka;refine⟨_,run_beginRound ra.l (hst _ _),?_⟩;have eb:({ re .ready none with state:=.busy}:Loop)=re .busy none:=by rw[hre]
   rw[eb];have rb:=ra.put (re .busy none);have kb:KeepsFrom (B+2) Wa (Wa.putObj (B+1) (.loop (re .busy none))):=jA _ ra.l (by omega);have kxb:bF X Wa (Wa.putObj (B+1) (.loop (re .busy none))):=bF.putObj _ ra.l rfl
   have fin:∀(j:Option Code) (W3:World),KeepsFrom B (Wa.putObj (B+1) (.loop (re .busy none))) W3->
    (Instr.endRound (B+1) j).run P W3=.ok (.bool j.isNone) (W3.putObj (B+1) (.loop (re (if j.isNone then .ready else .done) j)))/\jN B (re .busy none) W3/\KeepsFrom W1.heap.size Wr (W3.putObj (B+1) (.loop (re (if j.isNone then .ready else .done) j))):=fun j W3 k3=>by
    have r3:=rb.keeps k3;have he:=run_endRound (P:=P) j r3.l;refine⟨by rw[he,hre],r3,?_⟩;rw[hs1];exact(((KeepsFrom.mono ka (by omega)).trans kb).trans (KeepsFrom.mono k3 (by omega))).trans (jA _ r3.l (by omega))
   refine wpIn_mono (hbody _ pre x a' _ (by omega) ⟨_,rb.l⟩ (hI.putObj _ hia (by omega) ra.l rfl) ((hAx x a').putObj (s:=()) _ hax (by omega) ra.l rfl) hlen) ?_;rintro e a3 W3 hp
   have out:∀c:Code,KeepsFrom B (Wa.putObj (B+1) (.loop (re .busy none))) W3/\Ix c (pre++[x]) W3->∃v w',(Instr.endRound (B+1) (some c)).run P W3=.ok v w'/\(KeepsFrom W1.heap.size Wr w'/\
    ((Ending.returned v=.returned (.bool true)/\(I (pre++[x]) w'/\jN B (re .ready none) w')/\bF X Wr w')∨(Ending.returned v=.returned (.bool false)/\∃c,Ix c (pre++[x]) w'/\jN B (re .done (some c)) w'))):=fun c hp=>by
    obtain⟨he,r3,kf⟩:=fin (some c) W3 hp.1;exact⟨_,_,he,kf,.inr ⟨rfl,c,(hIx c).putObj _ hp.2 (by omega) r3.l rfl,r3.put _⟩⟩
   cases e with
   |normal=>
    obtain⟨k3,kx3,i3⟩:=hp;obtain⟨he,r3,kf⟩:=fin none W3 k3;exact⟨_,_,he,kf,.inl ⟨rfl,⟨hI.putObj _ i3 (by omega) r3.l rfl,r3.put _⟩,((kx.trans kxb).trans kx3).trans (bF.putObj _ r3.l rfl)⟩⟩
   |ret=>exact out _ hp
   |exit id=>exact out _ hp
   |goto t=>exact out _ hp
   |panic ch=>exact hp.elim
   |outgrown=>exact hp.elim
 · rintro e W2 ⟨⟨v,rfl⟩,⟨xs,hS,hi,hr⟩|⟨pre,hSp,c,hi,hr⟩⟩
   · exact⟨_,_,run_endLoop (P:=P) hr.l (by rw[hst];simp),by simpa only[hre,lca,lna]using hdone B xs _ (nlq _) hS (hI.putObj _ hi (by omega) hr.l rfl) (hr.put _).d⟩
   · exact⟨_,_,run_endLoop (P:=P) hr.l (by rw[hst];simp),by simpa only[hre,lca,lna]using hstop B c pre _ (nlq _) hSp ((hIx c).putObj _ hi (by omega) hr.l rfl) (hr.put _).d⟩
theorem qR (i:F.depth=none){m j:Nat}{l:Nat}{f:FuncId}{tmps:Array Value}{a b:Code}{w:World}{R:Ending->World->Prop}(h:RoundIn F m P l f tmps a b w R):RoundIn F j P l f tmps a b w R:=
 ⟨h.1,λc g _=>h.2 c g (λd e=>by rw[i]at e;cases e)⟩
theorem sF {m l:Nat}{f:FuncId}{tmps:Array Value}{a b:Code}{w:World}{R:Ending->World->Prop}(c:Nat)(h:RoundIn F m P l f tmps a b w R):RoundIn (F.inRound c) m P l f tmps a b w R:=h
end
structure eQ (X:Nat->Obj->Prop)(A A':World):Prop where
 size:A.heap.size<=A'.heap.size
 c:∀(k:Nat) (o:Obj),¬X k o->A.heap[k]?=some o->o.isCells=true->A'.heap[k]?=some o
theorem eQ.refl (X:Nat->Obj->Prop)(A:World):eQ X A A:=⟨nlq _,λ_ _ _ h _=>h⟩
theorem eQ.trans {X:Nat->Obj->Prop}{A B C:World}(h:eQ X A B)(g:eQ X B C):eQ X A C:=⟨Nat.le_trans h.size g.size,λk o hx b a=>g.c k o hx (h.c k o hx b a) a⟩
theorem eQ.of_below {X:Nat->Obj->Prop}{A B:World}(h:aF A B):eQ X A B:=⟨h.size,λk _ _ a _=>(h.block k (bU a)).trans a⟩
theorem eQ.putObj {X:Nat->Obj->Prop}{W:World}{l:Nat}{o:Obj}(g:Obj)(f:W.heap[l]?=some o)(d:o.isCells=false):eQ X W (W.putObj l g):=by
 refine⟨by simp,λk u _ a c=>?_⟩;have b:k≠l:=λe=>by subst e;rw[f]at a;cases a;rw[d]at c;cases c
 exact(World.putObj_heap_other b).trans a
theorem OF {X:Nat->Obj->Prop}{A B C:World}(h:eQ X A B)(g:eQ X B C):eQ X A C:=h.trans g
theorem VE {X:Nat->Obj->Prop}{w:World}(W:World)(l:Nat)(o a:Obj)(_:w.heap.size<=l)(c:W.heap[l]?=some o)(b:o.isCells=false)(_:o.isWalk=false):eQ X W (W.putObj l a):=eQ.putObj a c b
theorem eQ.of_keepX {X:Nat->Obj->Prop}{A B:World}(h:bF (λ_=>False) A B):eQ X A B:=⟨h.size,λk o _ a b=>h.c k o (λe=>e) a b⟩
def YX {α:Type}(F:Fence)(n:Nat)(P:Program)(g:Nat)(lb:Array Value)(encs:α->Array Value)(Kp:World->World->Prop)(S Sp:List α->Prop)(N:Nat)(w:World):Prop:=
 ∀(l:Nat) (J Jx:List α->World->Prop) (W:World),aF w W->OwnFrom W.heap.size J->OwnFrom W.heap.size Jx->
  (∀pre x W1,J pre W1->pre.length<N->YieldAt F (n-1) P l (encs x) W1 λe W'=>
   KeepsFrom W.heap.size W1 W'/\((e=.returned (.bool true)/\J (pre++[x]) W'/\Kp W1 W')∨(e=.returned (.bool false)/\Jx (pre++[x]) W')))->
  J [] W->
  CallsIn F n P g (#[.func (.yield l) #[] #[]]++lb) W λe W'=>(∃v,e=.returned v)/\((∃xs,S xs/\J xs W')∨(∃pre,Sp pre/\Jx pre W'))
section
variable {F:Fence}{n:Nat}{P:Program}
theorem rT {α:Type} {g:Operand} {ps:Array Tmp} {assign body:Code} {Q:Exit->Act->World->Prop} {a:Act} {w:World}
 (hro:F.round=none) (h1:1<=n) {gf:Nat} {lb:Array Value} (hg:a.eval g=.func (.func gf) #[] lb) (hFg:F.fn gf) (eg:∀args w,(callFunc gf args).run P w=.ok (.enter gf args) w)
 {encs:α->Array Value} {Kp:World->World->Prop} {S Sp:List α->Prop} {N:Nat} {w0:World} (hseq:YX F (n-1) P gf lb encs Kp S Sp N w0) (hb0:aF w0 w) (hKt:∀{A B C:World},Kp A B->Kp B C->Kp A C) (hKb:∀{W:World} {l:Nat} {o:Obj} (o':Obj),W.heap[l]?=some o->o.isCells=false->Kp W (W.putObj l o')) (hps:∀x,(encs x).size=ps.size)
 (I:List α->World->Prop) (Ix:Code->List α->World->Prop) (hI:OwnFrom w.heap.size I) (hIx:∀c,OwnFrom w.heap.size (Ix c)) (h0:I [] w) (Ax:α->Act->World->Prop) (hAx:∀x a',OwnFrom w.heap.size (fun(_:Unit) W=>Ax x a' W))
 (hassign:∀(l:Nat) (pre:List α) (x:α) (W:World) (K:Act->World->Prop),I pre W->(∀a' W',KeepsFrom w.heap.size W W'->Kp W W'->I pre W'->Ax x a' W'->K a' W')->
  assign.wpIn (F.inRound l) (n-1-1) P (Exit.then K (fun _ _ _=>False)) { tmps:=(ps.zip (encs x)).foldl (fun t (p,v)=>t.setIfInBounds p v) a.tmps,defers:=[]} W)
 (hbody:∀(l:Nat) (pre:List α) (x:α) (a':Act) (W:World),w.heap.size<=l->(∃r,W.heap[l]?=some (.loop r))->I pre W->Ax x a' W->pre.length<N->body.wpIn (F.inRound l) (n-1-1) P (ownPostG w.heap.size Kp I Ix (pre++[x]) W) a' W)
 (hdone:∀(D:Nat) (xs:List α) (W:World),w.heap.size<=D->S xs->I xs W->W.heap[D]?=some (.deferred (some []))->Q .normal { a with defers:={ target:=.collected D,args:=#[]}::a.defers} W)
 (hstop:∀(D:Nat) (c:Code) (pre:List α) (W:World),w.heap.size<=D->Sp pre->Ix c pre W->W.heap[D]?=some (.deferred (some []))->c.wpIn F n P Q { a with defers:={ target:=.collected D,args:=#[]}::a.defers} W):
 (Code.rangeFunc g ps assign body).wpIn F n P Q a w:=by
 refine wpIn_rangeFunc fun fn hfn=>?_;rw[hro];obtain⟨B,hB⟩:=bP w.heap.size;obtain⟨re,hre⟩:∃re:LoopState->Option Code->Loop,re=fun st pe=>{ state:=st,pending:=pe,fn,tmps:=a.tmps,params:=ps,assign,body,defers:=B}:=⟨_,rfl⟩;have hst:∀s p,(re s p).state=s:=fun s p=>by rw[hre]
 obtain⟨W1,hW1⟩:=bP ((w.alloc (.deferred (some []))).alloc (.loop (re .ready none)));have hs1:W1.heap.size=B+2:=by rw[hW1,hB];simp
 have hr1:jN B (re .ready none) W1:=by
  rw[hW1,hB];have a1:=wnq (w.alloc (.deferred (some []))) (.loop (re .ready none));rw[wsa]at a1;exact⟨a1,(halq _ _ _ (by simp)).trans (wnq w _)⟩
 have hI1:I [] W1:=by rw[hW1];exact hI.alloc _ (hI.alloc _ h0)
 have hb1:aF w0 W1:=by rw[hW1];exact hb0.trans ((((br _ w).alloc (nlq _) _).alloc (by simp) _).mono hb0.size)
 rw[←hB]at hI hIx hAx hassign hbody hdone hstop;refine⟨B+1,[{ target:=.collected B,args:=#[]}],W1,{ target:=.fn (.func gf) lb,args:=#[.func (.yield (B+1)) #[] #[]]},W1,gf,#[.func (.yield (B+1)) #[] #[]]++lb,W1,?_,?_,?_,?_,fun _=>h1,?_⟩
 · rw[hW1,hre,hB];exact run_enterLoop_outer _ _ _ _ _
 · simp only[resolve,hg]
   simp[go_sem]
 · intro f' hf';simp[Target.leads]at hf';subst hf';exact hFg
 · simp[invoke,go_sem,eg]
 have wide:∀{row:Option Nat} {A:World},(∀r,row=some r->W1.heap.size<=r/\∃o:Obj,A.heap[r]?=some o/\o.isCells=false)->∀r,row=some r->B<=r/\∃o:Obj,A.heap[r]?=some o/\o.isCells=false:=
  fun h r e=>⟨by have:=(h r e).1;omega,(h r e).2⟩
 have low:∀{row:Option Nat} {A:World},(∀r,row=some r->W1.heap.size<=r/\∃o:Obj,A.heap[r]?=some o/\o.isCells=false)->∀r,row=some r->B+2<=r:=fun h r e=>by have:=(h r e).1;omega
 refine(hseq (B+1) (fun pre W=>I pre W/\jN B (re .ready none) W) (fun pre W=>∃c,Ix c pre W/\jN B (re .done (some c)) W) W1 hb1
  (fun s A _ row hs hg' hr=>⟨hI s A _ row hs.1 hg' (wide hr),hs.2.grown hg' (low hr)⟩) (fun s A _ row ⟨c,hc,hs⟩ hg' hr=>⟨c,hIx c s A _ row hc hg' (wide hr),hs.grown hg' (low hr)⟩) ?_ ⟨hI1,hr1⟩).mono ?_
 · rintro pre x Wr ⟨hi,hrest⟩ hlen
   have hy:=run_yield (P:=P) (args:=encs x) hrest.l (by rw[hre];exact hps x);rw[hre]at hy;refine⟨fn,_,assign,body,hy,roundIn_of_wpIn hfn (hassign _ pre x Wr _ hi fun a' Wa ka kx hia hax=>?_)⟩;have ra:=hrest.keeps ka;refine⟨_,run_beginRound ra.l (hst _ _),?_⟩;have eb:({ re .ready none with state:=.busy}:Loop)=re .busy none:=by rw[hre]
   rw[eb];have rb:=ra.put (re .busy none);have kb:KeepsFrom (B+2) Wa (Wa.putObj (B+1) (.loop (re .busy none))):=jA _ ra.l (by omega);have kxb:Kp Wa (Wa.putObj (B+1) (.loop (re .busy none))):=hKb _ ra.l rfl
   have fin:∀(j:Option Code) (W3:World),KeepsFrom B (Wa.putObj (B+1) (.loop (re .busy none))) W3->
    (Instr.endRound (B+1) j).run P W3=.ok (.bool j.isNone) (W3.putObj (B+1) (.loop (re (if j.isNone then .ready else .done) j)))/\jN B (re .busy none) W3/\KeepsFrom W1.heap.size Wr (W3.putObj (B+1) (.loop (re (if j.isNone then .ready else .done) j))):=fun j W3 k3=>by
    have r3:=rb.keeps k3;have he:=run_endRound (P:=P) j r3.l;refine⟨by rw[he,hre],r3,?_⟩;rw[hs1];exact(((KeepsFrom.mono ka (by omega)).trans kb).trans (KeepsFrom.mono k3 (by omega))).trans (jA _ r3.l (by omega))
   refine wpIn_mono (hbody _ pre x a' _ (by omega) ⟨_,rb.l⟩ (hI.putObj _ hia (by omega) ra.l rfl) ((hAx x a').putObj (s:=()) _ hax (by omega) ra.l rfl) hlen) ?_;rintro e a3 W3 hp
   have out:∀c:Code,KeepsFrom B (Wa.putObj (B+1) (.loop (re .busy none))) W3/\Ix c (pre++[x]) W3->∃v w',(Instr.endRound (B+1) (some c)).run P W3=.ok v w'/\(KeepsFrom W1.heap.size Wr w'/\
    ((Ending.returned v=.returned (.bool true)/\(I (pre++[x]) w'/\jN B (re .ready none) w')/\Kp Wr w')∨(Ending.returned v=.returned (.bool false)/\∃c,Ix c (pre++[x]) w'/\jN B (re .done (some c)) w'))):=fun c hp=>by
    obtain⟨he,r3,kf⟩:=fin (some c) W3 hp.1;exact⟨_,_,he,kf,.inr ⟨rfl,c,(hIx c).putObj _ hp.2 (by omega) r3.l rfl,r3.put _⟩⟩
   cases e with
   |normal=>
    obtain⟨k3,kx3,i3⟩:=hp;obtain⟨he,r3,kf⟩:=fin none W3 k3;exact⟨_,_,he,kf,.inl ⟨rfl,⟨hI.putObj _ i3 (by omega) r3.l rfl,r3.put _⟩,hKt (hKt (hKt kx kxb) kx3) (hKb _ r3.l rfl)⟩⟩
   |ret=>exact out _ hp
   |exit id=>exact out _ hp
   |goto t=>exact out _ hp
   |panic ch=>exact hp.elim
   |outgrown=>exact hp.elim
 · rintro e W2 ⟨⟨v,rfl⟩,⟨xs,hS,hi,hr⟩|⟨pre,hSp,c,hi,hr⟩⟩
   · exact⟨_,_,run_endLoop (P:=P) hr.l (by rw[hst];simp),by simpa only[hre,lca,lna]using hdone B xs _ (nlq _) hS (hI.putObj _ hi (by omega) hr.l rfl) (hr.put _).d⟩
   · exact⟨_,_,run_endLoop (P:=P) hr.l (by rw[hst];simp),by simpa only[hre,lca,lna]using hstop B c pre _ (nlq _) hSp ((hIx c).putObj _ hi (by omega) hr.l rfl) (hr.put _).d⟩
end
end Go.Proofs.YtcdbcliaepcpfaaGreatDoor
