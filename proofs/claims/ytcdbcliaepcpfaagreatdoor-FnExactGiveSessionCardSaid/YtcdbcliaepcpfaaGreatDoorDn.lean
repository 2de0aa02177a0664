import Derived.Test.YtcdbcliaepcpfaaGreatDoorMkH
import Derived.Test.YtcdbcliaepcpfaaGreatDoorLeast
namespace Go.Proofs.YtcdbcliaepcpfaaGreatDoor
set_option maxRecDepth 100000
set_option maxHeartbeats 1000000
open Go.RowKit Go.Shelf
attribute [local go_sem] Oper.semAt_some
def bQ {α:Type}(t sz:Nat)(c:α->List Value)(w:World)(base:Nat)(v:Value)(l:List α):Prop:=
 (v=.slice none 0 0/\l=[])∨∃g cap,v=.slice (some ⟨g,0,none⟩) l.length cap/\base<=g/\l.length<=cap/\fP t sz c w g cap l l.length
theorem bQ.zL {α:Type}{t sz:Nat}{c:α->List Value}{w w':World}{base:Nat}{v:Value}{l:List α}(h:bQ t sz c w base v l)(i:aF w w'):bQ t sz c w' base v l:=by
 rcases h with h|⟨g,a,b,d,e,f⟩;·exact Or.inl h
 ·exact Or.inr ⟨g,a,b,d,e,f.zL i⟩
theorem bQ.slice {α:Type}{t sz:Nat}{c:α->List Value}{w:World}{base:Nat}{v:Value}{l:List α}(h:bQ t sz c w base v l):∃b a,v=.slice b l.length a:=by
 rcases h with⟨h,rfl⟩|⟨g,a,d,h2,h3,h4⟩;·exact⟨none,0,h⟩
 ·exact⟨_,_,d⟩
theorem iB {α:Type}{c:α->List Value}(h:∀a,∀u∈c a,u.oneCell'=true)(l:List α):∀u∈aI c l,u.oneCell'=true:=by
 intro u b;obtain⟨a,_,ha⟩:=List.mem_flatMap.1 b;exact h a u ha
theorem nQ (f:Fx):∀u∈f.cells,u.oneCell'=true:=by
 intro u a;simp[Fx.cells]at a;rcases a with rfl|rfl|rfl<;>rfl
theorem lH (f:Hx):∀u∈f.cells,u.oneCell'=true:=by
 intro u a;simp[Hx.cells]at a;rcases a with rfl|rfl|rfl<;>rfl
theorem sW (l:List Bx)(g:Option Addr)(f:Nat)(w:World)(o:jJ w g l)(hn:l.length<=1048576):
 aY 146 #[.slice g l.length f] w λe w'=>(∃v,e=.returned v/\aP w' w.heap.size v l)/\aF w w':=by
 obtain⟨B,y,i,k,m⟩:=info_parts Tryz.info56
 cases g with
 |none=>
  have z:l=[]:=by
   rcases o with h|⟨s,n,e,_⟩
   ·exact h
   ·cases e
  subst z
  go_enter Tryz.func146,Tryz.ntmps146
  go_wp2
  go_ret;exact⟨⟨_,rfl,.inl ⟨rfl,rfl⟩⟩,br _ _⟩
 |some ad=>
  have d:∀j u,(fA l)[j]?=some u->w.cell? (ad.add j)=some u:=by
   rcases o with h|⟨s,n,e,x⟩
   ·rw[h];intro j u h;simp[fA]at h
   ·cases e;exact BM x
  have c:w.ownsRow w.heap.size 56 6 (.slice none 0 0) 0 []:=World.ownsRow_nil w w.heap.size 56 6
  go_enter Tryz.func146,Tryz.ntmps146
  go_wp2_with (at_builtin;refine wpList_append_own _ rfl (.const (.slice none 0 0)) (.tmp 3) 31 rfl w.heap.size 56 B _ 6 48 Tryz.underlying31 y i k m rfl (by decide) _ _ _ rfl c ad l.length f (fA l) rfl (lY l) d (yZ l) ?qc3 ?qc4 ?qc5 ?_)
  case qc3=>unfold maxLen;omega
  case qc4=>omega
  case qc5=>simp
  intro C p b a _;have t:aF w p:=(br w.heap.size w).grown a (nlq _) (λq A=>by simp[Value.ownBlock]at A);have r:Hid (aP p w.heap.size C l):=aP.of_owns (by simpa using b);clear b a c;go_wp2
  go_ret;exact⟨⟨_,rfl,r.oQ⟩,t⟩
def mZ (v:Value):Prop:=∀a n c,v=.slice a n c->c<=maxLen
theorem CZ:mZ (.slice none 0 0):=λa n c e=>by cases e;unfold maxLen;omega
theorem lI {w:World}{base:Nat}{e:TypeId}{size:Nat}{v:Value}{n:Nat}{xs:List Value}(h:w.ownsRow base e size v n xs):mZ v:=λa m c e=>by
 obtain⟨_,⟨rfl,_⟩|⟨g,cap,cur,rfl,_,_,_,b,_⟩⟩:=h;·cases e;unfold maxLen;omega
 ·cases e;exact b
theorem y8 (l:List Fx)(i:Option Addr)(f:Nat)(w:World)(p:Xs 3 Fx.cells w i l)(hn:l.length<=1048576):
 aY 57 #[.slice i l.length f] w λe w'=>(∃v,e=.returned v/\bQ 74 3 Fx.cells w' w.heap.size v l/\mZ v)/\aF w w':=by
 obtain⟨C,z,k,m,n⟩:=info_parts Tryz.info74
 cases i with
 |none=>
  have A:l=[]:=by
   rcases p with h|⟨t,o,e,_⟩
   ·exact h
   ·cases e
  subst A
  go_enter Tryz.func57,Tryz.ntmps57
  go_wp2
  go_ret;exact⟨⟨_,rfl,.inl ⟨rfl,rfl⟩,CZ⟩,br _ _⟩
 |some ad=>
  have d:∀j u,(aI Fx.cells l)[j]?=some u->w.cell? (ad.add j)=some u:=by
   rcases p with h|⟨t,o,e,y⟩
   ·rw[h];intro j u h;simp[aI]at h
   ·cases e;exact mG Fx.cells_length (by decide) y
  have c:w.ownsRow w.heap.size 74 3 (.slice none 0 0) 0 []:=World.ownsRow_nil w w.heap.size 74 3
  go_enter Tryz.func57,Tryz.ntmps57
  go_wp2_with (at_builtin;refine wpList_append_own _ rfl (.const (.slice none 0 0)) (.tmp 3) 27 rfl w.heap.size 74 C _ 3 32 Tryz.underlying27 z k m n rfl (by decide) _ _ _ rfl c ad l.length f (aI Fx.cells l) rfl (cG Fx.cells_length l) d (iB nQ l) ?qc3 ?qc4 ?qc5 ?_)
  case qc3=>unfold maxLen;omega
  case qc4=>omega
  case qc5=>simp
  intro D r a b _;have x:aF w r:=(br w.heap.size w).grown b (nlq _) (λq B=>by simp[Value.ownBlock]at B);have g:=aG (lI a);have s:Hid (bQ 74 3 Fx.cells r w.heap.size D l):=iY Fx.cells_length (by simpa using a);clear a b c;go_wp2
  go_ret;exact⟨⟨_,rfl,s.oQ,g.oQ⟩,x⟩
theorem MO (l:List Hx)(i:Option Addr)(f:Nat)(w:World)(p:Xs 3 Hx.cells w i l)(hn:l.length<=1048576):
 aY 235 #[.slice i l.length f] w λe w'=>(∃v,e=.returned v/\bQ 90 3 Hx.cells w' w.heap.size v l/\mZ v)/\aF w w':=by
 obtain⟨C,z,k,m,n⟩:=info_parts Tryz.info90
 cases i with
 |none=>
  have A:l=[]:=by
   rcases p with h|⟨t,o,e,_⟩
   ·exact h
   ·cases e
  subst A
  go_enter Tryz.func235,Tryz.ntmps235
  go_wp2
  go_ret;exact⟨⟨_,rfl,.inl ⟨rfl,rfl⟩,CZ⟩,br _ _⟩
 |some ad=>
  have d:∀j u,(aI Hx.cells l)[j]?=some u->w.cell? (ad.add j)=some u:=by
   rcases p with h|⟨t,o,e,y⟩
   ·rw[h];intro j u h;simp[aI]at h
   ·cases e;exact mG Hx.cells_length (by decide) y
  have c:w.ownsRow w.heap.size 90 3 (.slice none 0 0) 0 []:=World.ownsRow_nil w w.heap.size 90 3
  go_enter Tryz.func235,Tryz.ntmps235
  go_wp2_with (at_builtin;refine wpList_append_own _ rfl (.const (.slice none 0 0)) (.tmp 3) 28 rfl w.heap.size 90 C _ 3 64 Tryz.underlying28 z k m n rfl (by decide) _ _ _ rfl c ad l.length f (aI Hx.cells l) rfl (cG Hx.cells_length l) d (iB lH l) ?qc3 ?qc4 ?qc5 ?_)
  case qc3=>unfold maxLen;omega
  case qc4=>omega
  case qc5=>simp
  intro D r a b _;have x:aF w r:=(br w.heap.size w).grown b (nlq _) (λq B=>by simp[Value.ownBlock]at B);have g:=aG (lI a);have s:Hid (bQ 90 3 Hx.cells r w.heap.size D l):=iY Hx.cells_length (by simpa using a);clear a b c;go_wp2
  go_ret;exact⟨⟨_,rfl,s.oQ,g.oQ⟩,x⟩
end Go.Proofs.YtcdbcliaepcpfaaGreatDoor
