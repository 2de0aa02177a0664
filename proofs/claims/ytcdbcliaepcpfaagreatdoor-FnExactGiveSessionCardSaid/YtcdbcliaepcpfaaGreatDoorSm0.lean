import Derived.Test.YtcdbcliaepcpfaaGreatDoorImplTube
namespace Go.Proofs.YtcdbcliaepcpfaaGreatDoor
open Go.RowKit
theorem aJ {w:World}{z j:Nat}{a:Array Value}{t:TypeId}{v:Value}(h:w.heap[z]?=some (.cells a t))(b:a[j]?=some v):w.cell? ⟨z,j,none⟩=some v:=by simp[World.cell?,h,b]
theorem aP.weak {w:World}{base base':Nat}{v:Value}{l:List Bx}(h:aP w base v l)(hb:base'<=base):aP w base' v l:=by
 rcases h with h|⟨g,a,b,h2,c,d⟩;·exact .inl h
 ·exact .inr ⟨g,a,b,by omega,c,d⟩
abbrev Bk.obj (b:Bk):Obj:=.cells #[.int .i64 b.now,.slice b.fa b.fl.length b.fc,.slice b.ha b.hl.length b.hc] 30
set_option maxRecDepth 100000
theorem aU.map {β:Type}{l m:List Hx}(h:aU l m)(f:Hx->β)(d:∀a b:Hx,a.Like b->f a=f b):l.map f=m.map f:=
 List.ext_getElem (by simp[h.len]) (λi c h2=>by simp only[List.getElem_map];exact d _ _ (h.like i (by simpa using c)))
theorem BB {α:Type}(nm:α->ByteArray):∀l:List α,kK nm l=kK (λx=>x) (l.map nm)
 |[]=>rfl
 |[_]=>rfl
 |a::b::r=>by simp only[kK,List.map_cons];rw[BB nm (b::r)];rfl
theorem IW {l m:List Hx}(h:aU l m):bV Hx.n l=bV Hx.n m:=by
 have e:=h.map Hx.n (λ_ _ g=>g.n);have b:=h.map (λx=>cS x.n) (λ_ _ g=>by rw[g.n]);rw[bV,bV,BB,BB Hx.n m,e];congr 1;have a:∀l:List Hx,(l.all λx=>cS x.n)=(l.map (λx=>cS x.n)).all (λx=>x):=λl=>by rw[List.all_map];rfl
 rw[a l,a m,b]
theorem LB {l m:List Hx}(h:aU l m)(b:List Fx)(a:Int):l.all (cI b a)=m.all (cI b a):=by
 have e:=h.map (cI b a) (λ_ _ g=>by rw[cI,cI,g.t,g.x]);have c:∀l:List Hx,l.all (cI b a)=(l.map (cI b a)).all (λx=>x):=λl=>by rw[List.all_map];rfl
 rw[c l,c m,e]
theorem yX {a b c d:Hx}(h:a.Like b)(g:c.Like d):cA a c=cA b d:=by rw[cA,cA,h.t,h.x,g.t,g.x]
theorem ME {l m:List Hx}(h:aU l m):gL l l.length=gL m m.length:=by
 rw[Bool.eq_iff_iff,rE l _ (nlq _),rE m _ (nlq _)];have hl:=h.len;constructor
 ·intro g i j b c a;rw[←yX (h.like i (by omega)) (h.like j (by omega))];exact g i j (by omega) (by omega) a
 ·intro g i j b c a;rw[yX (h.like i (by omega)) (h.like j (by omega))];exact g i j (by omega) (by omega) a
theorem aU.trans {l m n:List Hx}(h:aU l m)(g:aU m n):aU l n:=⟨g.len.trans h.len,λk b=>by
 have a:=h.like k b;have c:=g.like k (by have:=h.len;omega);exact⟨a.n.trans c.n,a.t.trans c.t,a.x.trans c.x⟩⟩
end Go.Proofs.YtcdbcliaepcpfaaGreatDoor
