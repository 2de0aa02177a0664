import Derived.Shelf.Spec.SlicesInsertGrow
import Derived.Test.YtcdbcliaepcpfaaGreatDoorDq
namespace Go.Proofs.YtcdbcliaepcpfaaGreatDoor
set_option maxRecDepth 100000
set_option maxHeartbeats 4000000
open Go.RowKit Go.Shelf Go.Lib
theorem jX {P:Program}(w:World)(m y z d:TypeId)(sz b o c g:Nat)(a:Addr)(e k:Nat)(f:List Value)
 (x:P.underlying m=some (.slice d))(p:(P.info? d).map (·.size)=some sz)(u:f.length=Nat.min e c*sz)
 (h:∀j v,f[j]?=some v->w.cell? (a.add j)=some v)(r:∀j,j<f.length->(w.cell? ⟨b,o+j,none⟩).isSome=true)(s:∀j,j<f.length->w.frozen? ⟨b,o+j,none⟩=false)(q:∀v∈f,v.oneCell'=true):
 (Builtin.copy_ #[m,y] z #[.slice (some ⟨b,o,none⟩) c g,.slice (some a) e k]).run P w=.ok (goInt (Nat.min e c)) (w.setCells b o f):=by
 have n:=run_loadCells_list (P:=P) w a f h;have l:=run_storeCells_cells (P:=P) b o f 0 w (by simpa using r) (by simpa using s) q;rw[u]at n
 cases hq:P.info? d with
 |none=>simp[hq]at p
 |some i=>
  have t:i.size=sz:=by simpa[hq]using p
  simp[Builtin.copy_,run_underlying x,Builtin.lenOf,Builtin.firstCells,sizeOf,typeInfo,hq,t,n,l]
theorem FL (g n c i V:Nat)(d q:List Value)(w:World)(hi:i<n)(hroom:n+1<=c)(hc63:c<=9223372036854775807)(B:V≠g)
 (I:d.length=n*3)(Q:q.length=3)
 (J:∀j v,d[j]?=some v->w.cell? ⟨g,j,none⟩=some v)(o:∀j,j<(n+1)*3->(w.cell? ⟨g,j,none⟩).isSome=true)(u:∀j,w.frozen? ⟨g,j,none⟩=false)
 (R:∀j v,q[j]?=some v->w.cell? ⟨V,j,none⟩=some v)(F:∀v∈d,v.oneCell'=true)(G:∀v∈q,v.oneCell'=true)
 (X Y:TypeId)(S T:Nat)(O:w.shape? V=some (X,S))(P:w.shape? g=some (Y,T))(K:T≠0)(t:∀j,w.frozen? ⟨V,j,none⟩=false):
 aY 143 #[.slice (some ⟨g,0,none⟩) n c,.int .i64 i,.slice (some ⟨V,0,none⟩) 1 1] w λe w'=>
  e=.returned (.slice (some ⟨g,0,none⟩) (n+1) c)/\w'=(w.drew.setCells g ((i+1)*3) (d.drop (i*3))).setCells g (i*3) q:=by
 obtain⟨i0,y,hz0,C,hzb⟩:=info_parts Tryz.info90;have mixed:Tryz.prog.follows .mixedOrders=true:=by kernel_rfl
 have hz2:¬((i:Int)=(n:Int)):=by omega
 have A:(Tryz.prog.info? 90).map (·.size)=some 3:=by rw[y];simp[C]
 have N:∀lb E,(callFunc 201 #[.slice (some ⟨V,0,none⟩) 1 1,.slice (some ⟨g,(i+1)*3,none⟩) lb E]).run Tryz.prog w=.ok (.value (.bool false)) w:=λlb E=>by
  rw[run_callFunc_extern Tryz.func201 (by kernel_rfl) (by kernel_rfl) (by kernel_rfl) (e:=Extern.SlicesOverlaps.overlaps #[28,28] #[4]) (by kernel_rfl),
   Lib.run_overlaps_apart w 28 4 90 Tryz.underlying28 3 (λw=>by simp[Go.sizeOf,typeInfo,y,C]) ⟨V,0,none⟩ ⟨g,(i+1)*3,none⟩ 1 1 lb E B X Y S T O P K (t 0) (t S)]
  rfl
 have hw1:IntKind.i64.wrap ((i:Int)+1)=(i:Int)+1:=by rw[IntKind.wrap_i64];omega
 have hw2:IntKind.i64.wrap ((n:Int)+1)=(n:Int)+1:=by rw[IntKind.wrap_i64];omega
 have hb1:(0:Int)<=(i:Int)+1:=by omega
 have hin:i<=n:=by omega
 have htn:((i:Int)+1).toNat=i+1:=by omega
 have hb2:¬(c=i+1):=by omega
 have hb3:(i:Int)<=(n:Int)+1:=by omega
 have hb4:¬(c=i):=by omega
 have m:(d.drop (i*3)).length=(n-i)*3:=by rw[List.length_drop,I];omega
 have L:Nat.min (n+1-i) (n-i)=n-i:=by simp only[Nat.min_def];split<;>omega
 have M:Nat.min 1 (n+1-i)=1:=by simp only[Nat.min_def];split<;>omega
 have f:∀p l U,(Builtin.copy_ #[28,28] p #[.slice (some ⟨g,(i+1)*3,none⟩) (n-i) l,.slice (some ⟨g,i*3,none⟩) (n+1-i) U]).run Tryz.prog w.drew=.ok (goInt (Nat.min (n+1-i) (n-i))) (w.drew.setCells g ((i+1)*3) (d.drop (i*3))):=λp l U=>
  jX w.drew _ _ p 90 3 g ((i+1)*3) (n-i) l ⟨g,i*3,none⟩ (n+1-i) U (d.drop (i*3)) Tryz.underlying28 A (by rw[m,L])
   (λj v b=>by rw[Addr.add_lit];exact J (i*3+j) v (by rwa[List.getElem?_drop]at b))
   (λj b=>o _ (by rw[m]at b;omega)) (λj b=>u _) (λv hv=>F v (List.mem_of_mem_drop hv))
 obtain⟨D,a⟩:=bP (w.drew.setCells g ((i+1)*3) (d.drop (i*3)))
 have z:∀k,k<(n+1)*3->(D.cell? ⟨g,k,none⟩).isSome=true:=λk Z=>by
  rw[a];exact isSome_setCells g (d.drop (i*3)) ((i+1)*3) w.drew (λj b=>o _ (by rw[m]at b;omega)) _ (o k Z)
 have s:∀(W:World),(∀x,W.cell? x=D.cell? x)->(∀x,W.frozen? x=D.frozen? x)->∀p l,(Builtin.copy_ #[28,28] p #[.slice (some ⟨g,i*3,none⟩) (n+1-i) l,.slice (some ⟨V,0,none⟩) 1 1]).run Tryz.prog W=.ok (goInt (Nat.min 1 (n+1-i))) (W.setCells g (i*3) q):=λW r H p l=>
  jX W _ _ p 90 3 g (i*3) (n+1-i) l ⟨V,0,none⟩ 1 1 q Tryz.underlying28 A (by rw[Q,M])
   (λj v b=>by
    rw[Addr.add_lit,r,a,World.cell?_setCells_out g _ _ _ _ (λh _=>absurd h B),Nat.zero_add]
    exact R j v b)
   (λj b=>by rw[r];exact z _ (by omega)) (λj b=>by rw[H,a,World.frozen?_setCells];exact u _) G
 rw[←a]at f
 go_enter Tryz.func143,Tryz.ntmps143
 go_wp2_with (simp only[N])
 go_region_law_o (refine step_copy_runI rfl _ _ 28 28 rfl _ _ (by simp[Act.eval,Act.put]) (by simp[Act.eval,Act.put]) (f _ _ _) ?_)
 go_wp2_with (at_builtin;refine wpList_copy_runI _ rfl _ _ 28 28 rfl _ _ rfl rfl (s _ (λ_=>rfl) (λ_=>rfl) _ _) ?_)
 go_ret
 first|exact⟨rfl,rfl⟩|exact⟨rfl,by rw[a]⟩
theorem eB {g t N:Nat}:∀(a:List Value) (o:Nat) (w:World) (f:Nat->Value),w.rowIs g t N f->(w.setCells g o a).rowIs g t N (λj=>if o<=j/\j<o+a.length then a.getD (j-o) undef else f j)
 |[],o,w,f,h=>by
  have e:(λj=>if o<=j/\j<o+([]:List Value).length then([]:List Value).getD (j-o) undef else f j)=f:=by
   funext j;rw[if_neg (by simp)]
  rw[e];exact h
 |v::r,o,w,f,h=>by
  have d:=eB r (o+1) _ _ (h.set o v)
  have e:(λj=>if o+1<=j/\j<o+1+r.length then r.getD (j-(o+1)) undef else(if j=o then v else f j))=(λj=>if o<=j/\j<o+(v::r).length then(v::r).getD (j-o) undef else f j):=by
   funext j;by_cases b:j=o
   ·subst b;rw[if_neg (by omega),if_pos rfl,if_pos (by simp)];simp
   ·by_cases c:o+1<=j/\j<o+1+r.length
    ·rw[if_pos c,if_pos (by simp;omega)];obtain⟨k,rfl⟩:∃k,j=o+1+k:=⟨j-(o+1),by omega⟩;rw[show o+1+k-(o+1)=k by omega,show o+1+k-o=k+1 by omega];simp
    ·rw[if_neg c,if_neg b,if_neg (by simp;omega)]
  rw[e]at d;exact d
theorem lK {w:World}{z g t sz n c:Nat}{f:Nat->Value}{xs:List Value}(h:w.rowIs g t (c*sz) f)(p:z<=g)(d:n<=c)(e:c<=maxLen)(m:xs.length=n*sz)(hx:∀j u,xs[j]?=some u->f j=u):w.ownsRow z t sz (.slice (some ⟨g,0,none⟩) n c) n xs:=by
 obtain⟨b,k,o,i⟩:=h;have hle:n*sz<=c*sz:=Nat.mul_le_mul_right _ d;refine⟨m,.inr ⟨g,c,b,rfl,p,k,d,e,o,?_⟩⟩;apply List.ext_getElem?;intro j;by_cases l:j<n*sz
 ·rw[List.getElem?_take_of_lt l,Array.getElem?_toList,i j (by omega)];have a:j<xs.length:=by omega
  rw[lge a];rw[hx j xs[j] (lge a)]
 ·rw[List.getElem?_eq_none (by rw[List.length_take];omega),List.getElem?_eq_none (by omega)]
theorem yH {a e:List Value}{n i:Nat}(hi:i<=n)(g:a.length=n*3)(d:e.length=3){f h:Nat->Value}(p:∀j u,a[j]?=some u->f j=u)
 (q:∀j,j<(n+1)*3->h j=if i*3<=j/\j<i*3+3 then e.getD (j-i*3) undef else if(i+1)*3<=j/\j<(i+1)*3+(n-i)*3 then(a.drop (i*3)).getD (j-(i+1)*3) undef else f j):
 ∀j u,(a.take (i*3)++(e++a.drop (i*3)))[j]?=some u->h j=u:=by
 intro j u b;have c:(a.take (i*3)++(e++a.drop (i*3))).length=(n+1)*3:=by simp[g,d];omega
 have k:j<(n+1)*3:=by rw[←c];exact(lgs.1 b).1
 have l:(a.take (i*3)).length=i*3:=by rw[List.length_take];omega
 rw[q j k];by_cases m:j<i*3
 ·rw[if_neg (by omega),if_neg (by omega)];rw[List.getElem?_append_left (by omega),List.getElem?_take_of_lt m]at b;exact p j u b
 ·rw[List.getElem?_append_right (by omega),l]at b;by_cases o:j<i*3+3
  ·rw[if_pos ⟨by omega,o⟩];rw[List.getElem?_append_left (by omega)]at b;rw[List.getD_eq_getElem?_getD,b];rfl
  ·rw[if_neg (by omega),if_pos ⟨by omega,by omega⟩];rw[List.getElem?_append_right (by omega),d]at b;rw[show j-(i+1)*3=j-i*3-3 by omega,List.getD_eq_getElem?_getD,b];rfl
theorem IU (g n c i V:Nat)(d o:List Value)(w:World)(hi:i<n)(hnc:n<=c)(E:c<n+1)(hn64:n<=64)
 (zi:d.length=n*3)(Q:o.length=3)
 (C:∀j v,d[j]?=some v->w.cell? ⟨g,j,none⟩=some v)
 (R:∀j v,o[j]?=some v->w.cell? ⟨V,j,none⟩=some v)(U:∀v∈d,v.oneCell'=true)(X:∀v∈o,v.oneCell'=true):
 aY 143 #[.slice (some ⟨g,0,none⟩) n c,.int .i64 i,.slice (some ⟨V,0,none⟩) 1 1] w λe w'=>
  ∃G a,n+1<=G/\G<=maxLen/\a.size=G*3/\(∀j u,(d.take (i*3))[j]?=some u->a.getD j undef=u)/\e=.returned (.slice (some ⟨w.heap.size,0,none⟩) (n+1) G)/\
  w'=(((w.alloc (.cells a 90)).drew.setCells w.heap.size (i*3) o).drew).setCells w.heap.size ((i+1)*3) (d.drop (i*3)):=by
 obtain⟨i0,N,zm,F,S⟩:=info_parts Tryz.info90;have mixed:Tryz.prog.follows .mixedOrders=true:=by kernel_rfl
 have hz2:¬((i:Int)=(n:Int)):=by omega
 have hz3:(c:Int)<(n:Int)+1:=by omega
 have P:(Tryz.prog.info? 90).map (·.size)=some 3:=by rw[N];simp[F]
 have zh:g<w.heap.size:=block_lt_of_cell (C 0 _ (lge (by omega)));have zl:V<w.heap.size:=block_lt_of_cell (R 0 _ (lge (by omega)));have O:(n:Int)+1-(i:Int)=((n+1-i:Nat):Int):=by omega
 have D:i+(n+1-i)=n+1:=by omega
 have m:(d.take (i*3)).length=i*3:=by rw[List.length_take];omega
 have y:(Builtin.firstCells i0.size i (.slice (some ⟨g,0,none⟩) i c)).run Tryz.prog w.drew=.ok (d.take (i*3)).toArray w.drew:=by
  rw[F]
  exact run_firstCells_some w.drew 3 i ⟨g,0,none⟩ i c (d.take (i*3)) m (λj v b=>by
   rw[Addr.add_lit,Nat.zero_add];rw[List.getElem?_take]at b
   split at b
   · exact C j v b
   · cases b)
 have s:∀q,(Builtin.append_ #[28,3] q #[.slice (some ⟨g,0,none⟩) i c,.int .i64 ((n:Int)+1-(i:Int))]).run Tryz.prog w=
  .ok (.slice (some ⟨w.heap.size,0,none⟩) (n+1) (grownCap w (n+1) c 90)) (w.drew.alloc (.cells ((d.take (i*3)).toArray++Builtin.zeroCells (Value.agg #[.string ByteArray.empty,.slice none 0 0,.slice none 0 0]).cells (n+1-i)++Builtin.zeroCells (Value.agg #[.string ByteArray.empty,.slice none 0 0,.slice none 0 0]).cells (grownCap w (n+1) c 90-(n+1))) 90)):=λq=>by
  have h:=Lib.run_append_grow_zeros w 28 3 q 90 i0 _ .i64 .i64 Tryz.underlying28 Tryz.underlying3 N zm (some ⟨g,0,none⟩) i c (d.take (i*3)) y (n+1-i) (by omega) (by rw[F];omega) (by omega) (by omega) (by rw[S];omega) (by rw[S,D];exact growslice_fits E (by omega));rw[D]at h;rw[O];exact h
 obtain⟨G,T⟩:=bP (grownCap w (n+1) c 90);obtain⟨a,k⟩:=bP ((d.take (i*3)).toArray++Builtin.zeroCells (Value.agg #[.string ByteArray.empty,.slice none 0 0,.slice none 0 0]).cells (n+1-i)++Builtin.zeroCells (Value.agg #[.string ByteArray.empty,.slice none 0 0,.slice none 0 0]).cells (G-(n+1)):Array Value);rw[←T]at s;rw[←k]at s;have zc:n+1<=G:=by rw[T];exact grownCap_ge w _ _ _
 have H:G<=maxLen:=by rw[T];exact grownCap_le_maxLen w (n+1) c _ (by unfold maxLen;omega)
 have A:a.size=G*3:=by
  rw[k]
  simp[Builtin.zeroCells,Value.cells,m]
  omega
 have J:∀j u,(d.take (i*3))[j]?=some u->a.getD j undef=u:=λj u b=>by
  have hjl:j<i*3:=by rw[←m];exact(lgs.1 b).1
  have e:a[j]?=some u:=by
   rw[k,Array.getElem?_append_left (by simp[m];omega),Array.getElem?_append_left (by simp[m];omega)]
   simpa using b
  rw[Array.getD_eq_getD_getElem?,e];rfl
 have zf:(n+1)*3<=a.size:=by rw[A];omega
 obtain⟨r,l⟩:=bP (w.drew.alloc (.cells a 90));rw[←l]at s
 have hN:∀j,j<(n+1)*3->(r.cell? ⟨w.heap.size,j,none⟩).isSome=true:=λj b=>by
  rw[l,World.cell?_alloc_at (w:=w.drew) a _ w.heap.size j rfl,Array.getElem?_eq_getElem (by omega)];rfl
 have I:∀j,r.frozen? ⟨w.heap.size,j,none⟩=false:=λj=>by rw[l];exact World.frozen?_alloc_at (w:=w.drew) a _ w.heap.size j rfl
 have zd:∀j v,w.cell? ⟨g,j,none⟩=some v->r.cell? ⟨g,j,none⟩=some v:=λj v h=>by rw[l,World.cell?_alloc_past (w:=w.drew) _ g j zh];exact h
 have ze:∀j v,w.cell? ⟨V,j,none⟩=some v->r.cell? ⟨V,j,none⟩=some v:=λj v h=>by rw[l,World.cell?_alloc_past (w:=w.drew) _ V j zl];exact h
 have zk:Nat.min 1 (n+1-i)=1:=by simp only[Nat.min_def];split<;>omega
 have zj:Nat.min (n-i) (n-i)=n-i:=Nat.min_self _
 have K:∀(W:World),(∀x,W.cell? x=r.cell? x)->(∀x,W.frozen? x=r.frozen? x)->∀q z,(Builtin.copy_ #[28,28] q #[.slice (some ⟨w.heap.size,i*3,none⟩) (n+1-i) z,.slice (some ⟨V,0,none⟩) 1 1]).run Tryz.prog W=.ok (goInt (Nat.min 1 (n+1-i))) (W.setCells w.heap.size (i*3) o):=λW p B q z=>
  jX W _ _ q 90 3 w.heap.size (i*3) (n+1-i) z ⟨V,0,none⟩ 1 1 o Tryz.underlying28 P (by rw[Q,zk])
   (λj v b=>by rw[Addr.add_lit,Nat.zero_add,p];exact ze _ v (R j v b))
   (λj b=>by rw[p];exact hN _ (by omega)) (λj b=>by rw[B];exact I _) X
 have hG63:G<=9223372036854775807:=by unfold maxLen at H;omega
 have hGi:¬(G=i):=by omega
 have hGim:¬(G=i+1):=by omega
 have hci:¬(c=i):=by omega
 have zg:g≠w.heap.size:=by omega
 have M:(d.drop (i*3)).length=(n-i)*3:=by rw[List.length_drop,zi];omega
 have L:∀(W:World),(∀x,W.cell? x=(r.setCells w.heap.size (i*3) o).cell? x)->(∀x,W.frozen? x=(r.setCells w.heap.size (i*3) o).frozen? x)->∀q z sc,(Builtin.copy_ #[28,28] q #[.slice (some ⟨w.heap.size,(i+1)*3,none⟩) (n-i) z,.slice (some ⟨g,i*3,none⟩) (n-i) sc]).run Tryz.prog W=.ok (goInt (Nat.min (n-i) (n-i))) (W.setCells w.heap.size ((i+1)*3) (d.drop (i*3))):=λW p B q z sc=>
  jX W _ _ q 90 3 w.heap.size ((i+1)*3) (n-i) z ⟨g,i*3,none⟩ (n-i) sc (d.drop (i*3)) Tryz.underlying28 P (by rw[M,zj])
   (λj v b=>by
    rw[Addr.add_lit,p,World.cell?_setCells_out _ _ _ _ _ (λh _=>absurd h zg)]
    exact zd _ v (C (i*3+j) v (by rwa[List.getElem?_drop]at b)))
   (λj b=>by rw[p];exact isSome_setCells _ o (i*3) r (λt ht=>hN _ (by rw[Q]at ht;omega)) _ (hN _ (by rw[M]at b;omega)))
   (λj b=>by rw[B,World.frozen?_setCells];exact I _) (λv hv=>U v (List.mem_of_mem_drop hv))
 subst l;have Y:∀x,((w.alloc (.cells a 90)).drew).cell? x=(w.drew.alloc (.cells a 90)).cell? x:=λx=>rfl;have Z:∀x,((w.alloc (.cells a 90)).drew).frozen? x=(w.drew.alloc (.cells a 90)).frozen? x:=λx=>rfl;have za:∀x,(((w.alloc (.cells a 90)).drew.setCells w.heap.size (i*3) o).drew).cell? x=((w.drew.alloc (.cells a 90)).setCells w.heap.size (i*3) o).cell? x:=λx=>rfl;have zb:∀x,(((w.alloc (.cells a 90)).drew.setCells w.heap.size (i*3) o).drew).frozen? x=((w.drew.alloc (.cells a 90)).setCells w.heap.size (i*3) o).frozen? x:=λx=>rfl;have hw1:IntKind.i64.wrap ((i:Int)+1)=(i:Int)+1:=by rw[IntKind.wrap_i64];omega
 have hb1:(0:Int)<=(i:Int)+1:=by omega
 have hin:i<=n:=by omega
 have htn:((i:Int)+1).toNat=i+1:=by omega
 have hb3:(i:Int)<=(n:Int):=by omega
 have f:Hid (n+1<=G/\G<=maxLen/\a.size=G*3/\(∀j u,(d.take (i*3))[j]?=some u->a.getD j undef=u)):=⟨zc,H,A,J⟩;clear O D y k T zf A J m
 go_enter Tryz.func143,Tryz.ntmps143
 go_wp2_with (first
  |(at_builtin;refine Lib.wpList_append_run _ rfl _ _ _ _ rfl _ _ rfl rfl _ _ (s _) ?_)
  |(at_builtin;refine wpList_copy_runI _ rfl _ _ 28 28 rfl _ _ rfl rfl (K _ Y Z _ _) ?_))
 go_region_law_o (refine step_copy_runI rfl _ _ 28 28 rfl (.slice (some ⟨w.heap.size,(i+1)*3,none⟩) (n-i) (G-(i+1))) (.slice (some ⟨g,i*3,none⟩) (n-i) (c-i)) (by simp[Act.eval,Act.put]) (by simp[Act.eval,Act.put]) (L _ za zb 3 (G-(i+1)) (c-i)) ?_)
 go_wp2
 go_ret;exact⟨G,a,f.oQ.1,f.oQ.2.1,f.oQ.2.2.1,f.oQ.2.2.2,rfl,rfl⟩
theorem AR (z n c V:Nat)(ha:Option Addr)(F t:List Value)(w:World)(hn64:n<=64)(hc63:c<=9223372036854775807)(l:t.length=3)(s:z<=w.heap.size)(H:∀a,ha=some a->a.off=0/\a.spot=none)
 (f:w.ownsRow z 90 3 (.slice ha n c) n F)(m:∀j v,t[j]?=some v->w.cell? ⟨V,j,none⟩=some v)(i:∀v∈t,v.oneCell'=true):
 aY 143 #[.slice ha n c,.int .i64 n,.slice (some ⟨V,0,none⟩) 1 1] w λe w'=>
  ∃A,e=.returned A/\w'.ownsRow z 90 3 A (n+1) (F++t)/\w.grownBy w' (Value.slice ha n c).ownBlock:=by
 obtain⟨E,k,p,r,q⟩:=info_parts Tryz.info90
 cases ha with
 |none=>
  obtain⟨rfl,rfl⟩:n=0/\c=0:=by
   obtain⟨_,⟨e,h⟩|⟨g,B,C,e,_⟩⟩:=f
   ·cases e;exact⟨rfl,rfl⟩
   ·cases e
  go_enter Tryz.func143,Tryz.ntmps143
  go_wp2_with (at_builtin;refine wpList_append_own _ rfl (.tmp 23) (.tmp 24) 28 rfl z 90 E _ 3 64 Tryz.underlying28 k p r q rfl (by decide) _ _ _ rfl f ⟨V,0,none⟩ 1 1 t rfl l ?qc1 i ?qc3 ?qc4 s ?_)
  case qc1=>exact λj v y=>by rw[Addr.add_lit,Nat.zero_add];exact m j v y
  case qc3=>unfold maxLen;omega
  case qc4=>omega
  intro A G d b _;have x:Hid _:=d;have u:Hid _:=b;clear d b f;go_wp2
  go_ret;exact⟨_,rfl,x.oQ,u.oQ⟩
 |some a=>
  obtain⟨g,o,sp⟩:=a;obtain⟨rfl,rfl⟩:=H _ rfl
  by_cases D:c=n
  ·subst D
   go_enter Tryz.func143,Tryz.ntmps143
   go_wp2_with (at_builtin;refine wpList_append_own _ rfl (.tmp 23) (.tmp 24) 28 rfl z 90 E _ 3 64 Tryz.underlying28 k p r q rfl (by decide) _ _ _ rfl f ⟨V,0,none⟩ 1 1 t rfl l ?qc1 i ?qc3 ?qc4 s ?_)
   case qc1=>exact λj v y=>by rw[Addr.add_lit,Nat.zero_add];exact m j v y
   case qc3=>unfold maxLen;omega
   case qc4=>omega
   intro A G d b _;have x:Hid _:=d;have u:Hid _:=b;clear d b f;go_wp2
   go_ret;exact⟨_,rfl,x.oQ,u.oQ⟩
  ·have hle:n<=c:=by
    obtain⟨_,⟨e,h⟩|⟨g,B,C,e,_,_,h,_⟩⟩:=f
    ·cases e
    ·cases e;exact h
   have hb3:(n:Int)<=(c:Int):=by omega
   go_enter Tryz.func143,Tryz.ntmps143
   go_wp2_with (at_builtin;refine wpList_append_own _ rfl (.tmp 23) (.tmp 24) 28 rfl z 90 E _ 3 64 Tryz.underlying28 k p r q rfl (by decide) _ _ _ rfl f ⟨V,0,none⟩ 1 1 t rfl l ?qc1 i ?qc3 ?qc4 s ?_)
   case qc1=>exact λj v y=>by rw[Addr.add_lit,Nat.zero_add];exact m j v y
   case qc3=>unfold maxLen;omega
   case qc4=>omega
   intro A G d b _;have x:Hid _:=d;have u:Hid _:=b;clear d b f;go_wp2
   go_ret;exact⟨_,rfl,x.oQ,u.oQ⟩
theorem eE (g:Nat):∀(d:List Value) (o:Nat) (w:World),w.grownBy (w.setCells g o d) (some g)
 |[],_,w=>⟨rfl,rfl,rfl,nlq _,λ_ _ _=>rfl⟩
 |v::r,o,w=>by
  have h:=eE g r (o+1) (w.setCell ⟨g,o,none⟩ v);have c:(w.setCell ⟨g,o,none⟩ v).heap.size=w.heap.size:=by simp
  refine⟨h.os,h.tape,h.output,by have:=h.size;rw[c]at this;exact this,λk b a=>?_⟩;refine(h.block k (by rw[c];exact b) a).trans ?_;exact((aT.refl (λq=>q=g) w).set (g:=g) rfl o v).block k b (λe=>a (by rw[e]))
theorem TV (l:List Hx)(x:Hx)(i:Nat)(hi:i<=l.length):aI Hx.cells (l.take i++x::l.drop i)=(aI Hx.cells l).take (i*3)++(x.cells++(aI Hx.cells l).drop (i*3)):=by
 have h:=List.take_append_drop i l;have a:(aI Hx.cells (l.take i)).length=i*3:=by rw[cG Hx.cells_length,List.length_take];congr 1;omega
 have e:aI Hx.cells l=aI Hx.cells (l.take i)++aI Hx.cells (l.drop i):=by rw[←gB,h]
 have b:(aI Hx.cells l).take (i*3)=aI Hx.cells (l.take i):=by rw[e,←a];exact List.take_left
 have c:(aI Hx.cells l).drop (i*3)=aI Hx.cells (l.drop i):=by rw[e,←a];exact List.drop_left
 rw[b,c,gB];simp[aI]
theorem KY (z:Nat)(l:List Hx)(ha:Option Addr)(t i V:Nat)(x:Hx)(w:World)(hO:bQ 90 3 Hx.cells w z (.slice ha l.length t) l)(A:t<=maxLen)(X:i<=l.length)(hn:l.length<=64)
 (R:w.heap[V]?=some (.cells #[.string x.n,.slice x.ta x.tl.length x.tc,.slice x.na x.nl.length x.nc] 90))(Z:ha.map Addr.block≠some V)(P:z<=w.heap.size):
 aY 143 #[.slice ha l.length t,.int .i64 i,.slice (some ⟨V,0,none⟩) 1 1] w λe w'=>
  ∃J D,e=.returned (.slice J (l.length+1) D)/\bQ 90 3 Hx.cells w' z (.slice J (l.length+1) D) (l.take i++x::l.drop i)/\D<=maxLen/\aT (λk=>ha.map Addr.block=some k) w w':=by
 have r:(l.take i++x::l.drop i).length=l.length+1:=by simp;omega
 have F:∀j v,x.cells[j]?=some v->w.cell? ⟨V,j,none⟩=some v:=λj v d=>by
  match j,d with
  |0,d=>simp[Hx.cells]at d;subst d;exact aJ R rfl
  |1,d=>simp[Hx.cells]at d;subst d;exact aJ R rfl
  |2,d=>simp[Hx.cells]at d;subst d;exact aJ R rfl
 have q:∀(I:Value) (w':World),w'.ownsRow z 90 3 I (l.length+1) (aI Hx.cells (l.take i++x::l.drop i))->(w.grownBy w' (ha.map Addr.block))->∃J D,Ending.returned I=.returned (.slice J (l.length+1) D)/\bQ 90 3 Hx.cells w' z (.slice J (l.length+1) D) (l.take i++x::l.drop i)/\D<=maxLen/\aT (λk=>ha.map Addr.block=some k) w w':=λI w' C E=>by
  have hX:bQ 90 3 Hx.cells w' z I (l.take i++x::l.drop i):=iY Hx.cells_length (by rw[r];exact C);obtain⟨J,D,e⟩:=hX.slice;rw[r]at e;subst e;exact⟨J,D,rfl,hX,lI C _ _ _ rfl,⟨E.os,E.tape,E.output,E.size,λk H hs=>E.block k H (λe=>hs e.symm)⟩⟩
 have hnil:∀{w:World} {n c:Nat} {cs:List Value},w.ownsRow z 90 3 (.slice ha n c) n cs->(Value.slice ha n c).ownBlock=ha.map Addr.block:=λ_=>by cases ha<;>rfl
 have m:=TV l x i X;rcases hO with⟨e,rfl⟩|⟨g,cap,e,h1,Y,f,O,hf⟩
 ·cases e;obtain rfl:i=0:=by simpa using X
  refine(AR z 0 0 V none [] x.cells w (by omega) (by omega) rfl P (λa e=>by cases e) (World.ownsRow_nil _ _ _ _) F (lH x)).mono ?_;rintro e w' ⟨I,rfl,C,E⟩;exact q I w' (by rw[m];simpa[aI]using C) E
 ·cases e
  have K:∀j u,(aI Hx.cells l)[j]?=some u->w.cell? ⟨g,j,none⟩=some u:=λj u d=>by
   have hx:=fP.xs (⟨f,O,hf⟩:fP 90 3 Hx.cells w g t l l.length) Hx.cells_length (nlq _) Y;rcases hx with e|⟨bl,off,e,za⟩;·rw[e]at d;simp[aI]at d
   ·cases e;have:=mG Hx.cells_length (by decide) za j u d;rwa[Addr.add_lit,Nat.zero_add]at this
  have o:=cG Hx.cells_length l
  have M:∀j u,(aI Hx.cells l)[j]?=some u->f j=u:=λj u d=>by
   have h3:=K j u d;have hjl:j<l.length*3:=by rw[←o];exact(lgs.1 d).1
   rw[O.cell (i:=j) (by omega)]at h3;exact Option.some.inj h3
  have zd:V≠g:=λe=>Z (by rw[e];rfl);have Q:=iB lH l;have T:t<=9223372036854775807:=by unfold maxLen at A;omega
  by_cases zb:i=l.length
  ·subst zb;refine(AR z l.length t V (some ⟨g,0,none⟩) (aI Hx.cells l) x.cells w hn T rfl P (λa e=>by cases e;exact⟨rfl,rfl⟩) (lK O h1 Y A o M) F (lH x)).mono ?_;rintro e w' ⟨I,rfl,C,E⟩;refine q I w' ?_ E;rw[m,ltl (by omega),List.drop_eq_nil_of_le (by omega),List.append_nil];exact C
  ·have S:i<l.length:=by omega
   by_cases B:l.length+1<=t
   ·have zc:w.shape? g=some (90,t*3):=by
     obtain⟨cur,e1,e2,_⟩:=O;simp[World.shape?,e1,e2]
    refine(FL g l.length t i V (aI Hx.cells l) x.cells w S B T zd o rfl K (λj d=>by rw[O.cell (i:=j) (by omega)];rfl) (λj=>O.frozen j) F Q (lH x) 90 90 3 (t*3) (by simp[World.shape?,R]) zc (by omega) (λj=>by simp[World.frozen?,R])).mono ?_;rintro e w' ⟨rfl,rfl⟩;have r0:w.drew.rowIs g 90 (t*3) f:=O;have r1:=eB ((aI Hx.cells l).drop (i*3)) ((i+1)*3) _ _ r0;have r2:=eB x.cells (i*3) _ _ r1;have L:((aI Hx.cells l).drop (i*3)).length=(l.length-i)*3:=by rw[List.length_drop,o];omega
    have C:=lK (z:=z) (n:=l.length+1) (xs:=aI Hx.cells (l.take i++x::l.drop i)) r2 h1 B A (by rw[cG Hx.cells_length,r]) (by
     rw[m];exact yH X o rfl M (λj d=>by rw[L];rfl))
    refine q _ _ C ?_;have s:=eE g ((aI Hx.cells l).drop (i*3)) ((i+1)*3) w.drew;have y:=eE g x.cells (i*3) (w.drew.setCells g ((i+1)*3) ((aI Hx.cells l).drop (i*3)));exact⟨y.os.trans s.os,y.tape.trans s.tape,y.output.trans s.output,Nat.le_trans s.size y.size,λk H N=>(y.block k (Nat.lt_of_lt_of_le H s.size) N).trans (s.block k H N)⟩
   ·refine(IU g l.length t i V (aI Hx.cells l) x.cells w S Y (by omega) hn o rfl K F Q (lH x)).mono ?_;rintro e w' ⟨G,b,q1,q2,q3,q4,rfl,rfl⟩;have r0:(w.alloc (.cells b 90)).drew.rowIs w.heap.size 90 (G*3) (λj=>b.getD j undef):=⟨b,wnq w _,q3,λj d=>by simp[q3,d]⟩;have r1:=eB x.cells (i*3) _ _ r0;have ze:((w.alloc (.cells b 90)).drew.setCells w.heap.size (i*3) x.cells).drew.rowIs w.heap.size 90 (G*3) _:=r1;have r2:=eB ((aI Hx.cells l).drop (i*3)) ((i+1)*3) _ _ ze;have L:((aI Hx.cells l).drop (i*3)).length=(l.length-i)*3:=by rw[List.length_drop,o];omega
    have C:=lK (z:=z) (n:=l.length+1) (xs:=aI Hx.cells (l.take i++x::l.drop i)) r2 P q1 q2 (by rw[cG Hx.cells_length,r]) (by
     rw[m];intro j u d;refine yH (f:=λj=>if j<i*3 then b.getD j undef else f j) (h:=λj=>if(i+1)*3<=j/\j<(i+1)*3+((aI Hx.cells l).drop (i*3)).length then((aI Hx.cells l).drop (i*3)).getD (j-(i+1)*3) undef else if i*3<=j/\j<i*3+x.cells.length then x.cells.getD (j-i*3) undef else b.getD j undef) X o rfl (λj u d=>?_) (λj d=>?_) j u d
     ·by_cases e:j<i*3
      ·show(if j<i*3 then b.getD j undef else f j)=u;rw[if_pos e];exact q4 j u (by rw[List.getElem?_take_of_lt e];exact d)
      ·show(if j<i*3 then b.getD j undef else f j)=u;rw[if_neg e];exact M j u d
     ·simp only[L];show(if(i+1)*3<=j/\j<(i+1)*3+(l.length-i)*3 then _ else if i*3<=j/\j<i*3+3 then x.cells.getD (j-i*3) undef else b.getD j undef)=_;by_cases U:i*3<=j/\j<i*3+3;·rw[if_neg (by omega),if_pos U,if_pos U]
      ·rw[if_neg U,if_neg U];by_cases W:(i+1)*3<=j/\j<(i+1)*3+(l.length-i)*3;·rw[if_pos W,if_pos W]
       ·rw[if_neg W,if_neg W,if_pos (by omega)])
    refine q _ _ C ?_;have s:=eE w.heap.size x.cells (i*3) (w.alloc (.cells b 90)).drew;have y:=eE w.heap.size ((aI Hx.cells l).drop (i*3)) ((i+1)*3) (((w.alloc (.cells b 90)).drew.setCells w.heap.size (i*3) x.cells).drew);have p:aF w (w.alloc (.cells b 90)):=aB (br _ _) _;have hs0:w.heap.size<(w.alloc (.cells b 90)).heap.size:=by simp
    exact⟨y.os.trans (s.os.trans p.os),y.tape.trans (s.tape.trans p.tape),y.output.trans (s.output.trans p.output),Nat.le_trans p.size (Nat.le_trans s.size y.size),λk H N=>(y.block k (Nat.lt_of_lt_of_le H (Nat.le_trans p.size s.size)) (λe=>by cases e;omega)).trans ((s.block k (Nat.lt_of_lt_of_le H p.size) (λe=>by cases e;omega)).trans (p.block k H))⟩
theorem BX (g n c i V:Nat)(d q:List Value)(w:World)(hi:i<n)(hroom:n+1<=c)(hc63:c<=9223372036854775807)(B:V≠g)
 (I:d.length=n*3)(Q:q.length=3)
 (J:∀j v,d[j]?=some v->w.cell? ⟨g,j,none⟩=some v)(o:∀j,j<(n+1)*3->(w.cell? ⟨g,j,none⟩).isSome=true)(u:∀j,w.frozen? ⟨g,j,none⟩=false)
 (R:∀j v,q[j]?=some v->w.cell? ⟨V,j,none⟩=some v)(F:∀v∈d,v.oneCell'=true)(G:∀v∈q,v.oneCell'=true)
 (X Y:TypeId)(S T:Nat)(O:w.shape? V=some (X,S))(P:w.shape? g=some (Y,T))(K:T≠0)(t:∀j,w.frozen? ⟨V,j,none⟩=false):
 aY 56 #[.slice (some ⟨g,0,none⟩) n c,.int .i64 i,.slice (some ⟨V,0,none⟩) 1 1] w λe w'=>
  e=.returned (.slice (some ⟨g,0,none⟩) (n+1) c)/\w'=(w.drew.setCells g ((i+1)*3) (d.drop (i*3))).setCells g (i*3) q:=by
 obtain⟨i0,y,hz0,C,hzb⟩:=info_parts Tryz.info74;have mixed:Tryz.prog.follows .mixedOrders=true:=by kernel_rfl
 have hz2:¬((i:Int)=(n:Int)):=by omega
 have A:(Tryz.prog.info? 74).map (·.size)=some 3:=by rw[y];simp[C]
 have N:∀lb E,(callFunc 90 #[.slice (some ⟨V,0,none⟩) 1 1,.slice (some ⟨g,(i+1)*3,none⟩) lb E]).run Tryz.prog w=.ok (.value (.bool false)) w:=λlb E=>by
  rw[run_callFunc_extern Tryz.func90 (by kernel_rfl) (by kernel_rfl) (by kernel_rfl) (e:=Extern.SlicesOverlaps.overlaps #[27,27] #[4]) (by kernel_rfl),
   Lib.run_overlaps_apart w 27 4 74 Tryz.underlying27 3 (λw=>by simp[Go.sizeOf,typeInfo,y,C]) ⟨V,0,none⟩ ⟨g,(i+1)*3,none⟩ 1 1 lb E B X Y S T O P K (t 0) (t S)]
  rfl
 have hw1:IntKind.i64.wrap ((i:Int)+1)=(i:Int)+1:=by rw[IntKind.wrap_i64];omega
 have hw2:IntKind.i64.wrap ((n:Int)+1)=(n:Int)+1:=by rw[IntKind.wrap_i64];omega
 have hb1:(0:Int)<=(i:Int)+1:=by omega
 have hin:i<=n:=by omega
 have htn:((i:Int)+1).toNat=i+1:=by omega
 have hb2:¬(c=i+1):=by omega
 have hb3:(i:Int)<=(n:Int)+1:=by omega
 have hb4:¬(c=i):=by omega
 have m:(d.drop (i*3)).length=(n-i)*3:=by rw[List.length_drop,I];omega
 have L:Nat.min (n+1-i) (n-i)=n-i:=by simp only[Nat.min_def];split<;>omega
 have M:Nat.min 1 (n+1-i)=1:=by simp only[Nat.min_def];split<;>omega
 have f:∀p l U,(Builtin.copy_ #[27,27] p #[.slice (some ⟨g,(i+1)*3,none⟩) (n-i) l,.slice (some ⟨g,i*3,none⟩) (n+1-i) U]).run Tryz.prog w.drew=.ok (goInt (Nat.min (n+1-i) (n-i))) (w.drew.setCells g ((i+1)*3) (d.drop (i*3))):=λp l U=>
  jX w.drew _ _ p 74 3 g ((i+1)*3) (n-i) l ⟨g,i*3,none⟩ (n+1-i) U (d.drop (i*3)) Tryz.underlying27 A (by rw[m,L])
   (λj v b=>by rw[Addr.add_lit];exact J (i*3+j) v (by rwa[List.getElem?_drop]at b))
   (λj b=>o _ (by rw[m]at b;omega)) (λj b=>u _) (λv hv=>F v (List.mem_of_mem_drop hv))
 obtain⟨D,a⟩:=bP (w.drew.setCells g ((i+1)*3) (d.drop (i*3)))
 have z:∀k,k<(n+1)*3->(D.cell? ⟨g,k,none⟩).isSome=true:=λk Z=>by
  rw[a];exact isSome_setCells g (d.drop (i*3)) ((i+1)*3) w.drew (λj b=>o _ (by rw[m]at b;omega)) _ (o k Z)
 have s:∀(W:World),(∀x,W.cell? x=D.cell? x)->(∀x,W.frozen? x=D.frozen? x)->∀p l,(Builtin.copy_ #[27,27] p #[.slice (some ⟨g,i*3,none⟩) (n+1-i) l,.slice (some ⟨V,0,none⟩) 1 1]).run Tryz.prog W=.ok (goInt (Nat.min 1 (n+1-i))) (W.setCells g (i*3) q):=λW r H p l=>
  jX W _ _ p 74 3 g (i*3) (n+1-i) l ⟨V,0,none⟩ 1 1 q Tryz.underlying27 A (by rw[Q,M])
   (λj v b=>by
    rw[Addr.add_lit,r,a,World.cell?_setCells_out g _ _ _ _ (λh _=>absurd h B),Nat.zero_add]
    exact R j v b)
   (λj b=>by rw[r];exact z _ (by omega)) (λj b=>by rw[H,a,World.frozen?_setCells];exact u _) G
 rw[←a]at f
 go_enter Tryz.func56,Tryz.ntmps56
 go_wp2_with (simp only[N])
 go_region_law_o (refine step_copy_runI rfl _ _ 27 27 rfl _ _ (by simp[Act.eval,Act.put]) (by simp[Act.eval,Act.put]) (f _ _ _) ?_)
 go_wp2_with (at_builtin;refine wpList_copy_runI _ rfl _ _ 27 27 rfl _ _ rfl rfl (s _ (λ_=>rfl) (λ_=>rfl) _ _) ?_)
 go_ret
 first|exact⟨rfl,rfl⟩|exact⟨rfl,by rw[a]⟩
theorem FS (g n c i V:Nat)(d o:List Value)(w:World)(hi:i<n)(hnc:n<=c)(E:c<n+1)(hn64:n<=64)
 (zi:d.length=n*3)(Q:o.length=3)
 (C:∀j v,d[j]?=some v->w.cell? ⟨g,j,none⟩=some v)
 (R:∀j v,o[j]?=some v->w.cell? ⟨V,j,none⟩=some v)(U:∀v∈d,v.oneCell'=true)(X:∀v∈o,v.oneCell'=true):
 aY 56 #[.slice (some ⟨g,0,none⟩) n c,.int .i64 i,.slice (some ⟨V,0,none⟩) 1 1] w λe w'=>
  ∃G a,n+1<=G/\G<=maxLen/\a.size=G*3/\(∀j u,(d.take (i*3))[j]?=some u->a.getD j undef=u)/\e=.returned (.slice (some ⟨w.heap.size,0,none⟩) (n+1) G)/\
  w'=(((w.alloc (.cells a 74)).drew.setCells w.heap.size (i*3) o).drew).setCells w.heap.size ((i+1)*3) (d.drop (i*3)):=by
 obtain⟨i0,N,zm,F,S⟩:=info_parts Tryz.info74;have mixed:Tryz.prog.follows .mixedOrders=true:=by kernel_rfl
 have hz2:¬((i:Int)=(n:Int)):=by omega
 have hz3:(c:Int)<(n:Int)+1:=by omega
 have P:(Tryz.prog.info? 74).map (·.size)=some 3:=by rw[N];simp[F]
 have zh:g<w.heap.size:=block_lt_of_cell (C 0 _ (lge (by omega)));have zl:V<w.heap.size:=block_lt_of_cell (R 0 _ (lge (by omega)));have O:(n:Int)+1-(i:Int)=((n+1-i:Nat):Int):=by omega
 have D:i+(n+1-i)=n+1:=by omega
 have m:(d.take (i*3)).length=i*3:=by rw[List.length_take];omega
 have y:(Builtin.firstCells i0.size i (.slice (some ⟨g,0,none⟩) i c)).run Tryz.prog w.drew=.ok (d.take (i*3)).toArray w.drew:=by
  rw[F]
  exact run_firstCells_some w.drew 3 i ⟨g,0,none⟩ i c (d.take (i*3)) m (λj v b=>by
   rw[Addr.add_lit,Nat.zero_add];rw[List.getElem?_take]at b
   split at b
   · exact C j v b
   · cases b)
 have s:∀q,(Builtin.append_ #[27,3] q #[.slice (some ⟨g,0,none⟩) i c,.int .i64 ((n:Int)+1-(i:Int))]).run Tryz.prog w=
  .ok (.slice (some ⟨w.heap.size,0,none⟩) (n+1) (grownCap w (n+1) c 74)) (w.drew.alloc (.cells ((d.take (i*3)).toArray++Builtin.zeroCells (Value.agg #[.string ByteArray.empty,.int .i64 0,.int .i64 0]).cells (n+1-i)++Builtin.zeroCells (Value.agg #[.string ByteArray.empty,.int .i64 0,.int .i64 0]).cells (grownCap w (n+1) c 74-(n+1))) 74)):=λq=>by
  have h:=Lib.run_append_grow_zeros w 27 3 q 74 i0 _ .i64 .i64 Tryz.underlying27 Tryz.underlying3 N zm (some ⟨g,0,none⟩) i c (d.take (i*3)) y (n+1-i) (by omega) (by rw[F];omega) (by omega) (by omega) (by rw[S];omega) (by rw[S,D];exact growslice_fits E (by omega));rw[D]at h;rw[O];exact h
 obtain⟨G,T⟩:=bP (grownCap w (n+1) c 74);obtain⟨a,k⟩:=bP ((d.take (i*3)).toArray++Builtin.zeroCells (Value.agg #[.string ByteArray.empty,.int .i64 0,.int .i64 0]).cells (n+1-i)++Builtin.zeroCells (Value.agg #[.string ByteArray.empty,.int .i64 0,.int .i64 0]).cells (G-(n+1)):Array Value);rw[←T]at s;rw[←k]at s;have zc:n+1<=G:=by rw[T];exact grownCap_ge w _ _ _
 have H:G<=maxLen:=by rw[T];exact grownCap_le_maxLen w (n+1) c _ (by unfold maxLen;omega)
 have A:a.size=G*3:=by
  rw[k]
  simp[Builtin.zeroCells,Value.cells,m]
  omega
 have J:∀j u,(d.take (i*3))[j]?=some u->a.getD j undef=u:=λj u b=>by
  have hjl:j<i*3:=by rw[←m];exact(lgs.1 b).1
  have e:a[j]?=some u:=by
   rw[k,Array.getElem?_append_left (by simp[m];omega),Array.getElem?_append_left (by simp[m];omega)]
   simpa using b
  rw[Array.getD_eq_getD_getElem?,e];rfl
 have zf:(n+1)*3<=a.size:=by rw[A];omega
 obtain⟨r,l⟩:=bP (w.drew.alloc (.cells a 74));rw[←l]at s
 have hN:∀j,j<(n+1)*3->(r.cell? ⟨w.heap.size,j,none⟩).isSome=true:=λj b=>by
  rw[l,World.cell?_alloc_at (w:=w.drew) a _ w.heap.size j rfl,Array.getElem?_eq_getElem (by omega)];rfl
 have I:∀j,r.frozen? ⟨w.heap.size,j,none⟩=false:=λj=>by rw[l];exact World.frozen?_alloc_at (w:=w.drew) a _ w.heap.size j rfl
 have zd:∀j v,w.cell? ⟨g,j,none⟩=some v->r.cell? ⟨g,j,none⟩=some v:=λj v h=>by rw[l,World.cell?_alloc_past (w:=w.drew) _ g j zh];exact h
 have ze:∀j v,w.cell? ⟨V,j,none⟩=some v->r.cell? ⟨V,j,none⟩=some v:=λj v h=>by rw[l,World.cell?_alloc_past (w:=w.drew) _ V j zl];exact h
 have zk:Nat.min 1 (n+1-i)=1:=by simp only[Nat.min_def];split<;>omega
 have zj:Nat.min (n-i) (n-i)=n-i:=Nat.min_self _
 have K:∀(W:World),(∀x,W.cell? x=r.cell? x)->(∀x,W.frozen? x=r.frozen? x)->∀q z,(Builtin.copy_ #[27,27] q #[.slice (some ⟨w.heap.size,i*3,none⟩) (n+1-i) z,.slice (some ⟨V,0,none⟩) 1 1]).run Tryz.prog W=.ok (goInt (Nat.min 1 (n+1-i))) (W.setCells w.heap.size (i*3) o):=λW p B q z=>
  jX W _ _ q 74 3 w.heap.size (i*3) (n+1-i) z ⟨V,0,none⟩ 1 1 o Tryz.underlying27 P (by rw[Q,zk])
   (λj v b=>by rw[Addr.add_lit,Nat.zero_add,p];exact ze _ v (R j v b))
   (λj b=>by rw[p];exact hN _ (by omega)) (λj b=>by rw[B];exact I _) X
 have hG63:G<=9223372036854775807:=by unfold maxLen at H;omega
 have hGi:¬(G=i):=by omega
 have hGim:¬(G=i+1):=by omega
 have hci:¬(c=i):=by omega
 have zg:g≠w.heap.size:=by omega
 have M:(d.drop (i*3)).length=(n-i)*3:=by rw[List.length_drop,zi];omega
 have L:∀(W:World),(∀x,W.cell? x=(r.setCells w.heap.size (i*3) o).cell? x)->(∀x,W.frozen? x=(r.setCells w.heap.size (i*3) o).frozen? x)->∀q z sc,(Builtin.copy_ #[27,27] q #[.slice (some ⟨w.heap.size,(i+1)*3,none⟩) (n-i) z,.slice (some ⟨g,i*3,none⟩) (n-i) sc]).run Tryz.prog W=.ok (goInt (Nat.min (n-i) (n-i))) (W.setCells w.heap.size ((i+1)*3) (d.drop (i*3))):=λW p B q z sc=>
  jX W _ _ q 74 3 w.heap.size ((i+1)*3) (n-i) z ⟨g,i*3,none⟩ (n-i) sc (d.drop (i*3)) Tryz.underlying27 P (by rw[M,zj])
   (λj v b=>by
    rw[Addr.add_lit,p,World.cell?_setCells_out _ _ _ _ _ (λh _=>absurd h zg)]
    exact zd _ v (C (i*3+j) v (by rwa[List.getElem?_drop]at b)))
   (λj b=>by rw[p];exact isSome_setCells _ o (i*3) r (λt ht=>hN _ (by rw[Q]at ht;omega)) _ (hN _ (by rw[M]at b;omega)))
   (λj b=>by rw[B,World.frozen?_setCells];exact I _) (λv hv=>U v (List.mem_of_mem_drop hv))
 subst l;have Y:∀x,((w.alloc (.cells a 74)).drew).cell? x=(w.drew.alloc (.cells a 74)).cell? x:=λx=>rfl;have Z:∀x,((w.alloc (.cells a 74)).drew).frozen? x=(w.drew.alloc (.cells a 74)).frozen? x:=λx=>rfl;have za:∀x,(((w.alloc (.cells a 74)).drew.setCells w.heap.size (i*3) o).drew).cell? x=((w.drew.alloc (.cells a 74)).setCells w.heap.size (i*3) o).cell? x:=λx=>rfl;have zb:∀x,(((w.alloc (.cells a 74)).drew.setCells w.heap.size (i*3) o).drew).frozen? x=((w.drew.alloc (.cells a 74)).setCells w.heap.size (i*3) o).frozen? x:=λx=>rfl;have hw1:IntKind.i64.wrap ((i:Int)+1)=(i:Int)+1:=by rw[IntKind.wrap_i64];omega
 have hb1:(0:Int)<=(i:Int)+1:=by omega
 have hin:i<=n:=by omega
 have htn:((i:Int)+1).toNat=i+1:=by omega
 have hb3:(i:Int)<=(n:Int):=by omega
 have f:Hid (n+1<=G/\G<=maxLen/\a.size=G*3/\(∀j u,(d.take (i*3))[j]?=some u->a.getD j undef=u)):=⟨zc,H,A,J⟩;clear O D y k T zf A J m
 go_enter Tryz.func56,Tryz.ntmps56
 go_wp2_with (first
  |(at_builtin;refine Lib.wpList_append_run _ rfl _ _ _ _ rfl _ _ rfl rfl _ _ (s _) ?_)
  |(at_builtin;refine wpList_copy_runI _ rfl _ _ 27 27 rfl _ _ rfl rfl (K _ Y Z _ _) ?_))
 go_region_law_o (refine step_copy_runI rfl _ _ 27 27 rfl (.slice (some ⟨w.heap.size,(i+1)*3,none⟩) (n-i) (G-(i+1))) (.slice (some ⟨g,i*3,none⟩) (n-i) (c-i)) (by simp[Act.eval,Act.put]) (by simp[Act.eval,Act.put]) (L _ za zb 3 (G-(i+1)) (c-i)) ?_)
 go_wp2
 go_ret;exact⟨G,a,f.oQ.1,f.oQ.2.1,f.oQ.2.2.1,f.oQ.2.2.2,rfl,rfl⟩
theorem xA (z n c V:Nat)(ha:Option Addr)(F t:List Value)(w:World)(hn64:n<=64)(hc63:c<=9223372036854775807)(l:t.length=3)(s:z<=w.heap.size)(H:∀a,ha=some a->a.off=0/\a.spot=none)
 (f:w.ownsRow z 74 3 (.slice ha n c) n F)(m:∀j v,t[j]?=some v->w.cell? ⟨V,j,none⟩=some v)(i:∀v∈t,v.oneCell'=true):
 aY 56 #[.slice ha n c,.int .i64 n,.slice (some ⟨V,0,none⟩) 1 1] w λe w'=>
  ∃A,e=.returned A/\w'.ownsRow z 74 3 A (n+1) (F++t)/\w.grownBy w' (Value.slice ha n c).ownBlock:=by
 obtain⟨E,k,p,r,q⟩:=info_parts Tryz.info74
 cases ha with
 |none=>
  obtain⟨rfl,rfl⟩:n=0/\c=0:=by
   obtain⟨_,⟨e,h⟩|⟨g,B,C,e,_⟩⟩:=f
   ·cases e;exact⟨rfl,rfl⟩
   ·cases e
  go_enter Tryz.func56,Tryz.ntmps56
  go_wp2_with (at_builtin;refine wpList_append_own _ rfl (.tmp 23) (.tmp 24) 27 rfl z 74 E _ 3 32 Tryz.underlying27 k p r q rfl (by decide) _ _ _ rfl f ⟨V,0,none⟩ 1 1 t rfl l ?qc1 i ?qc3 ?qc4 s ?_)
  case qc1=>exact λj v y=>by rw[Addr.add_lit,Nat.zero_add];exact m j v y
  case qc3=>unfold maxLen;omega
  case qc4=>omega
  intro A G d b _;have x:Hid _:=d;have u:Hid _:=b;clear d b f;go_wp2
  go_ret;exact⟨_,rfl,x.oQ,u.oQ⟩
 |some a=>
  obtain⟨g,o,sp⟩:=a;obtain⟨rfl,rfl⟩:=H _ rfl
  by_cases D:c=n
  ·subst D
   go_enter Tryz.func56,Tryz.ntmps56
   go_wp2_with (at_builtin;refine wpList_append_own _ rfl (.tmp 23) (.tmp 24) 27 rfl z 74 E _ 3 32 Tryz.underlying27 k p r q rfl (by decide) _ _ _ rfl f ⟨V,0,none⟩ 1 1 t rfl l ?qc1 i ?qc3 ?qc4 s ?_)
   case qc1=>exact λj v y=>by rw[Addr.add_lit,Nat.zero_add];exact m j v y
   case qc3=>unfold maxLen;omega
   case qc4=>omega
   intro A G d b _;have x:Hid _:=d;have u:Hid _:=b;clear d b f;go_wp2
   go_ret;exact⟨_,rfl,x.oQ,u.oQ⟩
  ·have hle:n<=c:=by
    obtain⟨_,⟨e,h⟩|⟨g,B,C,e,_,_,h,_⟩⟩:=f
    ·cases e
    ·cases e;exact h
   have hb3:(n:Int)<=(c:Int):=by omega
   go_enter Tryz.func56,Tryz.ntmps56
   go_wp2_with (at_builtin;refine wpList_append_own _ rfl (.tmp 23) (.tmp 24) 27 rfl z 74 E _ 3 32 Tryz.underlying27 k p r q rfl (by decide) _ _ _ rfl f ⟨V,0,none⟩ 1 1 t rfl l ?qc1 i ?qc3 ?qc4 s ?_)
   case qc1=>exact λj v y=>by rw[Addr.add_lit,Nat.zero_add];exact m j v y
   case qc3=>unfold maxLen;omega
   case qc4=>omega
   intro A G d b _;have x:Hid _:=d;have u:Hid _:=b;clear d b f;go_wp2
   go_ret;exact⟨_,rfl,x.oQ,u.oQ⟩
theorem RB (l:List Fx)(x:Fx)(i:Nat)(hi:i<=l.length):aI Fx.cells (l.take i++x::l.drop i)=(aI Fx.cells l).take (i*3)++(x.cells++(aI Fx.cells l).drop (i*3)):=by
 have h:=List.take_append_drop i l;have a:(aI Fx.cells (l.take i)).length=i*3:=by rw[cG Fx.cells_length,List.length_take];congr 1;omega
 have e:aI Fx.cells l=aI Fx.cells (l.take i)++aI Fx.cells (l.drop i):=by rw[←gB,h]
 have b:(aI Fx.cells l).take (i*3)=aI Fx.cells (l.take i):=by rw[e,←a];exact List.take_left
 have c:(aI Fx.cells l).drop (i*3)=aI Fx.cells (l.drop i):=by rw[e,←a];exact List.drop_left
 rw[b,c,gB];simp[aI]
theorem I3 (z:Nat)(l:List Fx)(ha:Option Addr)(t i V:Nat)(x:Fx)(w:World)(hO:bQ 74 3 Fx.cells w z (.slice ha l.length t) l)(B:t<=maxLen)(Y:i<=l.length)(hn:l.length<=64)
 (M:w.heap[V]?=some (.cells #[.string x.n,.int .i64 x.x,.int .i64 x.y] 74))(R:z<=w.heap.size):
 aY 56 #[.slice ha l.length t,.int .i64 i,.slice (some ⟨V,0,none⟩) 1 1] w λe w'=>
  ∃L E,e=.returned (.slice L (l.length+1) E)/\bQ 74 3 Fx.cells w' z (.slice L (l.length+1) E) (l.take i++x::l.drop i)/\E<=maxLen/\aT (λk=>ha.map Addr.block=some k) w w':=by
 have r:(l.take i++x::l.drop i).length=l.length+1:=by simp;omega
 have H:∀j v,x.cells[j]?=some v->w.cell? ⟨V,j,none⟩=some v:=λj v d=>by
  match j,d with
  |0,d=>simp[Fx.cells]at d;subst d;exact aJ M rfl
  |1,d=>simp[Fx.cells]at d;subst d;exact aJ M rfl
  |2,d=>simp[Fx.cells]at d;subst d;exact aJ M rfl
 have q:∀(K:Value) (w':World),w'.ownsRow z 74 3 K (l.length+1) (aI Fx.cells (l.take i++x::l.drop i))->(w.grownBy w' (ha.map Addr.block))->∃L E,Ending.returned K=.returned (.slice L (l.length+1) E)/\bQ 74 3 Fx.cells w' z (.slice L (l.length+1) E) (l.take i++x::l.drop i)/\E<=maxLen/\aT (λk=>ha.map Addr.block=some k) w w':=λK w' D F=>by
  have hX:bQ 74 3 Fx.cells w' z K (l.take i++x::l.drop i):=iY Fx.cells_length (by rw[r];exact D);obtain⟨L,E,e⟩:=hX.slice;rw[r]at e;subst e;exact⟨L,E,rfl,hX,lI D _ _ _ rfl,⟨F.os,F.tape,F.output,F.size,λk I hs=>F.block k I (λe=>hs e.symm)⟩⟩
 have hnil:∀{w:World} {n c:Nat} {cs:List Value},w.ownsRow z 74 3 (.slice ha n c) n cs->(Value.slice ha n c).ownBlock=ha.map Addr.block:=λ_=>by cases ha<;>rfl
 have m:=RB l x i Y;rcases hO with⟨e,rfl⟩|⟨g,cap,e,h1,h2,f,J,hf⟩
 ·cases e;obtain rfl:i=0:=by simpa using Y
  refine(xA z 0 0 V none [] x.cells w (by omega) (by omega) rfl R (λa e=>by cases e) (World.ownsRow_nil _ _ _ _) H (nQ x)).mono ?_;rintro e w' ⟨K,rfl,D,F⟩;exact q K w' (by rw[m];simpa[aI]using D) F
 ·cases e
  have N:∀j u,(aI Fx.cells l)[j]?=some u->w.cell? ⟨g,j,none⟩=some u:=λj u d=>by
   have hx:=fP.xs (⟨f,J,hf⟩:fP 74 3 Fx.cells w g t l l.length) Fx.cells_length (nlq _) h2;rcases hx with e|⟨bl,off,e,za⟩;·rw[e]at d;simp[aI]at d
   ·cases e;have:=mG Fx.cells_length (by decide) za j u d;rwa[Addr.add_lit,Nat.zero_add]at this
  have o:=cG Fx.cells_length l
  have P:∀j u,(aI Fx.cells l)[j]?=some u->f j=u:=λj u d=>by
   have h3:=N j u d;have hjl:j<l.length*3:=by rw[←o];exact(lgs.1 d).1
   rw[J.cell (i:=j) (by omega)]at h3;exact Option.some.inj h3
  have S:=iB nQ l;have U:t<=9223372036854775807:=by unfold maxLen at B;omega
  by_cases zb:i=l.length
  ·subst zb;refine(xA z l.length t V (some ⟨g,0,none⟩) (aI Fx.cells l) x.cells w hn U rfl R (λa e=>by cases e;exact⟨rfl,rfl⟩) (lK J h1 h2 B o P) H (nQ x)).mono ?_;rintro e w' ⟨K,rfl,D,F⟩;refine q K w' ?_ F;rw[m,ltl (by omega),List.drop_eq_nil_of_le (by omega),List.append_nil];exact D
  ·have T:i<l.length:=by omega
   by_cases C:l.length+1<=t
   ·have zd:V≠g:=λe=>by
     obtain⟨Z,e1,e2,_⟩:=J;rw[e,e1]at M;cases M;simp at e2;omega
    have zc:w.shape? g=some (74,t*3):=by
     obtain⟨Z,e1,e2,_⟩:=J;simp[World.shape?,e1,e2]
    refine(BX g l.length t i V (aI Fx.cells l) x.cells w T C U zd o rfl N (λj d=>by rw[J.cell (i:=j) (by omega)];rfl) (λj=>J.frozen j) H S (nQ x) 74 74 3 (t*3) (by simp[World.shape?,M]) zc (by omega) (λj=>by simp[World.frozen?,M])).mono ?_;rintro e w' ⟨rfl,rfl⟩;have r0:w.drew.rowIs g 74 (t*3) f:=J;have r1:=eB ((aI Fx.cells l).drop (i*3)) ((i+1)*3) _ _ r0;have r2:=eB x.cells (i*3) _ _ r1;have O:((aI Fx.cells l).drop (i*3)).length=(l.length-i)*3:=by rw[List.length_drop,o];omega
    have D:=lK (z:=z) (n:=l.length+1) (xs:=aI Fx.cells (l.take i++x::l.drop i)) r2 h1 C B (by rw[cG Fx.cells_length,r]) (by
     rw[m];exact yH Y o rfl P (λj d=>by rw[O];rfl))
    refine q _ _ D ?_;have s:=eE g ((aI Fx.cells l).drop (i*3)) ((i+1)*3) w.drew;have A:=eE g x.cells (i*3) (w.drew.setCells g ((i+1)*3) ((aI Fx.cells l).drop (i*3)));exact⟨A.os.trans s.os,A.tape.trans s.tape,A.output.trans s.output,Nat.le_trans s.size A.size,λk I Q=>(A.block k (Nat.lt_of_lt_of_le I s.size) Q).trans (s.block k I Q)⟩
   ·refine(FS g l.length t i V (aI Fx.cells l) x.cells w T h2 (by omega) hn o rfl N H S (nQ x)).mono ?_;rintro e w' ⟨G,b,q1,q2,q3,q4,rfl,rfl⟩;have r0:(w.alloc (.cells b 74)).drew.rowIs w.heap.size 74 (G*3) (λj=>b.getD j undef):=⟨b,wnq w _,q3,λj d=>by simp[q3,d]⟩;have r1:=eB x.cells (i*3) _ _ r0;have ze:((w.alloc (.cells b 74)).drew.setCells w.heap.size (i*3) x.cells).drew.rowIs w.heap.size 74 (G*3) _:=r1;have r2:=eB ((aI Fx.cells l).drop (i*3)) ((i+1)*3) _ _ ze;have O:((aI Fx.cells l).drop (i*3)).length=(l.length-i)*3:=by rw[List.length_drop,o];omega
    have D:=lK (z:=z) (n:=l.length+1) (xs:=aI Fx.cells (l.take i++x::l.drop i)) r2 R q1 q2 (by rw[cG Fx.cells_length,r]) (by
     rw[m];intro j u d;refine yH (f:=λj=>if j<i*3 then b.getD j undef else f j) (h:=λj=>if(i+1)*3<=j/\j<(i+1)*3+((aI Fx.cells l).drop (i*3)).length then((aI Fx.cells l).drop (i*3)).getD (j-(i+1)*3) undef else if i*3<=j/\j<i*3+x.cells.length then x.cells.getD (j-i*3) undef else b.getD j undef) Y o rfl (λj u d=>?_) (λj d=>?_) j u d
     ·by_cases e:j<i*3
      ·show(if j<i*3 then b.getD j undef else f j)=u;rw[if_pos e];exact q4 j u (by rw[List.getElem?_take_of_lt e];exact d)
      ·show(if j<i*3 then b.getD j undef else f j)=u;rw[if_neg e];exact P j u d
     ·simp only[O];show(if(i+1)*3<=j/\j<(i+1)*3+(l.length-i)*3 then _ else if i*3<=j/\j<i*3+3 then x.cells.getD (j-i*3) undef else b.getD j undef)=_;by_cases W:i*3<=j/\j<i*3+3;·rw[if_neg (by omega),if_pos W,if_pos W]
      ·rw[if_neg W,if_neg W];by_cases X:(i+1)*3<=j/\j<(i+1)*3+(l.length-i)*3;·rw[if_pos X,if_pos X]
       ·rw[if_neg X,if_neg X,if_pos (by omega)])
    refine q _ _ D ?_;have s:=eE w.heap.size x.cells (i*3) (w.alloc (.cells b 74)).drew;have A:=eE w.heap.size ((aI Fx.cells l).drop (i*3)) ((i+1)*3) (((w.alloc (.cells b 74)).drew.setCells w.heap.size (i*3) x.cells).drew);have p:aF w (w.alloc (.cells b 74)):=aB (br _ _) _;have hs0:w.heap.size<(w.alloc (.cells b 74)).heap.size:=by simp
    exact⟨A.os.trans (s.os.trans p.os),A.tape.trans (s.tape.trans p.tape),A.output.trans (s.output.trans p.output),Nat.le_trans p.size (Nat.le_trans s.size A.size),λk I Q=>(A.block k (Nat.lt_of_lt_of_le I (Nat.le_trans p.size s.size)) (λe=>by cases e;omega)).trans ((s.block k (Nat.lt_of_lt_of_le I p.size) (λe=>by cases e;omega)).trans (p.block k I))⟩
end Go.Proofs.YtcdbcliaepcpfaaGreatDoor
