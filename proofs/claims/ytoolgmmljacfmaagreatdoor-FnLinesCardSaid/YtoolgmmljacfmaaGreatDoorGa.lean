import Derived.Shelf.Spec.SlicesInsertGrow
import Derived.Test.YtoolgmmljacfmaaGreatDoorDq
set_option maxRecDepth 100000
set_option maxHeartbeats 4000000
open List renaming length → ln
open Go.Proofs.Tryz Go.RowKit
namespace Go.Proofs.YtoolgmmljacfmaaGreatDoor
open Go.Shelf Go.Lib
variable {P:Program}{g t N:Nat}{w:Wd}{f:Nat → Va}{a e:List Va}
def InsS (f:Nat):Prop:=
 ∀(g n c i V:Nat) (cs xc:List Value) (w:World),i<n->n+1<=c->c<=9223372036854775807->V≠g->cs.length=n*3->xc.length=3->(∀j v,cs[j]?=some v->w.cell? (Y g j)=some v)->(∀j,j<(n+1)*3->(w.cell? (Y g j)).isSome=true)->(∀j,w.frozen? (Y g j)=false)->(∀j v,xc[j]?=some v->w.cell? (Y V j)=some v)->(∀v∈cs,v.oneCell'=true)->(∀v∈xc,v.oneCell'=true)->∀(tA tB:TypeId) (kA kB:Nat),w.shape? V=some (tA,kA)->w.shape? g=some (tB,kB)->kB≠0->(∀j,w.frozen? (Y V j)=false)->
  aW f #[.slice (some (Y g 0)) n c,I i,.slice (some (Y V 0)) 1 1] w λe w'=>
   e=rt (.slice (some (Y g 0)) (n+1) c)/\w'=(w.drew.setCells g ((i+1)*3) (cs.drop (i*3))).setCells g (i*3) xc
def InsG (f T:Nat):Prop:=
 ∀(g n c i V:Nat) (cs xc:List Value) (w:World),i<n->n<=c->c<n+1->n<=64->cs.length=n*3->xc.length=3->(∀j v,cs[j]?=some v->w.cell? (Y g j)=some v)->(∀j v,xc[j]?=some v->w.cell? (Y V j)=some v)->(∀v∈cs,v.oneCell'=true)->(∀v∈xc,v.oneCell'=true)->
  aW f #[.slice (some (Y g 0)) n c,I i,.slice (some (Y V 0)) 1 1] w λe w'=>
   ∃G ROW,n+1<=G/\G<=maxLen/\ROW.size=G*3/\(∀j u,(cs.take (i*3))[j]?=some u->ROW.getD j undef=u)/\e=rt (.slice (some (Y w.heap.size 0)) (n+1) G)/\
   w'=(((w.alloc (.cells ROW T)).drew.setCells w.heap.size (i*3) xc).drew).setCells w.heap.size ((i+1)*3) (cs.drop (i*3))
def InsE (f T:Nat):Prop:=
 ∀(z n c V:Nat) (ha:Option Addr) (cs xc:List Value) (w:World),n<=64->c<=9223372036854775807->xc.length=3->z<=w.heap.size->(∀a,ha=some a->a.off=0/\a.spot=none)->w.ownsRow z T 3 (.slice ha n c) n cs->(∀j v,xc[j]?=some v->w.cell? (Y V j)=some v)->(∀v∈xc,v.oneCell'=true)->
  aW f #[.slice ha n c,I n,.slice (some (Y V 0)) 1 1] w λe w'=>
   ∃v',e=rt v'/\w'.ownsRow z T 3 v' (n+1) (cs++xc)/\w.grownBy w' (Value.slice ha n c).ownBlock
theorem kP (w:Wd)(m y z d:TypeId)(sz b o c g:Nat)(a:Addr)(e k:Nat)(f:List Va)
 (x:P.underlying m=some (.slice d))(p:(P.info? d).map (·.size)=some sz)(u:ln f=Nat.min e c*sz)
 (h:∀j v,f[j]?=some v->w.cell? (a.add j)=some v)(r:∀j,j<ln f->(w.cell? (Y b (o+j))).isSome=true)(s:∀j,j<ln f->w.frozen? (Y b (o+j))=false)(q:∀v∈f,v.oneCell'=true):
 (Builtin.copy_ #[m,y] z #[.slice (some (Y b o)) c g,.slice (some a) e k]).run P w=.ok (goInt (Nat.min e c)) (w.setCells b o f):=by
 have n:=run_loadCells_list (P:=P) w a f h;have l:=run_storeCells_cells (P:=P) b o f 0 w (by simpa using r) (by simpa using s) q;rw[u]at n
 cases hq:P.info? d with
 |none=>simp[hq]at p
 |some i=>
  have t:i.size=sz:=by simpa[hq]using p
  simp[Builtin.copy_,run_underlying x,Builtin.lenOf,Builtin.firstCells,sizeOf,typeInfo,hq,t,n,l]
theorem IN:InsS 160:=by
 intro g n c i V p X w hi hroom hc63 A J R K m t S F G tA tB U kB P Q L s;obtain⟨i0,u,hz0,B,hzb⟩:=info_parts Tryz.info74;have mixed:prog.follows .mixedOrders=true:=kr
 have z:(prog.info? 74).map (·.size)=some 3:=by rw[u];simp[B]
 have O:∀lb D,(callFunc 217 #[sl V 0 1 1,sl g ((i+1)*3) lb D]).run prog w=.ok (.value (.bool false)) w:=λlb D=>by
  rw[rce func217 kr kr kr (e:=Extern.SlicesOverlaps.overlaps #[30,30] #[4]) kr,
   Lib.run_overlaps_apart w 30 4 74 underlying30 3 (λw=>by simp[Go.sizeOf,typeInfo,u,B]) (Y V 0) (Y g ((i+1)*3)) 1 1 lb D A tA tB U kB P Q L (s 0) (s U)]
  rfl
 have hw1:IntKind.i64.wrap ((i:Int)+1)=(i:Int)+1:=by rw[IntKind.wrap_i64];omega
 have hw2:IntKind.i64.wrap ((n:Int)+1)=(n:Int)+1:=by rw[IntKind.wrap_i64];omega
 have hb1:(0:Int)<=(i:Int)+1:=om
 have hin:i<=n:=om
 have htn:((i:Int)+1).toNat=i+1:=om
 have hb2:¬(c=i+1):=om
 have hb3:(i:Int)<=(n:Int)+1:=om
 have hb4:¬(c=i):=om
 have l:ln (p.drop (i*3))=(n-i)*3:=by rw[lld,J];omega
 have M:Nat.min (n+1-i) (n-i)=n-i:=by simp only[Nat.min_def];split<;>omega
 have N:Nat.min 1 (n+1-i)=1:=by simp only[Nat.min_def];split<;>omega
 have d:∀o f T,(Builtin.copy_ #[30,30] o #[sl g ((i+1)*3) (n-i) f,sl g (i*3) (n+1-i) T]).run prog w.drew=.ok (goInt (Nat.min (n+1-i) (n-i))) (w.drew.setCells g ((i+1)*3) (p.drop (i*3))):=λo f T=>
  kP w.drew _ _ o 74 3 g ((i+1)*3) (n-i) f (Y g (i*3)) (n+1-i) T (p.drop (i*3)) underlying30 z (by rw[l,M])
   (λj v b=>by rw[aal];exact K (i*3+j) v (by rwa[List.getElem?_drop]at b))
   (λj b=>m _ (by rw[l]at b;omega)) (λj b=>t _) (λv hv=>F v (lmd hv))
 obtain⟨C,a⟩:=bQ (w.drew.setCells g ((i+1)*3) (p.drop (i*3)))
 have y:∀k,k<(n+1)*3->(C.cell? (Y g k)).isSome=true:=λk Z=>by
  rw[a];exact isSome_setCells g (p.drop (i*3)) ((i+1)*3) w.drew (λj b=>m _ (by rw[l]at b;omega)) _ (m k Z)
 have r:∀(W:Wd),(∀x,W.cell? x=C.cell? x)->(∀x,W.frozen? x=C.frozen? x)->∀o f,(Builtin.copy_ #[30,30] o #[sl g (i*3) (n+1-i) f,sl V 0 1 1]).run prog W=.ok (goInt (Nat.min 1 (n+1-i))) (W.setCells g (i*3) X):=λW q H o f=>
  kP W _ _ o 74 3 g (i*3) (n+1-i) f (Y V 0) 1 1 X underlying30 z (by rw[R,N])
   (λj v b=>by
    rw[aal,q,a,World.cell?_setCells_out g _ _ _ _ (λh _=>absurd h A),nza]
    exact S j v b)
   (λj b=>by rw[q];exact y _ om) (λj b=>by rw[H,a,World.frozen?_setCells];exact t _) G
 rw[←a]at d
 go_enter func160,ntmps160
 go_wp2_with (simp only[O])
 go_region_law_o (refine step_copy_runI rfl _ _ 30 30 rfl _ _ (by simp[Act.eval,Act.put]) (by simp[Act.eval,Act.put]) (d _ _ _) ?_)
 go_wp2_with (at_builtin;refine wpList_copy_runI _ rfl _ _ 30 30 rfl _ _ rfl rfl (r _ (λ_=>rfl) (λ_=>rfl) _ _) ?_)
 go_ret
 first|exact⟨rfl,rfl⟩|exact⟨rfl,by rw[a]⟩
theorem eK:∀(a:List Va) (o:Nat) (w:Wd) (f:Nat->Va),w.rowIs g t N f->(w.setCells g o a).rowIs g t N (λj=>if o<=j/\j<o+ln a then a.getD (j-o) undef else f j)
 |[],o,w,f,h=>by
  have e:(λj=>if o<=j/\j<o+ln ([]:List Va)then([]:List Va).getD (j-o) undef else f j)=f:=by
   funext j;rw[if_neg sm]
  rw[e];exact h
 |v::r,o,w,f,h=>by
  have d:=eK r (o+1) _ _ (h.set o v)
  have e:(λj=>if o+1<=j/\j<o+1+ln r then r.getD (j-(o+1)) undef else(if j=o then v else f j))=(λj=>if o<=j/\j<o+ln (v::r)then(v::r).getD (j-o) undef else f j):=by
   funext j;by_cases b:j=o
   ·subst b;rw[if_neg om,if_pos rfl,if_pos sm];simp
   ·by_cases c:o+1<=j/\j<o+1+ln r
    ·rw[if_pos c,if_pos so];obtain⟨k,rfl⟩:∃k,j=o+1+k:=⟨j-(o+1),om⟩;rw[show o+1+k-(o+1)=k by omega,show o+1+k-o=k+1 by omega];simp
    ·rw[if_neg c,if_neg b,if_neg so]
  rw[e]at d;exact d
theorem lK {z g t sz n c:Nat}{xs:List Va}(h:w.rowIs g t (c*sz) f)(p:z<=g)(d:n<=c)(e:c<=maxLen)(m:ln xs=n*sz)(hx:∀j u,xs[j]?=some u->f j=u):w.ownsRow z t sz (.slice (some (Y g 0)) n c) n xs:=by
 obtain⟨b,k,o,i⟩:=h;have hle:n*sz<=c*sz:=Nat.mul_le_mul_right _ d;refine⟨m,.inr ⟨g,c,b,rfl,p,k,d,e,o,?_⟩⟩;apply List.ext_getElem?;intro j;by_cases l:j<n*sz
 ·rw[ltg l,Array.getElem?_toList,i j om];have a:j<ln xs:=om;rw[lge a];rw[hx j xs[j] (lge a)]
 ·rw[List.getElem?_eq_none (by rw[llt];omega),List.getElem?_eq_none om]
theorem AC (hi:N<=t)(g:ln a=t*3)(d:ln e=3){f h:Nat->Va}(p:∀j u,a[j]?=some u->f j=u)
 (q:∀j,j<(t+1)*3->h j=if N*3<=j/\j<N*3+3 then e.getD (j-N*3) undef else if(N+1)*3<=j/\j<(N+1)*3+(t-N)*3 then(a.drop (N*3)).getD (j-(N+1)*3) undef else f j):
 ∀j u,(a.take (N*3)++(e++a.drop (N*3)))[j]?=some u->h j=u:=by
 intro j u b;have c:ln (a.take (N*3)++(e++a.drop (N*3)))=(t+1)*3:=by simp[g,d];omega
 have k:j<(t+1)*3:=by rw[←c];exact(lgs.1 b).1
 have l:ln (a.take (N*3))=N*3:=by rw[llt];omega
 rw[q j k];by_cases m:j<N*3
 ·rw[if_neg om,if_neg om];rw[lgl om,ltg m]at b;exact p j u b
 ·rw[lgr om,l]at b;by_cases o:j<N*3+3
  ·rw[if_pos ⟨om,o⟩];rw[lgl om]at b;rw[List.getD_eq_getElem?_getD,b];rfl
  ·rw[if_neg om,if_pos ⟨om,om⟩];rw[lgr om,d]at b;rw[show j-(N+1)*3=j-N*3-3 by omega,List.getD_eq_getElem?_getD,b];rfl
theorem J8:InsG 160 74:=by
 intro g n c i V m s w hi hnc F hn64 zl R C S X Z;obtain⟨i0,O,zq,H,T⟩:=info_parts Tryz.info74;have mixed:prog.follows .mixedOrders=true:=kr
 have hz3:(c:Int)<(n:Int)+1:=om
 have Q:(prog.info? 74).map (·.size)=some 3:=by rw[O];simp[H]
 have zk:g<w.heap.size:=block_lt_of_cell (C 0 _ (lge om));have zp:V<w.heap.size:=block_lt_of_cell (S 0 _ (lge om));have P:(n:Int)+1-(i:Int)=((n+1-i:Nat):Int):=om
 have D:i+(n+1-i)=n+1:=om
 have l:ln (m.take (i*3))=i*3:=by rw[llt];omega
 have y:(Builtin.firstCells i0.size i (sl g 0 i c)).run prog w.drew=.ok (m.take (i*3)).toArray w.drew:=by
  rw[H]
  exact run_firstCells_some w.drew 3 i (Y g 0) i c (m.take (i*3)) l (λj v b=>by
   rw[aal,nza];rw[List.getElem?_take]at b
   split at b
   · exact C j v b
   · cases b)
 have r:∀p,(Builtin.append_ #[30,3] p #[sl g 0 i c,I ((n:Int)+1-(i:Int))]).run prog w=
  .ok (sl w.heap.size 0 (n+1) (grownCap w (n+1) c 74)) (w.drew.alloc (.cells ((m.take (i*3)).toArray++Builtin.zeroCells (Value.agg #[.string ByteArray.empty,ms,ms]).cells (n+1-i)++Builtin.zeroCells (Value.agg #[.string ByteArray.empty,ms,ms]).cells (grownCap w (n+1) c 74-(n+1))) 74)):=λp=>by
  have h:=Lib.run_append_grow_zeros w 30 3 p 74 i0 _ .i64 .i64 underlying30 underlying3 O zq (some (Y g 0)) i c (m.take (i*3)) y (n+1-i) om (by rw[H];omega) om om (by rw[T];omega) (by rw[T,D];exact growslice_fits F om);rw[D]at h;rw[P];exact h
 obtain⟨G,U⟩:=bQ (grownCap w (n+1) c 74);obtain⟨a,f⟩:=bQ ((m.take (i*3)).toArray++Builtin.zeroCells (Value.agg #[.string ByteArray.empty,ms,ms]).cells (n+1-i)++Builtin.zeroCells (Value.agg #[.string ByteArray.empty,ms,ms]).cells (G-(n+1)):Array Va);rw[←U]at r;rw[←f]at r;have zf:n+1<=G:=by rw[U];exact grownCap_ge w _ _ _
 have ze:G<=maxLen:=by rw[U];exact grownCap_le_maxLen w (n+1) c _ (by unfold maxLen;omega)
 have A:a.size=G*3:=by
  rw[f]
  simp[Builtin.zeroCells,Value.cells,l]
  omega
 have K:∀j u,(m.take (i*3))[j]?=some u->a.getD j undef=u:=λj u b=>by
  have hjl:j<i*3:=by rw[←l];exact(lgs.1 b).1
  have e:a[j]?=some u:=by
   rw[f,Array.getElem?_append_left (by simp[l];omega),Array.getElem?_append_left (by simp[l];omega)]
   simpa using b
  rw[agd,e];rfl
 have zi:(n+1)*3<=a.size:=by rw[A];omega
 obtain⟨q,k⟩:=bQ (w.drew.alloc (.cells a 74));rw[←k]at r
 have hN:∀j,j<(n+1)*3->(q.cell? (ya w j)).isSome=true:=λj b=>by
  rw[k,World.cell?_alloc_at (w:=w.drew) a _ w.heap.size j rfl,age om];rfl
 have J:∀j,q.frozen? (ya w j)=false:=λj=>by rw[k];exact World.frozen?_alloc_at (w:=w.drew) a _ w.heap.size j rfl
 have zg:∀j v,w.cell? (Y g j)=some v->q.cell? (Y g j)=some v:=λj v h=>by rw[k,World.cell?_alloc_past (w:=w.drew) _ g j zk];exact h
 have zh:∀j v,w.cell? (Y V j)=some v->q.cell? (Y V j)=some v:=λj v h=>by rw[k,World.cell?_alloc_past (w:=w.drew) _ V j zp];exact h
 have zn:Nat.min 1 (n+1-i)=1:=by simp only[Nat.min_def];split<;>omega
 have zm:Nat.min (n-i) (n-i)=n-i:=Nat.min_self _
 have L:∀(W:Wd),(∀x,W.cell? x=q.cell? x)->(∀x,W.frozen? x=q.frozen? x)->∀p z,(Builtin.copy_ #[30,30] p #[sl w.heap.size (i*3) (n+1-i) z,sl V 0 1 1]).run prog W=.ok (goInt (Nat.min 1 (n+1-i))) (W.setCells w.heap.size (i*3) s):=λW o B p z=>
  kP W _ _ p 74 3 w.heap.size (i*3) (n+1-i) z (Y V 0) 1 1 s underlying30 Q (by rw[R,zn])
   (λj v b=>by rw[aal,nza,o];exact zh _ v (S j v b))
   (λj b=>by rw[o];exact hN _ om) (λj b=>by rw[B];exact J _) Z
 have hGi:¬(G=i):=om
 have hGim:¬(G=i+1):=om
 have hci:¬(c=i):=om
 have zj:g≠w.heap.size:=om
 have N:ln (m.drop (i*3))=(n-i)*3:=by rw[lld,zl];omega
 have M:∀(W:Wd),(∀x,W.cell? x=(q.setCells w.heap.size (i*3) s).cell? x)->(∀x,W.frozen? x=(q.setCells w.heap.size (i*3) s).frozen? x)->∀p z sc,(Builtin.copy_ #[30,30] p #[sl w.heap.size ((i+1)*3) (n-i) z,sl g (i*3) (n-i) sc]).run prog W=.ok (goInt (Nat.min (n-i) (n-i))) (W.setCells w.heap.size ((i+1)*3) (m.drop (i*3))):=λW o B p z sc=>
  kP W _ _ p 74 3 w.heap.size ((i+1)*3) (n-i) z (Y g (i*3)) (n-i) sc (m.drop (i*3)) underlying30 Q (by rw[N,zm])
   (λj v b=>by
    rw[aal,o,World.cell?_setCells_out _ _ _ _ _ (λh _=>absurd h zj)]
    exact zg _ v (C (i*3+j) v (by rwa[List.getElem?_drop]at b)))
   (λj b=>by rw[o];exact isSome_setCells _ s (i*3) q (λt ht=>hN _ (by rw[R]at ht;omega)) _ (hN _ (by rw[N]at b;omega)))
   (λj b=>by rw[B,World.frozen?_setCells];exact J _) (λv hv=>X v (lmd hv))
 subst k;have za:∀x,((w.alloc (.cells a 74)).drew).cell? x=(w.drew.alloc (.cells a 74)).cell? x:=λx=>rfl;have zb:∀x,((w.alloc (.cells a 74)).drew).frozen? x=(w.drew.alloc (.cells a 74)).frozen? x:=λx=>rfl;have zc:∀x,(((w.alloc (.cells a 74)).drew.setCells w.heap.size (i*3) s).drew).cell? x=((w.drew.alloc (.cells a 74)).setCells w.heap.size (i*3) s).cell? x:=λx=>rfl;have zd:∀x,(((w.alloc (.cells a 74)).drew.setCells w.heap.size (i*3) s).drew).frozen? x=((w.drew.alloc (.cells a 74)).setCells w.heap.size (i*3) s).frozen? x:=λx=>rfl;have hw1:IntKind.i64.wrap ((i:Int)+1)=(i:Int)+1:=by rw[IntKind.wrap_i64];omega
 have hb1:(0:Int)<=(i:Int)+1:=om
 have htn:((i:Int)+1).toNat=i+1:=om
 have hb3:(i:Int)<=(n:Int):=om
 have d:Hid (n+1<=G/\G<=maxLen/\a.size=G*3/\(∀j u,(m.take (i*3))[j]?=some u->a.getD j undef=u)):=⟨zf,ze,A,K⟩;clear P D y f U zi A K l
 go_enter func160,ntmps160
 go_wp2_with (first
  |(at_builtin;refine Lib.wpList_append_run _ rfl _ _ _ _ rfl _ _ rfl rfl _ _ (r _) ?_)
  |(at_builtin;refine wpList_copy_runI _ rfl _ _ 30 30 rfl _ _ rfl rfl (L _ za zb _ _) ?_))
 go_region_law_o (refine step_copy_runI rfl _ _ 30 30 rfl (sl w.heap.size ((i+1)*3) (n-i) (G-(i+1))) (sl g (i*3) (n-i) (c-i)) (by simp[Act.eval,Act.put]) (by simp[Act.eval,Act.put]) (M _ zc zd 3 (G-(i+1)) (c-i)) ?_)
 go_wp2
 go_ret;exact⟨G,a,d.oQ.1,d.oQ.2.1,d.oQ.2.2.1,d.oQ.2.2.2,rfl,rfl⟩
theorem CO:InsE 160 74:=by
 intro z n c V ha cs D w hn64 hc63 l s G f m i;obtain⟨C,k,p,r,q⟩:=info_parts Tryz.info74
 cases ha with
 |none=>
  obtain⟨rfl,rfl⟩:n=0/\c=0:=by
   obtain⟨_,⟨e,h⟩|⟨g,y,A,e,_⟩⟩:=f
   ·cases e;exact⟨rfl,rfl⟩
   ·cases e
  go_enter func160,ntmps160
  go_wp2_with (at_builtin;refine wpList_append_own _ rfl (.tmp 23) (.tmp 24) 30 rfl z 74 C _ 3 64 underlying30 k p r q rfl dz _ _ _ rfl f (Y V 0) 1 1 D rfl l ?qc1 i ?qc3 ?qc4 s ?_)
  case qc1=>exact λj v x=>by rw[aal,nza];exact m j v x
  case qc3=>unfold maxLen;omega
  case qc4=>omega
  intro F w1 d b _;have u:Hid _:=d;have t:Hid _:=b;clear d b f;go_wp2
  go_ret;exact⟨_,rfl,u.oQ,t.oQ⟩
 |some a=>
  obtain⟨g,o,sp⟩:=a;obtain⟨rfl,rfl⟩:=G _ rfl
  by_cases B:c=n
  ·subst B
   go_enter func160,ntmps160
   go_wp2_with (at_builtin;refine wpList_append_own _ rfl (.tmp 23) (.tmp 24) 30 rfl z 74 C _ 3 64 underlying30 k p r q rfl dz _ _ _ rfl f (Y V 0) 1 1 D rfl l ?qc1 i ?qc3 ?qc4 s ?_)
   case qc1=>exact λj v x=>by rw[aal,nza];exact m j v x
   case qc3=>unfold maxLen;omega
   case qc4=>omega
   intro F w1 d b _;have u:Hid _:=d;have t:Hid _:=b;clear d b f;go_wp2
   go_ret;exact⟨_,rfl,u.oQ,t.oQ⟩
  ·have hle:n<=c:=by
    obtain⟨_,⟨e,h⟩|⟨g,y,A,e,_,_,h,_⟩⟩:=f
    ·cases e
    ·cases e;exact h
   go_enter func160,ntmps160
   go_wp2_with (at_builtin;refine wpList_append_own _ rfl (.tmp 23) (.tmp 24) 30 rfl z 74 C _ 3 64 underlying30 k p r q rfl dz _ _ _ rfl f (Y V 0) 1 1 D rfl l ?qc1 i ?qc3 ?qc4 s ?_)
   case qc1=>exact λj v x=>by rw[aal,nza];exact m j v x
   case qc3=>unfold maxLen;omega
   case qc4=>omega
   intro F w1 d b _;have u:Hid _:=d;have t:Hid _:=b;clear d b f;go_wp2
   go_ret;exact⟨_,rfl,u.oQ,t.oQ⟩
theorem eJ (g:Nat):∀(d:List Va) (o:Nat) (w:Wd),w.grownBy (w.setCells g o d) (some g)
 |[],_,w=>⟨rfl,rfl,rfl,nlq _,λ_ _ _=>rfl⟩
 |v::r,o,w=>by
  have h:=eJ g r (o+1) (w.setCell (Y g o) v);have c:(w.setCell (Y g o) v).heap.size=w.heap.size:=by simp
  refine⟨h.os,h.tape,h.output,by have:=h.size;rw[c]at this;exact this,λk b a=>?_⟩;refine(h.block k (by rw[c];exact b) a).trans ?_;exact((aU.refl (λq=>q=g) w).set (g:=g) rfl o v).block k b (λe=>a (by rw[e]))
theorem WU {α:Type}{a:α->List Va}(b:∀x,ln (a x)=3)(l:List α)(x:α)(i:Nat)(hi:i<=ln l):aJ a (l.take i++x::l.drop i)=(aJ a l).take (i*3)++(a x++(aJ a l).drop (i*3)):=by
 have h:=List.take_append_drop i l;have c:ln (aJ a (l.take i))=i*3:=by rw[cP b,llt];congr 1;omega
 have e:aJ a l=aJ a (l.take i)++aJ a (l.drop i):=by rw[←eL,h]
 have d:(aJ a l).take (i*3)=aJ a (l.take i):=by rw[e,←c];exact List.take_left
 have f:(aJ a l).drop (i*3)=aJ a (l.drop i):=by rw[e,←c];exact List.drop_left
 rw[d,f,eL];simp[aJ]
theorem insert_gen {α:Type}{b:α->List Va}{kf T:Nat}(hS:InsS kf)(hG:InsG kf T)(hE:InsE kf T)(d:∀x,ln (b x)=3)(r:∀x,∀v∈b x,v.oneCell'=true)(z:Nat)(l:List α)(ha:Oa)(B i V:Nat)(x:α)(w:Wd)(hO:bW T 3 b w z (.slice ha (ln l) B) l)(D:B<=maxLen)(hi:i<=ln l)(hn:ln l<=64)
 (Z:w.heap[V]?=some (.cells (b x).toArray T))(W:z<=w.heap.size):
 aW kf #[.slice ha (ln l) B,I i,.slice (some (Y V 0)) 1 1] w λe w'=>
  ∃P J,e=rt (.slice P (ln l+1) J)/\bW T 3 b w' z (.slice P (ln l+1) J) (l.take i++x::l.drop i)/\J<=maxLen/\aU (λk=>ha.map Addr.block=some k) w w':=by
 have y:ln (l.take i++x::l.drop i)=ln l+1:=by simp;omega
 have L:∀j v,(b x)[j]?=some v->w.cell? (Y V j)=some v:=λj v p=>aB Z (by simpa using p)
 have t:∀(O:Va) (w':Wd),w'.ownsRow z T 3 O (ln l+1) (aJ b (l.take i++x::l.drop i))->(w.grownBy w' (ha.map Addr.block))->∃P J,Ending.returned O=rt (.slice P (ln l+1) J)/\bW T 3 b w' z (.slice P (ln l+1) J) (l.take i++x::l.drop i)/\J<=maxLen/\aU (λk=>ha.map Addr.block=some k) w w':=λO w' H K=>by
  have hX:bW T 3 b w' z O (l.take i++x::l.drop i):=iV d (by rw[y];exact H);obtain⟨P,J,e⟩:=hX.slice;rw[y]at e;subst e;exact⟨P,J,rfl,hX,jY H _ _ _ rfl,⟨K.os,K.tape,K.output,K.size,λk M zi=>K.block k M (λe=>zi e.symm)⟩⟩
 have hnil:∀{w:Wd} {n c:Nat} {cs:List Va},w.ownsRow z T 3 (.slice ha n c) n cs->(Value.slice ha n c).ownBlock=ha.map Addr.block:=λ_=>by cases ha<;>rfl
 have o:=WU d l x i hi;rcases hO with⟨e,rfl⟩|⟨g,cap,e,h1,h2,f,N,hf⟩
 ·cases e;obtain rfl:i=0:=by simpa using hi
  refine(hE z 0 0 V none [] (b x) w om om (d x) W (λa e=>by cases e) (won _ _ _ _) L (r x)).mono ?_;rintro e w' ⟨O,rfl,H,K⟩;exact t O w' (by rw[o];simpa[aJ]using H) K
 ·cases e
  have Q:∀j u,(aJ b l)[j]?=some u->w.cell? (Y g j)=some u:=λj u p=>by
   have hx:=gD.xs (⟨f,N,hf⟩:gD T 3 b w g B l (ln l)) d (nlq _) h2;rcases hx with e|⟨bl,off,e,zd⟩;·rw[e]at p;simp[aJ]at p
   ·cases e;have:=nA d dz zd j u p;rwa[aal,nza]at this
  have q:=cP d l
  have S:∀j u,(aJ b l)[j]?=some u->f j=u:=λj u p=>by
   have h3:=Q j u p;have hjl:j<ln l*3:=by rw[←q];exact(lgs.1 p).1
   rw[N.cell (i:=j) om]at h3;exact osi h3
  have X:=iP r l;have zb:B<=9223372036854775807:=by unfold maxLen at D;omega
  by_cases ze:i=ln l
  ·subst ze;refine(hE z (ln l) B V (some (Y g 0)) (aJ b l) (b x) w hn zb (d x) W (λa e=>by cases e;exact⟨rfl,rfl⟩) (lK N h1 h2 D q S) L (r x)).mono ?_;rintro e w' ⟨O,rfl,H,K⟩;refine t O w' ?_ K;rw[o,ltl om,List.drop_eq_nil_of_le om,List.append_nil];exact H
  ·have za:i<ln l:=om;by_cases F:ln l+1<=B
   ·have zg:V≠g:=λe=>by
     obtain⟨zc,e1,e2,_⟩:=N;rw[e,e1]at Z;cases Z;simp[d]at e2;omega
    have zf:w.shape? g=some (T,B*3):=by
     obtain⟨zc,e1,e2,_⟩:=N;simp[World.shape?,e1,e2]
    refine(hS g (ln l) B i V (aJ b l) (b x) w za F zb zg q (d x) Q (λj p=>by rw[N.cell (i:=j) om];rfl) (λj=>N.frozen j) L X (r x) T T 3 (B*3) (by simp[World.shape?,Z,d]) zf om (λj=>by simp[World.frozen?,Z])).mono ?_;rintro e w' ⟨rfl,rfl⟩;have r0:w.drew.rowIs g T (B*3) f:=N;have r1:=eK ((aJ b l).drop (i*3)) ((i+1)*3) _ _ r0;have r2:=eK (b x) (i*3) _ _ r1;have R:ln ((aJ b l).drop (i*3))=(ln l-i)*3:=by rw[lld,q];omega
    have H:=lK (z:=z) (n:=ln l+1) (xs:=aJ b (l.take i++x::l.drop i)) r2 h1 F D (by rw[cP d,y]) (by
     rw[o];exact AC hi q (d x) S (λj p=>by rw[R,d]))
    refine t _ _ H ?_;have A:=eJ g ((aJ b l).drop (i*3)) ((i+1)*3) w.drew;have C:=eJ g (b x) (i*3) (w.drew.setCells g ((i+1)*3) ((aJ b l).drop (i*3)));exact⟨C.os.trans A.os,C.tape.trans A.tape,C.output.trans A.output,nlt A.size C.size,λk M U=>(C.block k (nll M A.size) U).trans (A.block k M U)⟩
   ·refine(hG g (ln l) B i V (aJ b l) (b x) w za h2 om hn q (d x) Q L X (r x)).mono ?_;rintro e w' ⟨G,m,q1,q2,q3,q4,rfl,rfl⟩;have r0:(w.alloc (.cells m T)).drew.rowIs w.heap.size T (G*3) (λj=>m.getD j undef):=⟨m,wnq w _,q3,λj p=>by simp[q3,p]⟩;have r1:=eK (b x) (i*3) _ _ r0;have zh:((w.alloc (.cells m T)).drew.setCells w.heap.size (i*3) (b x)).drew.rowIs w.heap.size T (G*3) _:=r1;have r2:=eK ((aJ b l).drop (i*3)) ((i+1)*3) _ _ zh;have R:ln ((aJ b l).drop (i*3))=(ln l-i)*3:=by rw[lld,q];omega
    have H:=lK (z:=z) (n:=ln l+1) (xs:=aJ b (l.take i++x::l.drop i)) r2 W q1 q2 (by rw[cP d,y]) (by
     rw[o];intro j u p;refine AC (f:=λj=>if j<i*3 then m.getD j undef else f j) (h:=λj=>if(i+1)*3<=j/\j<(i+1)*3+ln ((aJ b l).drop (i*3))then((aJ b l).drop (i*3)).getD (j-(i+1)*3) undef else if i*3<=j/\j<i*3+ln (b x)then(b x).getD (j-i*3) undef else m.getD j undef) hi q (d x) (λj u p=>?_) (λj p=>?_) j u p
     ·by_cases e:j<i*3
      ·show(if j<i*3 then m.getD j undef else f j)=u;rw[if_pos e];exact q4 j u (by rw[ltg e];exact p)
      ·show(if j<i*3 then m.getD j undef else f j)=u;rw[if_neg e];exact S j u p
     ·simp only[R,d];show(if(i+1)*3<=j/\j<(i+1)*3+(ln l-i)*3 then _ else if i*3<=j/\j<i*3+3 then(b x).getD (j-i*3) undef else m.getD j undef)=_;by_cases c1:i*3<=j/\j<i*3+3;·rw[if_neg om,if_pos c1,if_pos c1]
      ·rw[if_neg c1,if_neg c1];by_cases c2:(i+1)*3<=j/\j<(i+1)*3+(ln l-i)*3;·rw[if_pos c2,if_pos c2]
       ·rw[if_neg c2,if_neg c2,if_pos om])
    refine t _ _ H ?_;have A:=eJ w.heap.size (b x) (i*3) (w.alloc (.cells m T)).drew;have C:=eJ w.heap.size ((aJ b l).drop (i*3)) ((i+1)*3) (((w.alloc (.cells m T)).drew.setCells w.heap.size (i*3) (b x)).drew);have s:aG w (w.alloc (.cells m T)):=aC (br _ _) _;have hs0:w.heap.size<(w.alloc (.cells m T)).heap.size:=by simp
    exact⟨C.os.trans (A.os.trans s.os),C.tape.trans (A.tape.trans s.tape),C.output.trans (A.output.trans s.output),nlt s.size (nlt A.size C.size),λk M U=>(C.block k (nll M (nlt s.size A.size)) (λe=>by cases e;omega)).trans ((A.block k (nll M s.size) (λe=>by cases e;omega)).trans (s.block k M))⟩
abbrev ON:=@insert_gen Hx Hx.cells 160 74 IN J8 CO Hx.cells_length lQ
theorem EM:InsS 73:=by
 intro g n c i V p X w hi hroom hc63 A J R K m t S F G tA tB U kB P Q L s;obtain⟨i0,u,hz0,B,hzb⟩:=info_parts Tryz.info34;have mixed:prog.follows .mixedOrders=true:=kr
 have z:(prog.info? 34).map (·.size)=some 3:=by rw[u];simp[B]
 have O:∀lb D,(callFunc 111 #[sl V 0 1 1,sl g ((i+1)*3) lb D]).run prog w=.ok (.value (.bool false)) w:=λlb D=>by
  rw[rce func111 kr kr kr (e:=Extern.SlicesOverlaps.overlaps #[28,28] #[4]) kr,
   Lib.run_overlaps_apart w 28 4 34 underlying28 3 (λw=>by simp[Go.sizeOf,typeInfo,u,B]) (Y V 0) (Y g ((i+1)*3)) 1 1 lb D A tA tB U kB P Q L (s 0) (s U)]
  rfl
 have hw1:IntKind.i64.wrap ((i:Int)+1)=(i:Int)+1:=by rw[IntKind.wrap_i64];omega
 have hw2:IntKind.i64.wrap ((n:Int)+1)=(n:Int)+1:=by rw[IntKind.wrap_i64];omega
 have hb1:(0:Int)<=(i:Int)+1:=om
 have hin:i<=n:=om
 have htn:((i:Int)+1).toNat=i+1:=om
 have hb2:¬(c=i+1):=om
 have hb3:(i:Int)<=(n:Int)+1:=om
 have hb4:¬(c=i):=om
 have l:ln (p.drop (i*3))=(n-i)*3:=by rw[lld,J];omega
 have M:Nat.min (n+1-i) (n-i)=n-i:=by simp only[Nat.min_def];split<;>omega
 have N:Nat.min 1 (n+1-i)=1:=by simp only[Nat.min_def];split<;>omega
 have d:∀o f T,(Builtin.copy_ #[28,28] o #[sl g ((i+1)*3) (n-i) f,sl g (i*3) (n+1-i) T]).run prog w.drew=.ok (goInt (Nat.min (n+1-i) (n-i))) (w.drew.setCells g ((i+1)*3) (p.drop (i*3))):=λo f T=>
  kP w.drew _ _ o 34 3 g ((i+1)*3) (n-i) f (Y g (i*3)) (n+1-i) T (p.drop (i*3)) underlying28 z (by rw[l,M])
   (λj v b=>by rw[aal];exact K (i*3+j) v (by rwa[List.getElem?_drop]at b))
   (λj b=>m _ (by rw[l]at b;omega)) (λj b=>t _) (λv hv=>F v (lmd hv))
 obtain⟨C,a⟩:=bQ (w.drew.setCells g ((i+1)*3) (p.drop (i*3)))
 have y:∀k,k<(n+1)*3->(C.cell? (Y g k)).isSome=true:=λk Z=>by
  rw[a];exact isSome_setCells g (p.drop (i*3)) ((i+1)*3) w.drew (λj b=>m _ (by rw[l]at b;omega)) _ (m k Z)
 have r:∀(W:Wd),(∀x,W.cell? x=C.cell? x)->(∀x,W.frozen? x=C.frozen? x)->∀o f,(Builtin.copy_ #[28,28] o #[sl g (i*3) (n+1-i) f,sl V 0 1 1]).run prog W=.ok (goInt (Nat.min 1 (n+1-i))) (W.setCells g (i*3) X):=λW q H o f=>
  kP W _ _ o 34 3 g (i*3) (n+1-i) f (Y V 0) 1 1 X underlying28 z (by rw[R,N])
   (λj v b=>by
    rw[aal,q,a,World.cell?_setCells_out g _ _ _ _ (λh _=>absurd h A),nza]
    exact S j v b)
   (λj b=>by rw[q];exact y _ om) (λj b=>by rw[H,a,World.frozen?_setCells];exact t _) G
 rw[←a]at d
 go_enter func73,ntmps73
 go_wp2_with (simp only[O])
 go_region_law_o (refine step_copy_runI rfl _ _ 28 28 rfl _ _ (by simp[Act.eval,Act.put]) (by simp[Act.eval,Act.put]) (d _ _ _) ?_)
 go_wp2_with (at_builtin;refine wpList_copy_runI _ rfl _ _ 28 28 rfl _ _ rfl rfl (r _ (λ_=>rfl) (λ_=>rfl) _ _) ?_)
 go_ret
 first|exact⟨rfl,rfl⟩|exact⟨rfl,by rw[a]⟩
theorem JH:InsG 73 34:=by
 intro g n c i V m s w hi hnc F hn64 zl R C S X Z;obtain⟨i0,O,zq,H,T⟩:=info_parts Tryz.info34;have mixed:prog.follows .mixedOrders=true:=kr
 have hz3:(c:Int)<(n:Int)+1:=om
 have Q:(prog.info? 34).map (·.size)=some 3:=by rw[O];simp[H]
 have zk:g<w.heap.size:=block_lt_of_cell (C 0 _ (lge om));have zp:V<w.heap.size:=block_lt_of_cell (S 0 _ (lge om));have P:(n:Int)+1-(i:Int)=((n+1-i:Nat):Int):=om
 have D:i+(n+1-i)=n+1:=om
 have l:ln (m.take (i*3))=i*3:=by rw[llt];omega
 have y:(Builtin.firstCells i0.size i (sl g 0 i c)).run prog w.drew=.ok (m.take (i*3)).toArray w.drew:=by
  rw[H]
  exact run_firstCells_some w.drew 3 i (Y g 0) i c (m.take (i*3)) l (λj v b=>by
   rw[aal,nza];rw[List.getElem?_take]at b
   split at b
   · exact C j v b
   · cases b)
 have r:∀p,(Builtin.append_ #[28,3] p #[sl g 0 i c,I ((n:Int)+1-(i:Int))]).run prog w=
  .ok (sl w.heap.size 0 (n+1) (grownCap w (n+1) c 34)) (w.drew.alloc (.cells ((m.take (i*3)).toArray++Builtin.zeroCells (Value.agg #[.string ByteArray.empty,I 0,I 0]).cells (n+1-i)++Builtin.zeroCells (Value.agg #[.string ByteArray.empty,I 0,I 0]).cells (grownCap w (n+1) c 34-(n+1))) 34)):=λp=>by
  have h:=Lib.run_append_grow_zeros w 28 3 p 34 i0 _ .i64 .i64 underlying28 underlying3 O zq (some (Y g 0)) i c (m.take (i*3)) y (n+1-i) om (by rw[H];omega) om om (by rw[T];omega) (by rw[T,D];exact growslice_fits F om);rw[D]at h;rw[P];exact h
 obtain⟨G,U⟩:=bQ (grownCap w (n+1) c 34);obtain⟨a,f⟩:=bQ ((m.take (i*3)).toArray++Builtin.zeroCells (Value.agg #[.string ByteArray.empty,I 0,I 0]).cells (n+1-i)++Builtin.zeroCells (Value.agg #[.string ByteArray.empty,I 0,I 0]).cells (G-(n+1)):Array Va);rw[←U]at r;rw[←f]at r;have zf:n+1<=G:=by rw[U];exact grownCap_ge w _ _ _
 have ze:G<=maxLen:=by rw[U];exact grownCap_le_maxLen w (n+1) c _ (by unfold maxLen;omega)
 have A:a.size=G*3:=by
  rw[f]
  simp[Builtin.zeroCells,Value.cells,l]
  omega
 have K:∀j u,(m.take (i*3))[j]?=some u->a.getD j undef=u:=λj u b=>by
  have hjl:j<i*3:=by rw[←l];exact(lgs.1 b).1
  have e:a[j]?=some u:=by
   rw[f,Array.getElem?_append_left (by simp[l];omega),Array.getElem?_append_left (by simp[l];omega)]
   simpa using b
  rw[agd,e];rfl
 have zi:(n+1)*3<=a.size:=by rw[A];omega
 obtain⟨q,k⟩:=bQ (w.drew.alloc (.cells a 34));rw[←k]at r
 have hN:∀j,j<(n+1)*3->(q.cell? (ya w j)).isSome=true:=λj b=>by
  rw[k,World.cell?_alloc_at (w:=w.drew) a _ w.heap.size j rfl,age om];rfl
 have J:∀j,q.frozen? (ya w j)=false:=λj=>by rw[k];exact World.frozen?_alloc_at (w:=w.drew) a _ w.heap.size j rfl
 have zg:∀j v,w.cell? (Y g j)=some v->q.cell? (Y g j)=some v:=λj v h=>by rw[k,World.cell?_alloc_past (w:=w.drew) _ g j zk];exact h
 have zh:∀j v,w.cell? (Y V j)=some v->q.cell? (Y V j)=some v:=λj v h=>by rw[k,World.cell?_alloc_past (w:=w.drew) _ V j zp];exact h
 have zn:Nat.min 1 (n+1-i)=1:=by simp only[Nat.min_def];split<;>omega
 have zm:Nat.min (n-i) (n-i)=n-i:=Nat.min_self _
 have L:∀(W:Wd),(∀x,W.cell? x=q.cell? x)->(∀x,W.frozen? x=q.frozen? x)->∀p z,(Builtin.copy_ #[28,28] p #[sl w.heap.size (i*3) (n+1-i) z,sl V 0 1 1]).run prog W=.ok (goInt (Nat.min 1 (n+1-i))) (W.setCells w.heap.size (i*3) s):=λW o B p z=>
  kP W _ _ p 34 3 w.heap.size (i*3) (n+1-i) z (Y V 0) 1 1 s underlying28 Q (by rw[R,zn])
   (λj v b=>by rw[aal,nza,o];exact zh _ v (S j v b))
   (λj b=>by rw[o];exact hN _ om) (λj b=>by rw[B];exact J _) Z
 have hGi:¬(G=i):=om
 have hGim:¬(G=i+1):=om
 have hci:¬(c=i):=om
 have zj:g≠w.heap.size:=om
 have N:ln (m.drop (i*3))=(n-i)*3:=by rw[lld,zl];omega
 have M:∀(W:Wd),(∀x,W.cell? x=(q.setCells w.heap.size (i*3) s).cell? x)->(∀x,W.frozen? x=(q.setCells w.heap.size (i*3) s).frozen? x)->∀p z sc,(Builtin.copy_ #[28,28] p #[sl w.heap.size ((i+1)*3) (n-i) z,sl g (i*3) (n-i) sc]).run prog W=.ok (goInt (Nat.min (n-i) (n-i))) (W.setCells w.heap.size ((i+1)*3) (m.drop (i*3))):=λW o B p z sc=>
  kP W _ _ p 34 3 w.heap.size ((i+1)*3) (n-i) z (Y g (i*3)) (n-i) sc (m.drop (i*3)) underlying28 Q (by rw[N,zm])
   (λj v b=>by
    rw[aal,o,World.cell?_setCells_out _ _ _ _ _ (λh _=>absurd h zj)]
    exact zg _ v (C (i*3+j) v (by rwa[List.getElem?_drop]at b)))
   (λj b=>by rw[o];exact isSome_setCells _ s (i*3) q (λt ht=>hN _ (by rw[R]at ht;omega)) _ (hN _ (by rw[N]at b;omega)))
   (λj b=>by rw[B,World.frozen?_setCells];exact J _) (λv hv=>X v (lmd hv))
 subst k;have za:∀x,((w.alloc (.cells a 34)).drew).cell? x=(w.drew.alloc (.cells a 34)).cell? x:=λx=>rfl;have zb:∀x,((w.alloc (.cells a 34)).drew).frozen? x=(w.drew.alloc (.cells a 34)).frozen? x:=λx=>rfl;have zc:∀x,(((w.alloc (.cells a 34)).drew.setCells w.heap.size (i*3) s).drew).cell? x=((w.drew.alloc (.cells a 34)).setCells w.heap.size (i*3) s).cell? x:=λx=>rfl;have zd:∀x,(((w.alloc (.cells a 34)).drew.setCells w.heap.size (i*3) s).drew).frozen? x=((w.drew.alloc (.cells a 34)).setCells w.heap.size (i*3) s).frozen? x:=λx=>rfl;have hw1:IntKind.i64.wrap ((i:Int)+1)=(i:Int)+1:=by rw[IntKind.wrap_i64];omega
 have hb1:(0:Int)<=(i:Int)+1:=om
 have htn:((i:Int)+1).toNat=i+1:=om
 have hb3:(i:Int)<=(n:Int):=om
 have d:Hid (n+1<=G/\G<=maxLen/\a.size=G*3/\(∀j u,(m.take (i*3))[j]?=some u->a.getD j undef=u)):=⟨zf,ze,A,K⟩;clear P D y f U zi A K l
 go_enter func73,ntmps73
 go_wp2_with (first
  |(at_builtin;refine Lib.wpList_append_run _ rfl _ _ _ _ rfl _ _ rfl rfl _ _ (r _) ?_)
  |(at_builtin;refine wpList_copy_runI _ rfl _ _ 28 28 rfl _ _ rfl rfl (L _ za zb _ _) ?_))
 go_region_law_o (refine step_copy_runI rfl _ _ 28 28 rfl (sl w.heap.size ((i+1)*3) (n-i) (G-(i+1))) (sl g (i*3) (n-i) (c-i)) (by simp[Act.eval,Act.put]) (by simp[Act.eval,Act.put]) (M _ zc zd 3 (G-(i+1)) (c-i)) ?_)
 go_wp2
 go_ret;exact⟨G,a,d.oQ.1,d.oQ.2.1,d.oQ.2.2.1,d.oQ.2.2.2,rfl,rfl⟩
theorem yX:InsE 73 34:=by
 intro z n c V ha cs D w hn64 hc63 l s G f m i;obtain⟨C,k,p,r,q⟩:=info_parts Tryz.info34
 cases ha with
 |none=>
  obtain⟨rfl,rfl⟩:n=0/\c=0:=by
   obtain⟨_,⟨e,h⟩|⟨g,y,A,e,_⟩⟩:=f
   ·cases e;exact⟨rfl,rfl⟩
   ·cases e
  go_enter func73,ntmps73
  go_wp2_with (at_builtin;refine wpList_append_own _ rfl (.tmp 23) (.tmp 24) 28 rfl z 34 C _ 3 32 underlying28 k p r q rfl dz _ _ _ rfl f (Y V 0) 1 1 D rfl l ?qc1 i ?qc3 ?qc4 s ?_)
  case qc1=>exact λj v x=>by rw[aal,nza];exact m j v x
  case qc3=>unfold maxLen;omega
  case qc4=>omega
  intro F w1 d b _;have u:Hid _:=d;have t:Hid _:=b;clear d b f;go_wp2
  go_ret;exact⟨_,rfl,u.oQ,t.oQ⟩
 |some a=>
  obtain⟨g,o,sp⟩:=a;obtain⟨rfl,rfl⟩:=G _ rfl
  by_cases B:c=n
  ·subst B
   go_enter func73,ntmps73
   go_wp2_with (at_builtin;refine wpList_append_own _ rfl (.tmp 23) (.tmp 24) 28 rfl z 34 C _ 3 32 underlying28 k p r q rfl dz _ _ _ rfl f (Y V 0) 1 1 D rfl l ?qc1 i ?qc3 ?qc4 s ?_)
   case qc1=>exact λj v x=>by rw[aal,nza];exact m j v x
   case qc3=>unfold maxLen;omega
   case qc4=>omega
   intro F w1 d b _;have u:Hid _:=d;have t:Hid _:=b;clear d b f;go_wp2
   go_ret;exact⟨_,rfl,u.oQ,t.oQ⟩
  ·have hle:n<=c:=by
    obtain⟨_,⟨e,h⟩|⟨g,y,A,e,_,_,h,_⟩⟩:=f
    ·cases e
    ·cases e;exact h
   go_enter func73,ntmps73
   go_wp2_with (at_builtin;refine wpList_append_own _ rfl (.tmp 23) (.tmp 24) 28 rfl z 34 C _ 3 32 underlying28 k p r q rfl dz _ _ _ rfl f (Y V 0) 1 1 D rfl l ?qc1 i ?qc3 ?qc4 s ?_)
   case qc1=>exact λj v x=>by rw[aal,nza];exact m j v x
   case qc3=>unfold maxLen;omega
   case qc4=>omega
   intro F w1 d b _;have u:Hid _:=d;have t:Hid _:=b;clear d b f;go_wp2
   go_ret;exact⟨_,rfl,u.oQ,t.oQ⟩
abbrev L9:=@insert_gen Fx Fx.cells 73 34 EM JH yX Fx.cells_length oK
