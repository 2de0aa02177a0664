import Derived.Shelf.Spec.SlicesInsertGrow
import Derived.Test.YtoolgmmljacfmaaGreatDoorFa
import Derived.Deep.DeepCutAuto
import Derived.Deep.CutBlock
set_option maxRecDepth 100000
set_option maxHeartbeats 16000000
open List renaming length → ln
open Go.Proofs.Tryz Go.RowKit
namespace Go.Proofs.YtoolgmmljacfmaaGreatDoor
open Go.Shelf Go.Lib
variable {P:Program}{g t N:Nat}{w:Wd}{f:Nat → Va}{a e:List Va}
def InsS (f:Nat):Prop:=
 ∀(g n c i V:Nat) (cs xc:List Value) (w:World),i<n->n+1<=c->c<=9223372036854775807->V≠g->cs.length=n*3->xc.length=3->(∀j v,cs[j]?=some v->w.cell? (Y g j)=some v)->(∀j,j<(n+1)*3->(w.cell? (Y g j)).isSome=true)->(∀j,w.frozen? (Y g j)=false)->(∀j v,xc[j]?=some v->w.cell? (Y V j)=some v)->(∀v∈cs,v.oneCell'=true)->(∀v∈xc,v.oneCell'=true)->∀(tA tB:TypeId) (kA kB:Nat),w.shape? V=some (tA,kA)->w.shape? g=some (tB,kB)->kB≠0->(∀j,w.frozen? (Y V j)=false)->
  aW f #[.slice (some (Y g 0)) n c,I i,.slice (some (Y V 0)) 1 1] w λe w'=>
   e=rt (.slice (some (Y g 0)) (n+1) c)/\w'=(w.drew.setCells g ((i+1)*3) (cs.drop (i*3))).setCells g (i*3) xc
def InsG (f T:Nat):Prop:=
 ∀(g n c i V:Nat) (cs xc:List Value) (w:World),i<n->n<=c->c<n+1->n<=64->cs.length=n*3->xc.length=3->(∀j v,cs[j]?=some v->w.cell? (Y g j)=some v)->(∀j v,xc[j]?=some v->w.cell? (Y V j)=some v)->(∀v∈cs,v.oneCell'=true)->(∀v∈xc,v.oneCell'=true)->
  aW f #[.slice (some (Y g 0)) n c,I i,.slice (some (Y V 0)) 1 1] w λe w'=>
   ∃G ROW,n+1<=G/\G<=maxLen/\ROW.size=G*3/\(∀j u,(cs.take (i*3))[j]?=some u->ROW.getD j undef=u)/\e=rt (.slice (some (Y w.heap.size 0)) (n+1) G)/\
   w'=(((w.alloc (.cells ROW T)).drew.setCells w.heap.size (i*3) xc).drew).setCells w.heap.size ((i+1)*3) (cs.drop (i*3))
def InsE (f T:Nat):Prop:=
 ∀(z n c V:Nat) (ha:Option Addr) (cs xc:List Value) (w:World),n<=64->c<=9223372036854775807->xc.length=3->z<=w.heap.size->(∀a,ha=some a->a.off=0/\a.spot=none)->w.ownsRow z T 3 (.slice ha n c) n cs->(∀j v,xc[j]?=some v->w.cell? (Y V j)=some v)->(∀v∈xc,v.oneCell'=true)->
  aW f #[.slice ha n c,I n,.slice (some (Y V 0)) 1 1] w λe w'=>
   ∃v',e=rt v'/\w'.ownsRow z T 3 v' (n+1) (cs++xc)/\w.grownBy w' (Value.slice ha n c).ownBlock
theorem kP (w:Wd)(m y z d:TypeId)(sz b o c g:Nat)(a:Addr)(e k:Nat)(f:List Va)
 (x:P.underlying m=some (.slice d))(p:(P.info? d).map (·.size)=some sz)(u:ln f=Nat.min e c*sz)
 (h:∀j v,f[j]?=some v->w.cell? (a.add j)=some v)(r:∀j,j<ln f->(w.cell? (Y b (o+j))).isSome=true)(s:∀j,j<ln f->w.frozen? (Y b (o+j))=false)(q:∀v∈f,v.oneCell'=true):
 (Builtin.copy_ #[m,y] z #[.slice (some (Y b o)) c g,.slice (some a) e k]).run P w=.ok (goInt (Nat.min e c)) (w.setCells b o f):=by
 have n:=run_loadCells_list (P:=P) w a f h;have l:=run_storeCells_cells (P:=P) b o f 0 w (by simpa using r) (by simpa using s) q;rw[u]at n
 cases hq:P.info? d with
 |none=>simp[hq]at p
 |some i=>
  have t:i.size=sz:=by simpa[hq]using p
  simp[Builtin.copy_,run_underlying x,Builtin.lenOf,Builtin.firstCells,sizeOf,typeInfo,hq,t,n,l]
theorem IN:InsS 160:=by
 intro g n c i V p X w hi hroom hc63 A J R K m t S F G tA tB U kB P Q L s;obtain⟨i0,u,hz0,B,hzb⟩:=info_parts Tryz.info74;have mixed:prog.follows .mixedOrders=true:=kr
 have z:(prog.info? 74).map (·.size)=some 3:=by rw[u];simp[B]
 have O:∀lb D,(callFunc 217 #[sl V 0 1 1,sl g ((i+1)*3) lb D]).run prog w=.ok (.value (.bool false)) w:=λlb D=>by
  rw[rce func217 kr kr kr (e:=Extern.SlicesOverlaps.overlaps #[30,30] #[4]) kr,
   Lib.run_overlaps_apart w 30 4 74 underlying30 3 (λw=>by simp[Go.sizeOf,typeInfo,u,B]) (Y V 0) (Y g ((i+1)*3)) 1 1 lb D A tA tB U kB P Q L (s 0) (s U)]
  rfl
 have hw1:IntKind.i64.wrap ((i:Int)+1)=(i:Int)+1:=by rw[IntKind.wrap_i64];omega
 have hw2:IntKind.i64.wrap ((n:Int)+1)=(n:Int)+1:=by rw[IntKind.wrap_i64];omega
 have hb1:(0:Int)<=(i:Int)+1:=om
 have hin:i<=n:=om
 have htn:((i:Int)+1).toNat=i+1:=om
 have hb2:¬(c=i+1):=om
 have hb3:(i:Int)<=(n:Int)+1:=om
 have hb4:¬(c=i):=om
 have l:ln (p.drop (i*3))=(n-i)*3:=by rw[lld,J];omega
 have M:Nat.min (n+1-i) (n-i)=n-i:=by simp only[Nat.min_def];split<;>omega
 have N:Nat.min 1 (n+1-i)=1:=by simp only[Nat.min_def];split<;>omega
 have d:∀o f T,(Builtin.copy_ #[30,30] o #[sl g ((i+1)*3) (n-i) f,sl g (i*3) (n+1-i) T]).run prog w.drew=.ok (goInt (Nat.min (n+1-i) (n-i))) (w.drew.setCells g ((i+1)*3) (p.drop (i*3))):=λo f T=>
  kP w.drew _ _ o 74 3 g ((i+1)*3) (n-i) f (Y g (i*3)) (n+1-i) T (p.drop (i*3)) underlying30 z (by rw[l,M])
   (λj v b=>by rw[aal];exact K (i*3+j) v (by rwa[List.getElem?_drop]at b))
   (λj b=>m _ (by rw[l]at b;omega)) (λj b=>t _) (λv hv=>F v (lmd hv))
 obtain⟨C,a⟩:=bQ (w.drew.setCells g ((i+1)*3) (p.drop (i*3)))
 have y:∀k,k<(n+1)*3->(C.cell? (Y g k)).isSome=true:=λk Z=>by
  rw[a];exact isSome_setCells g (p.drop (i*3)) ((i+1)*3) w.drew (λj b=>m _ (by rw[l]at b;omega)) _ (m k Z)
 have r:∀(W:Wd),(∀x,W.cell? x=C.cell? x)->(∀x,W.frozen? x=C.frozen? x)->∀o f,(Builtin.copy_ #[30,30] o #[sl g (i*3) (n+1-i) f,sl V 0 1 1]).run prog W=.ok (goInt (Nat.min 1 (n+1-i))) (W.setCells g (i*3) X):=λW q H o f=>
  kP W _ _ o 74 3 g (i*3) (n+1-i) f (Y V 0) 1 1 X underlying30 z (by rw[R,N])
   (λj v b=>by
    rw[aal,q,a,World.cell?_setCells_out g _ _ _ _ (λh _=>absurd h A),nza]
    exact S j v b)
   (λj b=>by rw[q];exact y _ om) (λj b=>by rw[H,a,World.frozen?_setCells];exact t _) G
 rw[←a]at d
 go_enter func160,ntmps160
 go_wp2_with (simp only[O])
 go_region_law_o (refine step_copy_runI rfl _ _ 30 30 rfl _ _ (by simp[Act.eval,Act.put]) (by simp[Act.eval,Act.put]) (d _ _ _) ?_)
 go_wp2_with (at_builtin;refine wpList_copy_runI _ rfl _ _ 30 30 rfl _ _ rfl rfl (r _ (λ_=>rfl) (λ_=>rfl) _ _) ?_)
 go_ret
 first|exact⟨rfl,rfl⟩|exact⟨rfl,by rw[a]⟩
theorem eK:∀(a:List Va) (o:Nat) (w:Wd) (f:Nat->Va),w.rowIs g t N f->(w.setCells g o a).rowIs g t N (λj=>if o<=j/\j<o+ln a then a.getD (j-o) undef else f j)
 |[],o,w,f,h=>by
  have e:(λj=>if o<=j/\j<o+ln ([]:List Va)then([]:List Va).getD (j-o) undef else f j)=f:=by
   funext j;rw[if_neg sm]
  rw[e];exact h
 |v::r,o,w,f,h=>by
  have d:=eK r (o+1) _ _ (h.set o v)
  have e:(λj=>if o+1<=j/\j<o+1+ln r then r.getD (j-(o+1)) undef else(if j=o then v else f j))=(λj=>if o<=j/\j<o+ln (v::r)then(v::r).getD (j-o) undef else f j):=by
   funext j;by_cases b:j=o
   ·subst b;rw[if_neg om,if_pos rfl,if_pos sm];simp
   ·by_cases c:o+1<=j/\j<o+1+ln r
    ·rw[if_pos c,if_pos so];obtain⟨k,rfl⟩:∃k,j=o+1+k:=⟨j-(o+1),om⟩;rw[show o+1+k-(o+1)=k by omega,show o+1+k-o=k+1 by omega];simp
    ·rw[if_neg c,if_neg b,if_neg so]
  rw[e]at d;exact d
theorem lK {z g t sz n c:Nat}{xs:List Va}(h:w.rowIs g t (c*sz) f)(p:z<=g)(d:n<=c)(e:c<=maxLen)(m:ln xs=n*sz)(hx:∀j u,xs[j]?=some u->f j=u):w.ownsRow z t sz (.slice (some (Y g 0)) n c) n xs:=by
 obtain⟨b,k,o,i⟩:=h;have hle:n*sz<=c*sz:=Nat.mul_le_mul_right _ d;refine⟨m,.inr ⟨g,c,b,rfl,p,k,d,e,o,?_⟩⟩;apply List.ext_getElem?;intro j;by_cases l:j<n*sz
 ·rw[ltg l,Array.getElem?_toList,i j om];have a:j<ln xs:=om;rw[lge a];rw[hx j xs[j] (lge a)]
 ·rw[List.getElem?_eq_none (by rw[llt];omega),List.getElem?_eq_none om]
theorem AC (hi:N<=t)(g:ln a=t*3)(d:ln e=3){f h:Nat->Va}(p:∀j u,a[j]?=some u->f j=u)
 (q:∀j,j<(t+1)*3->h j=if N*3<=j/\j<N*3+3 then e.getD (j-N*3) undef else if(N+1)*3<=j/\j<(N+1)*3+(t-N)*3 then(a.drop (N*3)).getD (j-(N+1)*3) undef else f j):
 ∀j u,(a.take (N*3)++(e++a.drop (N*3)))[j]?=some u->h j=u:=by
 intro j u b;have c:ln (a.take (N*3)++(e++a.drop (N*3)))=(t+1)*3:=by simp[g,d];omega
 have k:j<(t+1)*3:=by rw[←c];exact(lgs.1 b).1
 have l:ln (a.take (N*3))=N*3:=by rw[llt];omega
 rw[q j k];by_cases m:j<N*3
 ·rw[if_neg om,if_neg om];rw[lgl om,ltg m]at b;exact p j u b
 ·rw[lgr om,l]at b;by_cases o:j<N*3+3
  ·rw[if_pos ⟨om,o⟩];rw[lgl om]at b;rw[List.getD_eq_getElem?_getD,b];rfl
  ·rw[if_neg om,if_pos ⟨om,om⟩];rw[lgr om,d]at b;rw[show j-(N+1)*3=j-N*3-3 by omega,List.getD_eq_getElem?_getD,b];rfl
theorem J8:InsG 160 74:=by
 intro g n c i V m s w hi hnc F hn64 zl R C S X Z;obtain⟨i0,O,zq,H,T⟩:=info_parts Tryz.info74;have mixed:prog.follows .mixedOrders=true:=kr
 have hz3:(c:Int)<(n:Int)+1:=om
 have Q:(prog.info? 74).map (·.size)=some 3:=by rw[O];simp[H]
 have zk:g<w.heap.size:=block_lt_of_cell (C 0 _ (lge om));have zp:V<w.heap.size:=block_lt_of_cell (S 0 _ (lge om));have P:(n:Int)+1-(i:Int)=((n+1-i:Nat):Int):=om
 have D:i+(n+1-i)=n+1:=om
 have l:ln (m.take (i*3))=i*3:=by rw[llt];omega
 have y:(Builtin.firstCells i0.size i (sl g 0 i c)).run prog w.drew=.ok (m.take (i*3)).toArray w.drew:=by
  rw[H]
  exact run_firstCells_some w.drew 3 i (Y g 0) i c (m.take (i*3)) l (λj v b=>by
   rw[aal,nza];rw[List.getElem?_take]at b
   split at b
   · exact C j v b
   · cases b)
 have r:∀p,(Builtin.append_ #[30,3] p #[sl g 0 i c,I ((n:Int)+1-(i:Int))]).run prog w=
  .ok (sl w.heap.size 0 (n+1) (grownCap w (n+1) c 74)) (w.drew.alloc (.cells ((m.take (i*3)).toArray++Builtin.zeroCells (Value.agg #[.string ByteArray.empty,ms,ms]).cells (n+1-i)++Builtin.zeroCells (Value.agg #[.string ByteArray.empty,ms,ms]).cells (grownCap w (n+1) c 74-(n+1))) 74)):=λp=>by
  have h:=Lib.run_append_grow_zeros w 30 3 p 74 i0 _ .i64 .i64 underlying30 underlying3 O zq (some (Y g 0)) i c (m.take (i*3)) y (n+1-i) om (by rw[H];omega) om om (by rw[T];omega) (by rw[T,D];exact growslice_fits F om);rw[D]at h;rw[P];exact h
 obtain⟨G,U⟩:=bQ (grownCap w (n+1) c 74);obtain⟨a,f⟩:=bQ ((m.take (i*3)).toArray++Builtin.zeroCells (Value.agg #[.string ByteArray.empty,ms,ms]).cells (n+1-i)++Builtin.zeroCells (Value.agg #[.string ByteArray.empty,ms,ms]).cells (G-(n+1)):Array Va);rw[←U]at r;rw[←f]at r;have zf:n+1<=G:=by rw[U];exact grownCap_ge w _ _ _
 have ze:G<=maxLen:=by rw[U];exact grownCap_le_maxLen w (n+1) c _ (by unfold maxLen;omega)
 have A:a.size=G*3:=by
  rw[f]
  simp[Builtin.zeroCells,Value.cells,l]
  omega
 have K:∀j u,(m.take (i*3))[j]?=some u->a.getD j undef=u:=λj u b=>by
  have hjl:j<i*3:=by rw[←l];exact(lgs.1 b).1
  have e:a[j]?=some u:=by
   rw[f,Array.getElem?_append_left (by simp[l];omega),Array.getElem?_append_left (by simp[l];omega)]
   simpa using b
  rw[agd,e];rfl
 have zi:(n+1)*3<=a.size:=by rw[A];omega
 obtain⟨q,k⟩:=bQ (w.drew.alloc (.cells a 74));rw[←k]at r
 have hN:∀j,j<(n+1)*3->(q.cell? (ya w j)).isSome=true:=λj b=>by
  rw[k,World.cell?_alloc_at (w:=w.drew) a _ w.heap.size j rfl,age om];rfl
 have J:∀j,q.frozen? (ya w j)=false:=λj=>by rw[k];exact World.frozen?_alloc_at (w:=w.drew) a _ w.heap.size j rfl
 have zg:∀j v,w.cell? (Y g j)=some v->q.cell? (Y g j)=some v:=λj v h=>by rw[k,World.cell?_alloc_past (w:=w.drew) _ g j zk];exact h
 have zh:∀j v,w.cell? (Y V j)=some v->q.cell? (Y V j)=some v:=λj v h=>by rw[k,World.cell?_alloc_past (w:=w.drew) _ V j zp];exact h
 have zn:Nat.min 1 (n+1-i)=1:=by simp only[Nat.min_def];split<;>omega
 have zm:Nat.min (n-i) (n-i)=n-i:=Nat.min_self _
 have L:∀(W:Wd),(∀x,W.cell? x=q.cell? x)->(∀x,W.frozen? x=q.frozen? x)->∀p z,(Builtin.copy_ #[30,30] p #[sl w.heap.size (i*3) (n+1-i) z,sl V 0 1 1]).run prog W=.ok (goInt (Nat.min 1 (n+1-i))) (W.setCells w.heap.size (i*3) s):=λW o B p z=>
  kP W _ _ p 74 3 w.heap.size (i*3) (n+1-i) z (Y V 0) 1 1 s underlying30 Q (by rw[R,zn])
   (λj v b=>by rw[aal,nza,o];exact zh _ v (S j v b))
   (λj b=>by rw[o];exact hN _ om) (λj b=>by rw[B];exact J _) Z
 have hGi:¬(G=i):=om
 have hGim:¬(G=i+1):=om
 have hci:¬(c=i):=om
 have zj:g≠w.heap.size:=om
 have N:ln (m.drop (i*3))=(n-i)*3:=by rw[lld,zl];omega
 have M:∀(W:Wd),(∀x,W.cell? x=(q.setCells w.heap.size (i*3) s).cell? x)->(∀x,W.frozen? x=(q.setCells w.heap.size (i*3) s).frozen? x)->∀p z sc,(Builtin.copy_ #[30,30] p #[sl w.heap.size ((i+1)*3) (n-i) z,sl g (i*3) (n-i) sc]).run prog W=.ok (goInt (Nat.min (n-i) (n-i))) (W.setCells w.heap.size ((i+1)*3) (m.drop (i*3))):=λW o B p z sc=>
  kP W _ _ p 74 3 w.heap.size ((i+1)*3) (n-i) z (Y g (i*3)) (n-i) sc (m.drop (i*3)) underlying30 Q (by rw[N,zm])
   (λj v b=>by
    rw[aal,o,World.cell?_setCells_out _ _ _ _ _ (λh _=>absurd h zj)]
    exact zg _ v (C (i*3+j) v (by rwa[List.getElem?_drop]at b)))
   (λj b=>by rw[o];exact isSome_setCells _ s (i*3) q (λt ht=>hN _ (by rw[R]at ht;omega)) _ (hN _ (by rw[N]at b;omega)))
   (λj b=>by rw[B,World.frozen?_setCells];exact J _) (λv hv=>X v (lmd hv))
 subst k;have za:∀x,((w.alloc (.cells a 74)).drew).cell? x=(w.drew.alloc (.cells a 74)).cell? x:=λx=>rfl;have zb:∀x,((w.alloc (.cells a 74)).drew).frozen? x=(w.drew.alloc (.cells a 74)).frozen? x:=λx=>rfl;have zc:∀x,(((w.alloc (.cells a 74)).drew.setCells w.heap.size (i*3) s).drew).cell? x=((w.drew.alloc (.cells a 74)).setCells w.heap.size (i*3) s).cell? x:=λx=>rfl;have zd:∀x,(((w.alloc (.cells a 74)).drew.setCells w.heap.size (i*3) s).drew).frozen? x=((w.drew.alloc (.cells a 74)).setCells w.heap.size (i*3) s).frozen? x:=λx=>rfl;have hw1:IntKind.i64.wrap ((i:Int)+1)=(i:Int)+1:=by rw[IntKind.wrap_i64];omega
 have hb1:(0:Int)<=(i:Int)+1:=om
 have htn:((i:Int)+1).toNat=i+1:=om
 have hb3:(i:Int)<=(n:Int):=om
 have d:Hid (n+1<=G/\G<=maxLen/\a.size=G*3/\(∀j u,(m.take (i*3))[j]?=some u->a.getD j undef=u)):=⟨zf,ze,A,K⟩;clear P D y f U zi A K l
 go_enter func160,ntmps160
 go_wp2_with (first
  |(at_builtin;refine Lib.wpList_append_run _ rfl _ _ _ _ rfl _ _ rfl rfl _ _ (r _) ?_)
  |(at_builtin;refine wpList_copy_runI _ rfl _ _ 30 30 rfl _ _ rfl rfl (L _ za zb _ _) ?_))
 go_region_law_o (refine step_copy_runI rfl _ _ 30 30 rfl (sl w.heap.size ((i+1)*3) (n-i) (G-(i+1))) (sl g (i*3) (n-i) (c-i)) (by simp[Act.eval,Act.put]) (by simp[Act.eval,Act.put]) (M _ zc zd 3 (G-(i+1)) (c-i)) ?_)
 go_wp2
 go_ret;exact⟨G,a,d.oQ.1,d.oQ.2.1,d.oQ.2.2.1,d.oQ.2.2.2,rfl,rfl⟩
theorem CO:InsE 160 74:=by
 intro z n c V ha cs D w hn64 hc63 l s G f m i;obtain⟨C,k,p,r,q⟩:=info_parts Tryz.info74
 cases ha with
 |none=>
  obtain⟨rfl,rfl⟩:n=0/\c=0:=by
   obtain⟨_,⟨e,h⟩|⟨g,y,A,e,_⟩⟩:=f
   ·cases e;exact⟨rfl,rfl⟩
   ·cases e
  go_enter func160,ntmps160
  go_wp2_with (at_builtin;refine wpList_append_own _ rfl (.tmp 23) (.tmp 24) 30 rfl z 74 C _ 3 64 underlying30 k p r q rfl dz _ _ _ rfl f (Y V 0) 1 1 D rfl l ?qc1 i ?qc3 ?qc4 s ?_)
  case qc1=>exact λj v x=>by rw[aal,nza];exact m j v x
  case qc3=>unfold maxLen;omega
  case qc4=>omega
  intro F w1 d b _;have u:Hid _:=d;have t:Hid _:=b;clear d b f;go_wp2
  go_ret;exact⟨_,rfl,u.oQ,t.oQ⟩
 |some a=>
  obtain⟨g,o,sp⟩:=a;obtain⟨rfl,rfl⟩:=G _ rfl
  by_cases B:c=n
  ·subst B
   go_enter func160,ntmps160
   go_wp2_with (at_builtin;refine wpList_append_own _ rfl (.tmp 23) (.tmp 24) 30 rfl z 74 C _ 3 64 underlying30 k p r q rfl dz _ _ _ rfl f (Y V 0) 1 1 D rfl l ?qc1 i ?qc3 ?qc4 s ?_)
   case qc1=>exact λj v x=>by rw[aal,nza];exact m j v x
   case qc3=>unfold maxLen;omega
   case qc4=>omega
   intro F w1 d b _;have u:Hid _:=d;have t:Hid _:=b;clear d b f;go_wp2
   go_ret;exact⟨_,rfl,u.oQ,t.oQ⟩
  ·have hle:n<=c:=by
    obtain⟨_,⟨e,h⟩|⟨g,y,A,e,_,_,h,_⟩⟩:=f
    ·cases e
    ·cases e;exact h
   go_enter func160,ntmps160
   go_wp2_with (at_builtin;refine wpList_append_own _ rfl (.tmp 23) (.tmp 24) 30 rfl z 74 C _ 3 64 underlying30 k p r q rfl dz _ _ _ rfl f (Y V 0) 1 1 D rfl l ?qc1 i ?qc3 ?qc4 s ?_)
   case qc1=>exact λj v x=>by rw[aal,nza];exact m j v x
   case qc3=>unfold maxLen;omega
   case qc4=>omega
   intro F w1 d b _;have u:Hid _:=d;have t:Hid _:=b;clear d b f;go_wp2
   go_ret;exact⟨_,rfl,u.oQ,t.oQ⟩
theorem eJ (g:Nat):∀(d:List Va) (o:Nat) (w:Wd),w.grownBy (w.setCells g o d) (some g)
 |[],_,w=>⟨rfl,rfl,rfl,nlq _,λ_ _ _=>rfl⟩
 |v::r,o,w=>by
  have h:=eJ g r (o+1) (w.setCell (Y g o) v);have c:(w.setCell (Y g o) v).heap.size=w.heap.size:=by simp
  refine⟨h.os,h.tape,h.output,by have:=h.size;rw[c]at this;exact this,λk b a=>?_⟩;refine(h.block k (by rw[c];exact b) a).trans ?_;exact((aU.refl (λq=>q=g) w).set (g:=g) rfl o v).block k b (λe=>a (by rw[e]))
theorem WU {α:Type}{a:α->List Va}(b:∀x,ln (a x)=3)(l:List α)(x:α)(i:Nat)(hi:i<=ln l):aJ a (l.take i++x::l.drop i)=(aJ a l).take (i*3)++(a x++(aJ a l).drop (i*3)):=by
 have h:=List.take_append_drop i l;have c:ln (aJ a (l.take i))=i*3:=by rw[cP b,llt];congr 1;omega
 have e:aJ a l=aJ a (l.take i)++aJ a (l.drop i):=by rw[←eL,h]
 have d:(aJ a l).take (i*3)=aJ a (l.take i):=by rw[e,←c];exact List.take_left
 have f:(aJ a l).drop (i*3)=aJ a (l.drop i):=by rw[e,←c];exact List.drop_left
 rw[d,f,eL];simp[aJ]
theorem insert_gen {α:Type}{b:α->List Va}{kf T:Nat}(hS:InsS kf)(hG:InsG kf T)(hE:InsE kf T)(d:∀x,ln (b x)=3)(r:∀x,∀v∈b x,v.oneCell'=true)(z:Nat)(l:List α)(ha:Oa)(B i V:Nat)(x:α)(w:Wd)(hO:bW T 3 b w z (.slice ha (ln l) B) l)(D:B<=maxLen)(hi:i<=ln l)(hn:ln l<=64)
 (Z:w.heap[V]?=some (.cells (b x).toArray T))(W:z<=w.heap.size):
 aW kf #[.slice ha (ln l) B,I i,.slice (some (Y V 0)) 1 1] w λe w'=>
  ∃P J,e=rt (.slice P (ln l+1) J)/\bW T 3 b w' z (.slice P (ln l+1) J) (l.take i++x::l.drop i)/\J<=maxLen/\aU (λk=>ha.map Addr.block=some k) w w':=by
 have y:ln (l.take i++x::l.drop i)=ln l+1:=by simp;omega
 have L:∀j v,(b x)[j]?=some v->w.cell? (Y V j)=some v:=λj v p=>aB Z (by simpa using p)
 have t:∀(O:Va) (w':Wd),w'.ownsRow z T 3 O (ln l+1) (aJ b (l.take i++x::l.drop i))->(w.grownBy w' (ha.map Addr.block))->∃P J,Ending.returned O=rt (.slice P (ln l+1) J)/\bW T 3 b w' z (.slice P (ln l+1) J) (l.take i++x::l.drop i)/\J<=maxLen/\aU (λk=>ha.map Addr.block=some k) w w':=λO w' H K=>by
  have hX:bW T 3 b w' z O (l.take i++x::l.drop i):=iV d (by rw[y];exact H);obtain⟨P,J,e⟩:=hX.slice;rw[y]at e;subst e;exact⟨P,J,rfl,hX,jY H _ _ _ rfl,⟨K.os,K.tape,K.output,K.size,λk M zi=>K.block k M (λe=>zi e.symm)⟩⟩
 have hnil:∀{w:Wd} {n c:Nat} {cs:List Va},w.ownsRow z T 3 (.slice ha n c) n cs->(Value.slice ha n c).ownBlock=ha.map Addr.block:=λ_=>by cases ha<;>rfl
 have o:=WU d l x i hi;rcases hO with⟨e,rfl⟩|⟨g,cap,e,h1,h2,f,N,hf⟩
 ·cases e;obtain rfl:i=0:=by simpa using hi
  refine(hE z 0 0 V none [] (b x) w om om (d x) W (λa e=>by cases e) (won _ _ _ _) L (r x)).mono ?_;rintro e w' ⟨O,rfl,H,K⟩;exact t O w' (by rw[o];simpa[aJ]using H) K
 ·cases e
  have Q:∀j u,(aJ b l)[j]?=some u->w.cell? (Y g j)=some u:=λj u p=>by
   have hx:=gD.xs (⟨f,N,hf⟩:gD T 3 b w g B l (ln l)) d (nlq _) h2;rcases hx with e|⟨bl,off,e,zd⟩;·rw[e]at p;simp[aJ]at p
   ·cases e;have:=nA d dz zd j u p;rwa[aal,nza]at this
  have q:=cP d l
  have S:∀j u,(aJ b l)[j]?=some u->f j=u:=λj u p=>by
   have h3:=Q j u p;have hjl:j<ln l*3:=by rw[←q];exact(lgs.1 p).1
   rw[N.cell (i:=j) om]at h3;exact osi h3
  have X:=iP r l;have zb:B<=9223372036854775807:=by unfold maxLen at D;omega
  by_cases ze:i=ln l
  ·subst ze;refine(hE z (ln l) B V (some (Y g 0)) (aJ b l) (b x) w hn zb (d x) W (λa e=>by cases e;exact⟨rfl,rfl⟩) (lK N h1 h2 D q S) L (r x)).mono ?_;rintro e w' ⟨O,rfl,H,K⟩;refine t O w' ?_ K;rw[o,ltl om,List.drop_eq_nil_of_le om,List.append_nil];exact H
  ·have za:i<ln l:=om;by_cases F:ln l+1<=B
   ·have zg:V≠g:=λe=>by
     obtain⟨zc,e1,e2,_⟩:=N;rw[e,e1]at Z;cases Z;simp[d]at e2;omega
    have zf:w.shape? g=some (T,B*3):=by
     obtain⟨zc,e1,e2,_⟩:=N;simp[World.shape?,e1,e2]
    refine(hS g (ln l) B i V (aJ b l) (b x) w za F zb zg q (d x) Q (λj p=>by rw[N.cell (i:=j) om];rfl) (λj=>N.frozen j) L X (r x) T T 3 (B*3) (by simp[World.shape?,Z,d]) zf om (λj=>by simp[World.frozen?,Z])).mono ?_;rintro e w' ⟨rfl,rfl⟩;have r0:w.drew.rowIs g T (B*3) f:=N;have r1:=eK ((aJ b l).drop (i*3)) ((i+1)*3) _ _ r0;have r2:=eK (b x) (i*3) _ _ r1;have R:ln ((aJ b l).drop (i*3))=(ln l-i)*3:=by rw[lld,q];omega
    have H:=lK (z:=z) (n:=ln l+1) (xs:=aJ b (l.take i++x::l.drop i)) r2 h1 F D (by rw[cP d,y]) (by
     rw[o];exact AC hi q (d x) S (λj p=>by rw[R,d]))
    refine t _ _ H ?_;have A:=eJ g ((aJ b l).drop (i*3)) ((i+1)*3) w.drew;have C:=eJ g (b x) (i*3) (w.drew.setCells g ((i+1)*3) ((aJ b l).drop (i*3)));exact⟨C.os.trans A.os,C.tape.trans A.tape,C.output.trans A.output,nlt A.size C.size,λk M U=>(C.block k (nll M A.size) U).trans (A.block k M U)⟩
   ·refine(hG g (ln l) B i V (aJ b l) (b x) w za h2 om hn q (d x) Q L X (r x)).mono ?_;rintro e w' ⟨G,m,q1,q2,q3,q4,rfl,rfl⟩;have r0:(w.alloc (.cells m T)).drew.rowIs w.heap.size T (G*3) (λj=>m.getD j undef):=⟨m,wnq w _,q3,λj p=>by simp[q3,p]⟩;have r1:=eK (b x) (i*3) _ _ r0;have zh:((w.alloc (.cells m T)).drew.setCells w.heap.size (i*3) (b x)).drew.rowIs w.heap.size T (G*3) _:=r1;have r2:=eK ((aJ b l).drop (i*3)) ((i+1)*3) _ _ zh;have R:ln ((aJ b l).drop (i*3))=(ln l-i)*3:=by rw[lld,q];omega
    have H:=lK (z:=z) (n:=ln l+1) (xs:=aJ b (l.take i++x::l.drop i)) r2 W q1 q2 (by rw[cP d,y]) (by
     rw[o];intro j u p;refine AC (f:=λj=>if j<i*3 then m.getD j undef else f j) (h:=λj=>if(i+1)*3<=j/\j<(i+1)*3+ln ((aJ b l).drop (i*3))then((aJ b l).drop (i*3)).getD (j-(i+1)*3) undef else if i*3<=j/\j<i*3+ln (b x)then(b x).getD (j-i*3) undef else m.getD j undef) hi q (d x) (λj u p=>?_) (λj p=>?_) j u p
     ·by_cases e:j<i*3
      ·show(if j<i*3 then m.getD j undef else f j)=u;rw[if_pos e];exact q4 j u (by rw[ltg e];exact p)
      ·show(if j<i*3 then m.getD j undef else f j)=u;rw[if_neg e];exact S j u p
     ·simp only[R,d];show(if(i+1)*3<=j/\j<(i+1)*3+(ln l-i)*3 then _ else if i*3<=j/\j<i*3+3 then(b x).getD (j-i*3) undef else m.getD j undef)=_;by_cases c1:i*3<=j/\j<i*3+3;·rw[if_neg om,if_pos c1,if_pos c1]
      ·rw[if_neg c1,if_neg c1];by_cases c2:(i+1)*3<=j/\j<(i+1)*3+(ln l-i)*3;·rw[if_pos c2,if_pos c2]
       ·rw[if_neg c2,if_neg c2,if_pos om])
    refine t _ _ H ?_;have A:=eJ w.heap.size (b x) (i*3) (w.alloc (.cells m T)).drew;have C:=eJ w.heap.size ((aJ b l).drop (i*3)) ((i+1)*3) (((w.alloc (.cells m T)).drew.setCells w.heap.size (i*3) (b x)).drew);have s:aG w (w.alloc (.cells m T)):=aC (br _ _) _;have hs0:w.heap.size<(w.alloc (.cells m T)).heap.size:=by simp
    exact⟨C.os.trans (A.os.trans s.os),C.tape.trans (A.tape.trans s.tape),C.output.trans (A.output.trans s.output),nlt s.size (nlt A.size C.size),λk M U=>(C.block k (nll M (nlt s.size A.size)) (λe=>by cases e;omega)).trans ((A.block k (nll M s.size) (λe=>by cases e;omega)).trans (s.block k M))⟩
abbrev ON:=@insert_gen Hx Hx.cells 160 74 IN J8 CO Hx.cells_length lQ
theorem EM:InsS 73:=by
 intro g n c i V p X w hi hroom hc63 A J R K m t S F G tA tB U kB P Q L s;obtain⟨i0,u,hz0,B,hzb⟩:=info_parts Tryz.info34;have mixed:prog.follows .mixedOrders=true:=kr
 have z:(prog.info? 34).map (·.size)=some 3:=by rw[u];simp[B]
 have O:∀lb D,(callFunc 111 #[sl V 0 1 1,sl g ((i+1)*3) lb D]).run prog w=.ok (.value (.bool false)) w:=λlb D=>by
  rw[rce func111 kr kr kr (e:=Extern.SlicesOverlaps.overlaps #[28,28] #[4]) kr,
   Lib.run_overlaps_apart w 28 4 34 underlying28 3 (λw=>by simp[Go.sizeOf,typeInfo,u,B]) (Y V 0) (Y g ((i+1)*3)) 1 1 lb D A tA tB U kB P Q L (s 0) (s U)]
  rfl
 have hw1:IntKind.i64.wrap ((i:Int)+1)=(i:Int)+1:=by rw[IntKind.wrap_i64];omega
 have hw2:IntKind.i64.wrap ((n:Int)+1)=(n:Int)+1:=by rw[IntKind.wrap_i64];omega
 have hb1:(0:Int)<=(i:Int)+1:=om
 have hin:i<=n:=om
 have htn:((i:Int)+1).toNat=i+1:=om
 have hb2:¬(c=i+1):=om
 have hb3:(i:Int)<=(n:Int)+1:=om
 have hb4:¬(c=i):=om
 have l:ln (p.drop (i*3))=(n-i)*3:=by rw[lld,J];omega
 have M:Nat.min (n+1-i) (n-i)=n-i:=by simp only[Nat.min_def];split<;>omega
 have N:Nat.min 1 (n+1-i)=1:=by simp only[Nat.min_def];split<;>omega
 have d:∀o f T,(Builtin.copy_ #[28,28] o #[sl g ((i+1)*3) (n-i) f,sl g (i*3) (n+1-i) T]).run prog w.drew=.ok (goInt (Nat.min (n+1-i) (n-i))) (w.drew.setCells g ((i+1)*3) (p.drop (i*3))):=λo f T=>
  kP w.drew _ _ o 34 3 g ((i+1)*3) (n-i) f (Y g (i*3)) (n+1-i) T (p.drop (i*3)) underlying28 z (by rw[l,M])
   (λj v b=>by rw[aal];exact K (i*3+j) v (by rwa[List.getElem?_drop]at b))
   (λj b=>m _ (by rw[l]at b;omega)) (λj b=>t _) (λv hv=>F v (lmd hv))
 obtain⟨C,a⟩:=bQ (w.drew.setCells g ((i+1)*3) (p.drop (i*3)))
 have y:∀k,k<(n+1)*3->(C.cell? (Y g k)).isSome=true:=λk Z=>by
  rw[a];exact isSome_setCells g (p.drop (i*3)) ((i+1)*3) w.drew (λj b=>m _ (by rw[l]at b;omega)) _ (m k Z)
 have r:∀(W:Wd),(∀x,W.cell? x=C.cell? x)->(∀x,W.frozen? x=C.frozen? x)->∀o f,(Builtin.copy_ #[28,28] o #[sl g (i*3) (n+1-i) f,sl V 0 1 1]).run prog W=.ok (goInt (Nat.min 1 (n+1-i))) (W.setCells g (i*3) X):=λW q H o f=>
  kP W _ _ o 34 3 g (i*3) (n+1-i) f (Y V 0) 1 1 X underlying28 z (by rw[R,N])
   (λj v b=>by
    rw[aal,q,a,World.cell?_setCells_out g _ _ _ _ (λh _=>absurd h A),nza]
    exact S j v b)
   (λj b=>by rw[q];exact y _ om) (λj b=>by rw[H,a,World.frozen?_setCells];exact t _) G
 rw[←a]at d
 go_enter func73,ntmps73
 go_wp2_with (simp only[O])
 go_region_law_o (refine step_copy_runI rfl _ _ 28 28 rfl _ _ (by simp[Act.eval,Act.put]) (by simp[Act.eval,Act.put]) (d _ _ _) ?_)
 go_wp2_with (at_builtin;refine wpList_copy_runI _ rfl _ _ 28 28 rfl _ _ rfl rfl (r _ (λ_=>rfl) (λ_=>rfl) _ _) ?_)
 go_ret
 first|exact⟨rfl,rfl⟩|exact⟨rfl,by rw[a]⟩
theorem JH:InsG 73 34:=by
 intro g n c i V m s w hi hnc F hn64 zl R C S X Z;obtain⟨i0,O,zq,H,T⟩:=info_parts Tryz.info34;have mixed:prog.follows .mixedOrders=true:=kr
 have hz3:(c:Int)<(n:Int)+1:=om
 have Q:(prog.info? 34).map (·.size)=some 3:=by rw[O];simp[H]
 have zk:g<w.heap.size:=block_lt_of_cell (C 0 _ (lge om));have zp:V<w.heap.size:=block_lt_of_cell (S 0 _ (lge om));have P:(n:Int)+1-(i:Int)=((n+1-i:Nat):Int):=om
 have D:i+(n+1-i)=n+1:=om
 have l:ln (m.take (i*3))=i*3:=by rw[llt];omega
 have y:(Builtin.firstCells i0.size i (sl g 0 i c)).run prog w.drew=.ok (m.take (i*3)).toArray w.drew:=by
  rw[H]
  exact run_firstCells_some w.drew 3 i (Y g 0) i c (m.take (i*3)) l (λj v b=>by
   rw[aal,nza];rw[List.getElem?_take]at b
   split at b
   · exact C j v b
   · cases b)
 have r:∀p,(Builtin.append_ #[28,3] p #[sl g 0 i c,I ((n:Int)+1-(i:Int))]).run prog w=
  .ok (sl w.heap.size 0 (n+1) (grownCap w (n+1) c 34)) (w.drew.alloc (.cells ((m.take (i*3)).toArray++Builtin.zeroCells (Value.agg #[.string ByteArray.empty,I 0,I 0]).cells (n+1-i)++Builtin.zeroCells (Value.agg #[.string ByteArray.empty,I 0,I 0]).cells (grownCap w (n+1) c 34-(n+1))) 34)):=λp=>by
  have h:=Lib.run_append_grow_zeros w 28 3 p 34 i0 _ .i64 .i64 underlying28 underlying3 O zq (some (Y g 0)) i c (m.take (i*3)) y (n+1-i) om (by rw[H];omega) om om (by rw[T];omega) (by rw[T,D];exact growslice_fits F om);rw[D]at h;rw[P];exact h
 obtain⟨G,U⟩:=bQ (grownCap w (n+1) c 34);obtain⟨a,f⟩:=bQ ((m.take (i*3)).toArray++Builtin.zeroCells (Value.agg #[.string ByteArray.empty,I 0,I 0]).cells (n+1-i)++Builtin.zeroCells (Value.agg #[.string ByteArray.empty,I 0,I 0]).cells (G-(n+1)):Array Va);rw[←U]at r;rw[←f]at r;have zf:n+1<=G:=by rw[U];exact grownCap_ge w _ _ _
 have ze:G<=maxLen:=by rw[U];exact grownCap_le_maxLen w (n+1) c _ (by unfold maxLen;omega)
 have A:a.size=G*3:=by
  rw[f]
  simp[Builtin.zeroCells,Value.cells,l]
  omega
 have K:∀j u,(m.take (i*3))[j]?=some u->a.getD j undef=u:=λj u b=>by
  have hjl:j<i*3:=by rw[←l];exact(lgs.1 b).1
  have e:a[j]?=some u:=by
   rw[f,Array.getElem?_append_left (by simp[l];omega),Array.getElem?_append_left (by simp[l];omega)]
   simpa using b
  rw[agd,e];rfl
 have zi:(n+1)*3<=a.size:=by rw[A];omega
 obtain⟨q,k⟩:=bQ (w.drew.alloc (.cells a 34));rw[←k]at r
 have hN:∀j,j<(n+1)*3->(q.cell? (ya w j)).isSome=true:=λj b=>by
  rw[k,World.cell?_alloc_at (w:=w.drew) a _ w.heap.size j rfl,age om];rfl
 have J:∀j,q.frozen? (ya w j)=false:=λj=>by rw[k];exact World.frozen?_alloc_at (w:=w.drew) a _ w.heap.size j rfl
 have zg:∀j v,w.cell? (Y g j)=some v->q.cell? (Y g j)=some v:=λj v h=>by rw[k,World.cell?_alloc_past (w:=w.drew) _ g j zk];exact h
 have zh:∀j v,w.cell? (Y V j)=some v->q.cell? (Y V j)=some v:=λj v h=>by rw[k,World.cell?_alloc_past (w:=w.drew) _ V j zp];exact h
 have zn:Nat.min 1 (n+1-i)=1:=by simp only[Nat.min_def];split<;>omega
 have zm:Nat.min (n-i) (n-i)=n-i:=Nat.min_self _
 have L:∀(W:Wd),(∀x,W.cell? x=q.cell? x)->(∀x,W.frozen? x=q.frozen? x)->∀p z,(Builtin.copy_ #[28,28] p #[sl w.heap.size (i*3) (n+1-i) z,sl V 0 1 1]).run prog W=.ok (goInt (Nat.min 1 (n+1-i))) (W.setCells w.heap.size (i*3) s):=λW o B p z=>
  kP W _ _ p 34 3 w.heap.size (i*3) (n+1-i) z (Y V 0) 1 1 s underlying28 Q (by rw[R,zn])
   (λj v b=>by rw[aal,nza,o];exact zh _ v (S j v b))
   (λj b=>by rw[o];exact hN _ om) (λj b=>by rw[B];exact J _) Z
 have hGi:¬(G=i):=om
 have hGim:¬(G=i+1):=om
 have hci:¬(c=i):=om
 have zj:g≠w.heap.size:=om
 have N:ln (m.drop (i*3))=(n-i)*3:=by rw[lld,zl];omega
 have M:∀(W:Wd),(∀x,W.cell? x=(q.setCells w.heap.size (i*3) s).cell? x)->(∀x,W.frozen? x=(q.setCells w.heap.size (i*3) s).frozen? x)->∀p z sc,(Builtin.copy_ #[28,28] p #[sl w.heap.size ((i+1)*3) (n-i) z,sl g (i*3) (n-i) sc]).run prog W=.ok (goInt (Nat.min (n-i) (n-i))) (W.setCells w.heap.size ((i+1)*3) (m.drop (i*3))):=λW o B p z sc=>
  kP W _ _ p 34 3 w.heap.size ((i+1)*3) (n-i) z (Y g (i*3)) (n-i) sc (m.drop (i*3)) underlying28 Q (by rw[N,zm])
   (λj v b=>by
    rw[aal,o,World.cell?_setCells_out _ _ _ _ _ (λh _=>absurd h zj)]
    exact zg _ v (C (i*3+j) v (by rwa[List.getElem?_drop]at b)))
   (λj b=>by rw[o];exact isSome_setCells _ s (i*3) q (λt ht=>hN _ (by rw[R]at ht;omega)) _ (hN _ (by rw[N]at b;omega)))
   (λj b=>by rw[B,World.frozen?_setCells];exact J _) (λv hv=>X v (lmd hv))
 subst k;have za:∀x,((w.alloc (.cells a 34)).drew).cell? x=(w.drew.alloc (.cells a 34)).cell? x:=λx=>rfl;have zb:∀x,((w.alloc (.cells a 34)).drew).frozen? x=(w.drew.alloc (.cells a 34)).frozen? x:=λx=>rfl;have zc:∀x,(((w.alloc (.cells a 34)).drew.setCells w.heap.size (i*3) s).drew).cell? x=((w.drew.alloc (.cells a 34)).setCells w.heap.size (i*3) s).cell? x:=λx=>rfl;have zd:∀x,(((w.alloc (.cells a 34)).drew.setCells w.heap.size (i*3) s).drew).frozen? x=((w.drew.alloc (.cells a 34)).setCells w.heap.size (i*3) s).frozen? x:=λx=>rfl;have hw1:IntKind.i64.wrap ((i:Int)+1)=(i:Int)+1:=by rw[IntKind.wrap_i64];omega
 have hb1:(0:Int)<=(i:Int)+1:=om
 have htn:((i:Int)+1).toNat=i+1:=om
 have hb3:(i:Int)<=(n:Int):=om
 have d:Hid (n+1<=G/\G<=maxLen/\a.size=G*3/\(∀j u,(m.take (i*3))[j]?=some u->a.getD j undef=u)):=⟨zf,ze,A,K⟩;clear P D y f U zi A K l
 go_enter func73,ntmps73
 go_wp2_with (first
  |(at_builtin;refine Lib.wpList_append_run _ rfl _ _ _ _ rfl _ _ rfl rfl _ _ (r _) ?_)
  |(at_builtin;refine wpList_copy_runI _ rfl _ _ 28 28 rfl _ _ rfl rfl (L _ za zb _ _) ?_))
 go_region_law_o (refine step_copy_runI rfl _ _ 28 28 rfl (sl w.heap.size ((i+1)*3) (n-i) (G-(i+1))) (sl g (i*3) (n-i) (c-i)) (by simp[Act.eval,Act.put]) (by simp[Act.eval,Act.put]) (M _ zc zd 3 (G-(i+1)) (c-i)) ?_)
 go_wp2
 go_ret;exact⟨G,a,d.oQ.1,d.oQ.2.1,d.oQ.2.2.1,d.oQ.2.2.2,rfl,rfl⟩
theorem yX:InsE 73 34:=by
 intro z n c V ha cs D w hn64 hc63 l s G f m i;obtain⟨C,k,p,r,q⟩:=info_parts Tryz.info34
 cases ha with
 |none=>
  obtain⟨rfl,rfl⟩:n=0/\c=0:=by
   obtain⟨_,⟨e,h⟩|⟨g,y,A,e,_⟩⟩:=f
   ·cases e;exact⟨rfl,rfl⟩
   ·cases e
  go_enter func73,ntmps73
  go_wp2_with (at_builtin;refine wpList_append_own _ rfl (.tmp 23) (.tmp 24) 28 rfl z 34 C _ 3 32 underlying28 k p r q rfl dz _ _ _ rfl f (Y V 0) 1 1 D rfl l ?qc1 i ?qc3 ?qc4 s ?_)
  case qc1=>exact λj v x=>by rw[aal,nza];exact m j v x
  case qc3=>unfold maxLen;omega
  case qc4=>omega
  intro F w1 d b _;have u:Hid _:=d;have t:Hid _:=b;clear d b f;go_wp2
  go_ret;exact⟨_,rfl,u.oQ,t.oQ⟩
 |some a=>
  obtain⟨g,o,sp⟩:=a;obtain⟨rfl,rfl⟩:=G _ rfl
  by_cases B:c=n
  ·subst B
   go_enter func73,ntmps73
   go_wp2_with (at_builtin;refine wpList_append_own _ rfl (.tmp 23) (.tmp 24) 28 rfl z 34 C _ 3 32 underlying28 k p r q rfl dz _ _ _ rfl f (Y V 0) 1 1 D rfl l ?qc1 i ?qc3 ?qc4 s ?_)
   case qc1=>exact λj v x=>by rw[aal,nza];exact m j v x
   case qc3=>unfold maxLen;omega
   case qc4=>omega
   intro F w1 d b _;have u:Hid _:=d;have t:Hid _:=b;clear d b f;go_wp2
   go_ret;exact⟨_,rfl,u.oQ,t.oQ⟩
  ·have hle:n<=c:=by
    obtain⟨_,⟨e,h⟩|⟨g,y,A,e,_,_,h,_⟩⟩:=f
    ·cases e
    ·cases e;exact h
   go_enter func73,ntmps73
   go_wp2_with (at_builtin;refine wpList_append_own _ rfl (.tmp 23) (.tmp 24) 28 rfl z 34 C _ 3 32 underlying28 k p r q rfl dz _ _ _ rfl f (Y V 0) 1 1 D rfl l ?qc1 i ?qc3 ?qc4 s ?_)
   case qc1=>exact λj v x=>by rw[aal,nza];exact m j v x
   case qc3=>unfold maxLen;omega
   case qc4=>omega
   intro F w1 d b _;have u:Hid _:=d;have t:Hid _:=b;clear d b f;go_wp2
   go_ret;exact⟨_,rfl,u.oQ,t.oQ⟩
abbrev L9:=@insert_gen Fx Fx.cells 73 34 EM JH yX Fx.cells_length oK
end Go.Proofs.YtoolgmmljacfmaaGreatDoor
namespace Go.Proofs.YtoolgmmljacfmaaGreatDoor
open Go.Shelf
attribute [local go_sem] Oper.semAt_some
variable {c m w' t x:Wd}{A k:Nat}{l:List Hx}{y:Hx}{d e a n o b z v w:Va}{L:Nat → Prop}{r f i u:Nat → Va}
def K6c (A k:Nat)(y:Hx)(h0 h4 h12:Value):Nat->Option Value
 |1|9|14=>some (E A 2)
 |2|10=>some h0
 |3|11=>some (I (k:Int))
 |4=>some h4
 |6=>some y.val
 |12=>some h12
 |_=>none
structure K6 (Wd:World)(A k:Nat)(l:List Hx)(y:Hx)(h0 h4 h12:Value)(L:Nat->Prop)(vs:Nat->Value)(w':World):Prop where
 c:∀j v,K6c A k y h0 h4 h12 j=some v->L j->vs j=v
 v0:L 0->∃p,vs 0=.slice (some ⟨p,0,none⟩) 0 0/\Wd.heap.size<=p/\(¬L 5->w'.heap[p]?=some (.cells #[] 74))
 v5:L 5->¬L 8->w'.ownsRow Wd.heap.size 74 3 (vs 5) k (aJ Hx.cells (l.take k))
 v7:L 7->∃V,vs 7=.slice (some ⟨V,0,none⟩) 1 1/\(¬L 8->w'.heap[V]?=some (.cells #[.string y.n,.slice y.ta y.tl.length y.tc,.slice y.na y.nl.length y.nc] 74))
 v8:L 8->¬L 13->w'.ownsRow Wd.heap.size 74 3 (vs 8) (k+1) (aJ Hx.cells (l.take k)++y.cells)
 v13:L 13->¬L 15->w'.ownsRow Wd.heap.size 74 3 (vs 13) (l.length+1) (aJ Hx.cells (l.take k)++y.cells++aJ Hx.cells (l.drop k))
 w15:L 15->∃w0,aG Wd w0/\w0.ownsRow Wd.heap.size 74 3 (vs 13) (l.length+1) (aJ Hx.cells (l.take k)++y.cells++aJ Hx.cells (l.drop k))/\w'=w0.setCell ⟨A,2,none⟩ (vs 13)
 bw:¬L 15->aG Wd w'
theorem K6.ext (L b:Nat->Prop)(f:Nat->Va)(w':Wd)(h:∀j,L j↔b j)(q:K6 c A k l y d e a L f w'):K6 c A k l y d e a b f w':=by
 obtain rfl:L=b:=funext λj=>propext (h j);exact q
theorem K6.zL {w' d:Wd}(q:K6 m A k l y n o b L r w')(f:¬L 15)(a:aG w' d):K6 m A k l y n o b L r d:=
 ⟨q.c,λh=>by obtain⟨p,e,s,i⟩:=q.v0 h;exact⟨p,e,s,λj=>bJ (i j) a⟩,λh g=>dC (q.v5 h g) a,λh=>by obtain⟨V,e,i⟩:=q.v7 h;exact⟨V,e,λj=>bJ (i j) a⟩,λh g=>dC (q.v8 h g) a,λh g=>dC (q.v13 h g) a,λh=>absurd h f,λh=>aE (q.bw h) a⟩
theorem K6.cc (q:K6 m A k l y d o a L r w')(i:Nat)(v:Va)(n:∀u,K6c A k y d o a i=some u->u=v):∀j u,K6c A k y d o a j=some u->(L j∨j=i)->aH r i v j=u:=λj u e h=>by
 by_cases g:j=i;·subst g;rw[n u e];simp[aH]
 ·rw[show aH r i v j=r j from by simp[aH,g]];exact q.c j u e (h.resolve_right g)
theorem K6.addc (q:K6 t A k l y b z a L f w')(i:Nat){v:Va}(w:K6c A k y b z a i=some v):K6 t A k l y b z a (λj=>L j∨j=i) (aH f i v) w':=by
 have n:∀m,K6c A k y b z a m=none->m≠i:=λm d e=>by rw[e,w]at d;cases d
 have u:∀m,K6c A k y b z a m=none->aH f i v m=f m:=λm d=>by simp[aH,n m d]
 refine⟨q.cc i v (λu e=>by rw[w]at e;cases e;rfl),λh=>?_,λh g=>?_,λh=>?_,λh g=>?_,λh g=>?_,λh=>?_,λh=>q.bw (λs=>h (.inl s))⟩;·rw[u 0 rfl];obtain⟨p,e,x,o⟩:=q.v0 (h.resolve_right (n 0 rfl));exact⟨p,e,x,λr=>o (λs=>r (.inl s))⟩
 ·rw[u 5 rfl];exact q.v5 (h.resolve_right (n 5 rfl)) (λs=>g (.inl s))
 ·rw[u 7 rfl];obtain⟨V,e,o⟩:=q.v7 (h.resolve_right (n 7 rfl));exact⟨V,e,λr=>o (λs=>r (.inl s))⟩
 ·rw[u 8 rfl];exact q.v8 (h.resolve_right (n 8 rfl)) (λs=>g (.inl s))
 ·rw[u 13 rfl];exact q.v13 (h.resolve_right (n 13 rfl)) (λs=>g (.inl s))
 ·rw[u 13 rfl];exact q.w15 (h.resolve_right (n 15 rfl))
theorem K6.add0 (q:K6 t A k l y d z a L r w')(o:∃p,v=.slice (some (Y p 0)) 0 0/\t.heap.size<=p/\w'.heap[p]?=some (.cells #[] 74)):K6 t A k l y d z a (λj=>L j∨j=0) (aH r 0 v) w':=
 ⟨q.cc 0 v (λ_ e=>by cases e),λ_=>by obtain⟨p,e,m,c⟩:=o;exact⟨p,e,m,λ_=>c⟩,λh g=>q.v5 (iT h) (λs=>g (.inl s)),λh=>by obtain⟨V,e,c⟩:=q.v7 (iT h);exact⟨V,e,λn=>c (λs=>n (.inl s))⟩,λh g=>q.v8 (iT h) (λs=>g (.inl s)),λh g=>q.v13 (iT h) (λs=>g (.inl s)),λh=>q.w15 (iT h),λh=>q.bw (λs=>h (.inl s))⟩
theorem K6.add5 (q:K6 t A k l y d z a L r w')(o:w'.ownsRow t.heap.size 74 3 v k (aJ Hx.cells (l.take k))):K6 t A k l y d z a (λj=>L j∨j=5) (aH r 5 v) w':=
 ⟨q.cc 5 v (λ_ e=>by cases e),λh=>by obtain⟨p,e,n,f⟩:=q.v0 (iT h);exact⟨p,e,n,λc=>absurd (.inr rfl) c⟩,λ_ _=>o,λh=>by obtain⟨V,e,f⟩:=q.v7 (iT h);exact⟨V,e,λc=>f (λs=>c (.inl s))⟩,λh g=>q.v8 (iT h) (λs=>g (.inl s)),λh g=>q.v13 (iT h) (λs=>g (.inl s)),λh=>q.w15 (iT h),λh=>q.bw (λs=>h (.inl s))⟩
theorem K6.add7 (q:K6 c A k l y d z a L i w')(r:∃V,v=.slice (some (Y V 0)) 1 1/\w'.heap[V]?=some (.cells #[.string y.n,.slice y.ta (ln y.tl) y.tc,.slice y.na (ln y.nl) y.nc] 74)):K6 c A k l y d z a (λj=>L j∨j=7) (aH i 7 v) w':=
 ⟨q.cc 7 v (λ_ e=>by cases e),λh=>by obtain⟨p,e,m,b⟩:=q.v0 (iT h);exact⟨p,e,m,λo=>b (λs=>o (.inl s))⟩,λh g=>q.v5 (iT h) (λs=>g (.inl s)),λ_=>by obtain⟨V,e,b⟩:=r;exact⟨V,e,λ_=>b⟩,λh g=>q.v8 (iT h) (λs=>g (.inl s)),λh g=>q.v13 (iT h) (λs=>g (.inl s)),λh=>q.w15 (iT h),λh=>q.bw (λs=>h (.inl s))⟩
theorem K6.add8 (q:K6 c A k l y z w b L u w') (r:L 5) (d:¬L 13) (f:¬L 15) (t:x.ownsRow c.heap.size 74 3 v (k+1) (aJ Hx.cells (l.take k)++y.cells)) (s:aG c x):K6 c A k l y z w b (λj=>L j∨j=8) (aH u 8 v) x:=
 ⟨q.cc 8 v (λ_ e=>by cases e),λh=>by obtain⟨p,e,o,_⟩:=q.v0 (iT h);exact⟨p,e,o,λg=>absurd (.inl r) g⟩,λ_ g=>absurd (.inr rfl) g,λh=>by obtain⟨V,e,_⟩:=q.v7 (iT h);exact⟨V,e,λg=>absurd (.inr rfl) g⟩,λ_ _=>t,λh=>absurd (iT h) d,λh=>absurd (iT h) f,λ_=>s⟩
theorem K6.add13 {v:Va} (q:K6 c A k l y z w b L u w') (r:L 5) (m:L 8) (d:¬L 15) (t:x.ownsRow c.heap.size 74 3 v (ln l+1) (aJ Hx.cells (l.take k)++y.cells++aJ Hx.cells (l.drop k))) (s:aG c x):K6 c A k l y z w b (λj=>L j∨j=13) (aH u 13 v) x:=
 ⟨q.cc 13 v (λ_ e=>by cases e),λh=>by obtain⟨p,e,o,_⟩:=q.v0 (iT h);exact⟨p,e,o,λg=>absurd (.inl r) g⟩,λ_ g=>absurd (.inl m) g,λh=>by obtain⟨V,e,_⟩:=q.v7 (iT h);exact⟨V,e,λg=>absurd (.inl m) g⟩,λ_ g=>absurd (.inr rfl) g,λ_ _=>t,λh=>absurd (iT h) d,λ_=>s⟩
theorem K6.add15 {v:Va}(q:K6 t A k l y z w a L u w')(r:L 5)(n:L 8)(b:L 13)(c:¬L 15):K6 t A k l y z w a (λj=>L j∨j=15) (aH u 15 v) (w'.setCell (Y A 2) (u 13)):=
 ⟨q.cc 15 v (λ_ e=>by cases e),λh=>by obtain⟨p,e,o,_⟩:=q.v0 (iT h);exact⟨p,e,o,λg=>absurd (.inl r) g⟩,λ_ g=>absurd (.inl n) g,λh=>by obtain⟨V,e,_⟩:=q.v7 (iT h);exact⟨V,e,λg=>absurd (.inl n) g⟩,λ_ g=>absurd (.inl b) g,λ_ g=>absurd (.inr rfl) g,λ_=>⟨w',q.bw c,q.v13 b c,rfl⟩,λh=>absurd (.inr rfl) h⟩
open Go.BigFrame
variable {nm:Ba}{g a:Nat}{w W:Wd}
def mW (l:List Hx)(nm:ByteArray):Nat:=(l.takeWhile (λh=>gE h.n nm)).length
def nY (l:List Hx)(y:Hx):List Hx:=l.take (mW l y.n)++y::l.drop (mW l y.n)
theorem GK (d:k<=ln l)(c:∀j (h:j<ln l),j<k->gE l[j].n nm=true)(b:∀h:k<ln l,gE l[k].n nm=false):mW l nm=k:=by
 induction l generalizing k with
 |nil=>simp at d;subst d;rfl
 |cons a r ih=>
  cases k with
  |zero=>
   have:=b sm;simp only[List.getElem_cons_zero]at this;simp[mW,this]
  |succ m=>
   have e:=c 0 sm om;simp only[List.getElem_cons_zero]at e;have:=ih (k:=m) (by simpa using d) (λj h hj=>by have:=c (j+1) (by simpa using h) om;simpa using this) (λh=>by have:=b (by simpa using h);simpa using this);simp only[mW]at this ⊢;simp[e,this]
theorem WI (h:gD 74 3 Hx.cells w g a l (ln l))(c:ln l<=a)(b:aG w W):∀j u,(aJ Hx.cells (l.take k))[j]?=some u->W.cell? (((Y g 0):Addr).add j)=some u:=
 nA Hx.cells_length dz (λi d=>by
  rw[List.getElem_take];exact(h.xs' Hx.cells_length (nlq _) c i (by simp at d;omega)).zL b)
theorem V5 (h:gD 74 3 Hx.cells w g a l (ln l))(c:ln l<=a)(b:aG w W):∀j u,(aJ Hx.cells (l.drop k))[j]?=some u->W.cell? (((Y g (k*3)):Addr).add j)=some u:=
 nA Hx.cells_length dz (λi d=>by
  rw[List.getElem_drop];have:=(h.xs' Hx.cells_length (nlq _) c (k+i) (by simp at d;omega)).zL b;rwa[nza,Nat.add_mul]at this)
theorem SW (b:Bk)(y:Hx)(z:Nat)(w:Wd)(hO:bW 74 3 Hx.cells w z (.slice b.ha (ln b.hl) b.hc) b.hl)(hn:ln b.hl<=64):
 aW 64 #[b.val,y.val] w λe w'=>(∃a' c',e=rt (Bk.val ⟨b.now,b.fa,b.fl,b.fc,a',nY b.hl y,c'⟩)/\bW 74 3 Hx.cells w' w.heap.size (.slice a' (ln (nY b.hl y)) c') (nY b.hl y))/\aG w w':=by
 obtain⟨j0,zu,zx,zy,zz⟩:=info_parts Tryz.info74;have N1:aG w (w.alloc b.obj):=aC (br _ _) _;have A1:=wnq w b.obj;obtain⟨U1,zs⟩:∃U,w.alloc b.obj=U:=⟨_,rfl⟩;have z1:U1.heap.size=w.heap.size+1:=by rw[←zs];simp
 rw[zs]at N1 A1;have M2:aG U1 (U1.alloc (.cells #[.string y.n,.slice y.ta (ln y.tl) y.tc,.slice y.na (ln y.nl) y.nc] 74)):=aC (br _ _) _;have X2:=wnq U1 (.cells #[.string y.n,.slice y.ta (ln y.tl) y.tc,.slice y.na (ln y.nl) y.nc] 74);obtain⟨U2,zt⟩:∃U,U1.alloc (.cells #[.string y.n,.slice y.ta (ln y.tl) y.tc,.slice y.na (ln y.nl) y.nc] 74)=U:=⟨_,rfl⟩;have z2:U2.heap.size=w.heap.size+2:=by rw[←zt];simp[z1]
 rw[zt]at M2 X2;have M3:aG U2 (U2.alloc (zo)):=aC (br _ _) _;have R3:=wnq U2 (zo);obtain⟨U3,yi⟩:∃U,U2.alloc (zo)=U:=⟨_,rfl⟩;rw[yi]at M3 R3;have N3:aG w U3:=aE (aE N1 M2) M3;have yb:Hid _:=bJ (bJ A1 M2) M3;have yf:Hid (U3.heap[w.heap.size+1]?=some (.cells #[.string y.n,.slice y.ta (ln y.tl) y.tc,.slice y.na (ln y.nl) y.nc] 74)):=by rw[Hid,←z1];exact bJ X2 M3
 have yu:Hid (U3.heap[w.heap.size+2]?=some (zo)):=by rw[Hid,←z2];exact R3
 clear N1 M2 M3 A1 X2 R3
 go_enter func64,ntmps64
 go_upto_block 0 with fail
 clear zs zt yi
 go_cut [5] (λiv wx=>∃k:Nat,k<=ln b.hl/\iv=I (k:Int)/\aG U3 wx/\mW b.hl y.n=k)
 case first=>
  go_wp2_with fail
  go_loopw [5] (λiv wr=>∃k:Nat,k<=ln b.hl/\iv=I (k:Int)/\aG U3 wr/\Hid (∀j (h:j<ln b.hl),j<k->gE b.hl[j].n y.n=true)) (λiv _=>ln b.hl-(intOf iv).toNat)
  case atStart=>exact⟨0,nz _,rfl,br _ _,λj h N=>by omega⟩
  case round=>
   obtain⟨k,hk,rfl,hB,zb⟩:=hrel;have HB:=aI hB;have a2:wr.cell? (Y w.heap.size 2)=some (.slice b.ha (ln b.hl) b.hc):=aB (bJ yb.oQ hB) rfl
   by_cases zn:k<ln b.hl
   ·obtain⟨g,ha,D,A⟩:∃g,b.ha=some (Y g 0)/\(ln b.hl)<=b.hc/\gD 74 3 Hx.cells w g b.hc b.hl (ln b.hl):=by
     rcases hO with⟨_,e⟩|⟨g,yw,e,_,h2,h3⟩
     ·rw[e]at zn;simp at zn
     ·simp only[vsi]at e
      obtain⟨S,_,rfl⟩:=e;exact⟨g,S,h2,h3⟩
    obtain⟨c0,_,_⟩:=gN (A.xs' Hx.cells_length (nlq _) D k zn);rw[nza]at c0;have c0:=((aE N3 hB).cell (aA c0)).trans c0;have y0:wr.cell? (Y (w.heap.size+1) 0)=some (.string y.n):=aB (bJ yf.oQ hB) rfl;rw[ha]at a2;obtain⟨x,hx⟩:=bQ (b.hl[k]);rw[←hx]at c0;have ye:=aI hx;clear hx ha A hO hB
    cases hq:gE x.n y.n with
    |true=>
     have yr:Hid (∀j (h:j<ln b.hl),j<k+1->gE b.hl[j].n y.n=true):=λj h N=>by
      by_cases e:j=k
      ·subst e;rw[←ye.oQ];exact hq
      ·exact zb.out j h om
     clear zb;unfold gE at hq;go_wp2_with fail
     go_quiet (fail)
     go_wp2
     go_roundw
     case rel=>exact⟨k+1,om,gn,(below_drewN HB.oQ _),yr⟩
     case measure=>simp[intOf];omega
    |false=>
     have zc:Hid (mW b.hl y.n=k):=GK hk zb.out (λh=>by have e:=ye.oQ;rw[←e];exact hq);clear zb;unfold gE at hq;go_wp2_with fail
     go_quiet (fail)
     go_wp2
     all_goals go_meet
     all_goals exact⟨k,hk,rfl,(below_drewN HB.oQ _),zc.oQ⟩
   ·have zc:Hid (mW b.hl y.n=k):=GK hk zb.out (λh=>absurd h zn)
    clear zb hO hB;go_wp2_with fail
    go_quiet (fail)
    go_wp2
    all_goals go_meet
    all_goals exact⟨k,hk,rfl,(below_drewN HB.oQ _),zc.oQ⟩
 case rest=>
  obtain⟨k,hk,rfl,hB,yp⟩:=hcut
  have yc:Hid (nY b.hl y=b.hl.take k++y::b.hl.drop k):=by
   show nY b.hl y=_
   unfold nY;rw[yp]
  obtain⟨C,X⟩:∃C:Oa,(b.ha=none/\b.hl=[]/\b.hc=0/\C=none/\k=0)∨∃g,b.ha=some (Y g 0)/\(ln b.hl)<=b.hc/\gD 74 3 Hx.cells w g b.hc b.hl (ln b.hl)/\((k<b.hc/\C=some (Y g (k*3)))∨(¬k<b.hc/\C=some (Y g 0))):=by
   rcases hO with⟨e,za⟩|⟨g,yw,e,_,D,A⟩
   ·simp only[vsi]at e
    exact⟨none,.inl ⟨e.1,za,e.2.2,rfl,by rw[za]at hk;simpa using hk⟩⟩
   ·simp only[vsi]at e
    obtain⟨S,_,rfl⟩:=e
    by_cases zi:k<b.hc
    ·exact⟨_,.inr ⟨g,S,D,A,.inl ⟨zi,rfl⟩⟩⟩
    ·exact⟨_,.inr ⟨g,S,D,A,.inr ⟨zi,rfl⟩⟩⟩
  have HA:Hid _:=X
  have HN:Hid (b.ha=none->k=0):=λe=>by
   rcases X with h|⟨g,K,_⟩
   ·exact h.2.2.2.2
   ·rw[e]at K;cases K
  have yt:Hid (C=none->b.hl=[]/\b.hc=0/\k=0):=λe=>by
   rcases X with h|⟨g,_,_,_,⟨_,O⟩|⟨_,O⟩⟩
   ·exact⟨h.2.1,h.2.2.1,h.2.2.2.2⟩
   ·rw[e]at O;cases O
   ·rw[e]at O;cases O
  have Nd:aG w wc.drew:=(aE N3 hB).drew;have Ar:=bJ yb.oQ hB;have Yr:=bJ yf.oQ hB;have Rr:=bJ yu.oQ hB;obtain⟨R,zf⟩:=cI wc.drew;have zr:Hid (R.heap[w.heap.size]?=some b.obj):=by rw[Hid,←zf];exact Ar
  have Y2:R.heap[w.heap.size+1]?=some (.cells #[.string y.n,.slice y.ta (ln y.tl) y.tc,.slice y.na (ln y.nl) y.nc] 74):=by rw[←zf];exact Yr
  have yd:Hid (R.heap[w.heap.size+2]?=some (zo)):=by rw[Hid,←zf];exact Rr
  have a2:R.cell? (Y w.heap.size 2)=some (.slice b.ha (ln b.hl) b.hc):=aB zr.oQ rfl;obtain⟨y0,y1,y2⟩:=aM Y2;rw[zf]at Nd;have hsd:=Nd.size;have hAw:w.heap.size+2<R.heap.size:=(cE yd.oQ)
  have yv:Hid (∀ad,b.ha=some ad->∀w',aG R w'->∀j u,(aJ Hx.cells (b.hl.take k))[j]?=some u->w'.cell? (ad.add j)=some u):=λad e w' h=>by
   rcases X with⟨K,_⟩|⟨g,K,D,A,_⟩
   ·rw[K]at e;cases e
   ·rw[K]at e;cases e
    exact WI A D (aE Nd h)
  have yq:Hid (∀ad,C=some ad->∀w',aG R w'->∀j u,(aJ Hx.cells (b.hl.drop k))[j]?=some u->w'.cell? (ad.add j)=some u):=λad e w' h j u N=>by
   rcases X with⟨_,_,_,O,_⟩|⟨g,_,D,A,⟨_,O⟩|⟨zi,O⟩⟩
   ·rw[O]at e;cases e
   ·rw[O]at e;cases e
    exact V5 A D (aE Nd h) j u N
   ·rw[List.drop_of_length_le om]at N;simp[aJ]at N
  clear Ar Yr Rr Y2 hB X hO yp;go_wp2_with fail
  refine wpIn_wide.1 (fA (F:=Fence.wide) (n:=0) kr [some 24,some 25,some 26,some 27,some 28,some 29,some 30,some 31,some 32,some 33,some 34,some 35,some 36,some 37,some 38] (K6 R w.heap.size k b.hl y (.slice b.ha (ln b.hl) b.hc) (.slice b.ha k b.hc) (.slice C (ln b.hl-k) (b.hc-k))) kr ?h0 K6.ext ?step ?fin)
  case h0=>
   exact⟨λ_ _ _ h=>h.elim,λh=>h.elim,λh=>h.elim,λh=>h.elim,λh=>h.elim,λh=>h.elim,λh=>h.elim,λ_=>by rw[zf];exact br _ _⟩
  case step=>
   intro L ii o B w' Q r t s hK;have hi:ii<16:=(lgs.1 Q).1;have m:=aI hK;clear hK
   match ii,hi with
   |0,_=>
    cases Q
    have d:¬L 15:=λh=>r (s 15 _ h rfl (eP 0) sm rfl);have l:=m.oQ.bw d;have zg:aG w' (w'.alloc (.cells #[] 74)):=aC (br _ _) _;have H:Hid _:=(m.oQ.zL d zg).add0 ⟨w'.heap.size,rfl,l.size,wnq w' _⟩;clear zg;gi_wp2;exact⟨_,uhx,H.oQ⟩
   |1,_=>
    cases Q
    have d:¬L 15:=λh=>r (s 15 _ h rfl (eP 1) sm rfl);have l:=m.oQ.bw d;gi_wp2;exact⟨(E w.heap.size 2),uhx,m.oQ.addc 1 rfl⟩
   |2,_=>
    cases Q
    have d:¬L 15:=λh=>r (s 15 _ h rfl (eP 2) sm rfl);have l:=m.oQ.bw d;have d1:=m.oQ.c 1 _ rfl (Zq t 1);have k2:=ctq l a2;simp only[aD,Act.put];rw[d1];gi_wp2;exact⟨.slice b.ha (ln b.hl) b.hc,by simp[aH,d1],m.oQ.addc 2 rfl⟩
   |3,_=>
    cases Q
    have d:¬L 15:=λh=>r (s 15 _ h rfl (eP 3) sm rfl);have l:=m.oQ.bw d;gi_wp2;exact⟨I ((k:Nat):Int),uhx,m.oQ.addc 3 rfl⟩
   |4,_=>
    cases Q
    have d:¬L 15:=λh=>r (s 15 _ h rfl (eP 4) sm rfl);have l:=m.oQ.bw d;have d2:=m.oQ.c 2 _ rfl (Zq t 2);have d3:=m.oQ.c 3 _ rfl (Zq t 3);have H:Hid _:=m.oQ.addc 4 (v:=.slice b.ha k b.hc) rfl
    rcases HA.oQ with⟨K,S,e2,-,rfl⟩|⟨g,K,S,-,-⟩
    ·have d2:B 2=ms:=by rw[d2,K,S,e2];rfl
     have E0:Hid (b.ha=none/\b.hc=0):=⟨K,e2⟩;clear K S e2;simp only[aD,Act.put];rw[d2,d3];gi_wp2;exact⟨.slice b.ha 0 b.hc,by simp[aH,d2,d3,E0.out],H.oQ⟩
    ·have d2:B 2=.slice (some (Y g 0)) (ln b.hl) b.hc:=by rw[d2,K]
     have E0:Hid _:=K;clear K;simp only[aD,Act.put];rw[d2,d3];gi_wp2;exact⟨.slice b.ha k b.hc,by simp[aH,d2,d3,E0.out],H.oQ⟩
   |5,_=>
    cases Q
    have d:¬L 15:=λh=>r (s 15 _ h rfl (eP 5) sm rfl);have l:=m.oQ.bw d;have d4:=m.oQ.c 4 _ rfl (Zq t 4);obtain⟨p,d0,yy,yo⟩:=m.oQ.v0 (Zq t 0);have hp:=yo r;simp only[aD,Act.put,sit,lcs,lcz];rw[d0,d4];refine lN w' rfl (.tmp 24) (.tmp 28) 30 rfl 74 j0 _ 3 64 underlying30 zu zx zy zz rfl dz p rfl hp b.ha k b.hc (aJ Hx.cells (b.hl.take k)) rfl HN.oQ (by rw[cP Hx.cells_length,llt];congr 1;omega) (λad e j u N=>yv.oQ ad e w' l j u N) (iP lQ _) (by unfold maxLen;omega) om R.heap.size yy (λv' w2 G Z=>?_);have H:Hid _:=(m.oQ.zL d Z).add5 G;clear G Z hp yo;gi_wp2;exact⟨_,by simp[aH,d0,d4],H.oQ⟩
   |6,_=>
    cases Q
    have d:¬L 15:=λh=>r (s 15 _ h rfl (eP 6) sm rfl);have l:=m.oQ.bw d;have k0:=ctq l y0;have k1:=ctq l y1;have k2:=ctq l y2;gi_wp2;exact⟨y.val,uhx,m.oQ.addc 6 rfl⟩
   |7,_=>
    cases Q
    have d:¬L 15:=λh=>r (s 15 _ h rfl (eP 7) sm rfl);have l:=m.oQ.bw d;have d6:=m.oQ.c 6 _ rfl (Zq t 6);have zg:aG w' (w'.alloc (.cells #[.string y.n,.slice y.ta (ln y.tl) y.tc,.slice y.na (ln y.nl) y.nc] 74)):=aC (br _ _) _;have H:Hid _:=(m.oQ.zL d zg).add7 ⟨w'.heap.size,rfl,wnq w' _⟩;clear zg;gi_wp2;exact⟨_,by simp[aH,d6],H.oQ⟩
   |8,_=>
    cases Q
    have d:¬L 15:=λh=>r (s 15 _ h rfl (eP 8) sm rfl);have l:=m.oQ.bw d;have h5:L 5:=Zq t 5;have ze:¬L 13:=λh=>r (s 13 _ h rfl (eD 8) sm rfl);have zp:=m.oQ.v5 h5 r;obtain⟨V,d7,yj⟩:=m.oQ.v7 (Zq t 7);have hV:=yj r;obtain⟨u5,e5⟩:∃u,B 5=u:=⟨_,rfl⟩;rw[e5]at zp;simp only[aD,Act.put,sit,lcs,lcz];rw[d7,e5]
    refine wpListIn_append_own w' rfl (.tmp 29) (.tmp 31) 30 rfl R.heap.size 74 j0 _ 3 64 underlying30 zu zx zy zz rfl dz u5 k (aJ Hx.cells (b.hl.take k)) rfl zp (Y V 0) 1 1 y.cells rfl (by simp[Hx.cells]) (λj u N=>by
     rw[aal,nza]
     match j,N with
     |0,N=>simp[Hx.cells]at N;subst N;exact aB hV rfl
     |1,N=>simp[Hx.cells]at N;subst N;exact aB hV rfl
     |2,N=>simp[Hx.cells]at N;subst N;exact aB hV rfl) (lQ y) (by unfold maxLen;omega) om l.size (λv' w2 G zh _=>?_)
    have Z:aG R w2:=l.grown zh l.size (λq hq=>eH zp hq);have H:Hid _:=m.oQ.add8 h5 ze d G Z;clear G zh zp hV yj;gi_wp2;exact⟨_,by simp[aH,d7,e5],H.oQ⟩
   |9,_=>
    cases Q
    have d:¬L 15:=λh=>r (s 15 _ h rfl (eP 9) sm rfl);have l:=m.oQ.bw d;gi_wp2;exact⟨(E w.heap.size 2),uhx,m.oQ.addc 9 rfl⟩
   |10,_=>
    cases Q
    have d:¬L 15:=λh=>r (s 15 _ h rfl (eP 10) sm rfl);have l:=m.oQ.bw d;have d9:=m.oQ.c 9 _ rfl (Zq t 9);have k2:=ctq l a2;simp only[aD,Act.put];rw[d9];gi_wp2;exact⟨.slice b.ha (ln b.hl) b.hc,by simp[aH,d9],m.oQ.addc 10 rfl⟩
   |11,_=>
    cases Q
    have d:¬L 15:=λh=>r (s 15 _ h rfl (eP 11) sm rfl);have l:=m.oQ.bw d;gi_wp2;exact⟨I ((k:Nat):Int),uhx,m.oQ.addc 11 rfl⟩
   |12,_=>
    cases Q
    have d:¬L 15:=λh=>r (s 15 _ h rfl (eP 12) sm rfl);have l:=m.oQ.bw d;have J:=m.oQ.c 10 _ rfl (Zq t 10);have T:=m.oQ.c 11 _ rfl (Zq t 11);have H:Hid _:=m.oQ.addc 12 (v:=.slice C (ln b.hl-k) (b.hc-k)) rfl
    rcases HA.oQ with⟨K,S,e2,O,rfl⟩|⟨g,K,S,-,h3⟩
    ·have J:B 10=ms:=by rw[J,K,S,e2];rfl
     have E0:Hid (b.hl=[]/\b.hc=0/\C=none):=⟨S,e2,O⟩;clear K S e2 O;simp only[aD,Act.put];rw[J,T];gi_wp2;exact⟨.slice C (ln b.hl-0) (b.hc-0),by simp[aH,J,T,E0.out],H.oQ⟩
    ·have J:B 10=.slice (some (Y g 0)) (ln b.hl) b.hc:=by rw[J,K]
     clear K
     rcases h3 with⟨zi,O⟩|⟨zi,O⟩
     ·have E3:Hid _:=O
      clear O;simp only[aD,Act.put];rw[J,T];gi_wp2;exact⟨.slice C (ln b.hl-k) (b.hc-k),by simp[aH,J,T,E3.out],H.oQ⟩
     ·have ym:b.hc-k=0:=om
      have E3:Hid _:=O;clear O;simp only[aD,Act.put];rw[J,T];gi_wp2;exact⟨.slice C (ln b.hl-k) (b.hc-k),by simp[aH,J,T,E3.out,ym];omega,by have h:=H.oQ;have e:b.hc=k:=om;simp only[e,nss]at h ⊢;exact h⟩
   |13,_=>
    cases Q
    have d:¬L 15:=λh=>r (s 15 _ h rfl (eP 13) sm rfl);have l:=m.oQ.bw d;have W:=m.oQ.c 12 _ rfl (Zq t 12);have h8:L 8:=Zq t 8;have h5:L 5:=s 8 _ h8 rfl (eD 5) sm rfl;have P:=m.oQ.v8 h8 r;obtain⟨u8,e8⟩:∃u,B 8=u:=⟨_,rfl⟩
    cases C with
    |none=>
     obtain⟨za,yl,zm⟩:=yt.oQ rfl
     obtain⟨g8,M,e9,hc8⟩:∃g8 M,B 8=.slice (some (Y g8 0)) 1 M/\1<=M:=by
      rw[zm]at P;obtain⟨_,⟨_,e⟩|⟨g8,M,_,e,_,_,yx,_⟩⟩:=P
      ·omega
      ·exact⟨g8,M,e,yx⟩
     have H:Hid _:=m.oQ.add13 (v:=B 8) h5 h8 d (by rw[za,zm]at P ⊢;simpa[aJ]using P) l;have W:B 12=ms:=by rw[W,za,yl,zm];rfl
     clear P za yl zm;simp only[aD,Act.put];rw[W,e9];gi_wp2;exact⟨B 8,by simp[aH,W,e9],H.oQ⟩
    |some ad=>
     rw[e8]at P;simp only[aD,Act.put,sit,lcs,lcz];rw[W,e8];refine wpListIn_append_own w' rfl (.tmp 32) (.tmp 36) 30 rfl R.heap.size 74 j0 _ 3 64 underlying30 zu zx zy zz rfl dz u8 (k+1) (aJ Hx.cells (b.hl.take k)++y.cells) rfl P ad (ln b.hl-k) (b.hc-k) (aJ Hx.cells (b.hl.drop k)) rfl (by rw[cP Hx.cells_length,lld]) (λj u N=>yq.oQ ad rfl w' l j u N) (iP lQ _) (by unfold maxLen;omega) om l.size (λv' w2 G zh _=>?_);have Z:aG R w2:=l.grown zh l.size (λq hq=>eH P hq);have zj:w2.ownsRow R.heap.size 74 3 v' (ln b.hl+1) (aJ Hx.cells (b.hl.take k)++y.cells++aJ Hx.cells (b.hl.drop k)):=by rw[show(ln b.hl)+1=k+1+(ln b.hl-k)by omega];exact G
     have H:Hid _:=m.oQ.add13 h5 h8 d zj Z;clear G zj zh P;gi_wp2;exact⟨_,by simp[aH,W,e8],H.oQ⟩
   |14,_=>
    cases Q
    have d:¬L 15:=λh=>r (s 15 _ h rfl (eD 14) sm rfl);have l:=m.oQ.bw d;gi_wp2;exact⟨(E w.heap.size 2),uhx,m.oQ.addc 14 rfl⟩
   |15,_=>
    cases Q
    have yg:=m.oQ.c 14 _ rfl (Zq t 14);have l:=m.oQ.bw r;have ze:L 13:=Zq t 13;have h8:L 8:=s 13 _ ze rfl (eD 8) sm rfl;have h5:L 5:=s 8 _ h8 rfl (eD 5) sm rfl;have zq:=m.oQ.v13 ze r
    obtain⟨a8,c8,zd⟩:∃a c,B 13=.slice a (ln b.hl+1) c:=by
     obtain⟨_,⟨_,e⟩|⟨g8,M,_,e,_⟩⟩:=zq
     ·omega
     ·exact⟨_,_,e⟩
    have k2:=ctq l a2;have kf:∀i,w'.frozen? (Y w.heap.size i)=false:=λi=>by simp[World.frozen?,bJ zr.oQ l]
    have H:Hid _:=m.oQ.add15 (v:=undef) h5 h8 ze r;rw[zd]at H;simp only[aD,Act.put];rw[yg,zd];clear zq;gi_wp2_with fail
    exact⟨undef,by simp[aH,yg,zd],by have h:=H.oQ;simpa using h⟩
   |q+16,h=>omega
  case fin=>
   intro L B w' yh hK;obtain⟨w9,zl,yn,zw⟩:=hK.w15 (yh 15 dz)
   have zk:bW 74 3 Hx.cells w9 R.heap.size (B 13) (b.hl.take k++y::b.hl.drop k):=iV Hx.cells_length (by
    rw[show(ln (b.hl.take k++y::b.hl.drop k))=ln b.hl+1 by simp;omega];have e:aJ Hx.cells (b.hl.take k++y::b.hl.drop k)=aJ Hx.cells (b.hl.take k)++y.cells++aJ Hx.cells (b.hl.drop k):=by simp[aJ]
    rw[e];exact yn)
   obtain⟨a',c',zd⟩:=zk.slice;rw[zd]at zk zw;rw[zw];clear zw yn yh hK;simp only[aD,Act.put];generalize B 0=u0,B 1=u1,B 2=u2,B 3=u3,B 4=u4,B 5=u5,B 6=u6,B 7=u7,B 8=u8,B 9=u9,B 10=u10,B 11=u11,B 12=u12,B 13=u13,B 14=u14;have A9:=aP (bJ zr.oQ zl) 2 (.slice a' (ln (b.hl.take k++y::b.hl.drop k)) c');have bA:aU (λq=>q=w.heap.size) w9 (w9.setCell (Y w.heap.size 2) (.slice a' (ln (b.hl.take k++y::b.hl.drop k)) c')):=(aU.refl (λq=>q=w.heap.size) w9).set (g:=w.heap.size) rfl _ _;have R9:=bF (bJ yd.oQ zl) bA (by show¬(w.heap.size+2=w.heap.size);omega);have N9:=bA.under (aE Nd zl) (nlq _) (λq hq=>by omega);have X9:=zk.butRow bA (λq n f hq _ e=>by omega);obtain⟨Wf,yk⟩:=cI (w9.setCell (Y w.heap.size 2) (.slice a' (ln (b.hl.take k++y::b.hl.drop k)) c'));rw[yk]at A9 R9 N9 X9 ⊢;obtain⟨K,S,e2⟩:=aM A9;obtain⟨r0,r1,r2⟩:=aM R9;have rf:=jS R9;have HX:=aI X9;obtain⟨lq,zv⟩:=cI (ln (b.hl.take k++y::b.hl.drop k));have ys:=aI zv;rw[zv]at e2;clear A9 R9 bA zk X9 zl yk zv;go_wp2_with fail
   have hS:aU (λq=>q=w.heap.size+2) Wf (((Wf.setCell (Y (w.heap.size+2) 0) (I b.now)).setCell (Y (w.heap.size+2) 1) (.slice b.fa (ln b.fl) b.fc)).setCell (Y (w.heap.size+2) 2) (.slice a' lq c')):=(((aU.refl (λq=>q=w.heap.size+2) Wf).set (g:=w.heap.size+2) rfl _ _).set (g:=w.heap.size+2) rfl _ _).set (g:=w.heap.size+2) rfl _ _;exact bpr (v:=Bk.val ⟨b.now,b.fa,b.fl,b.fc,a',b.hl.take k++y::b.hl.drop k,c'⟩) (by simp only[Bk.val,ys.oQ];simp[results,results64,go_sem,r0,r1,r2]) rfl ⟨⟨a',c',by rw[yc.oQ],by rw[yc.oQ];exact(HX.oQ.butRow hS (λq n f hq _ e=>by omega)).weak om⟩,hS.under N9 (nlq _) (λq hq=>by omega)⟩
