import Derived.Test.YtcdbcliaepcpfaaGreatDoorTurn
namespace Go.Proofs.YtcdbcliaepcpfaaGreatDoor
set_option maxRecDepth 100000
set_option maxHeartbeats 1000000
open Go.RowKit
theorem PV (a:List Fx)(l:List Bx)(q r:Option Addr)(u i:Nat)(w:World)(m:Xs 3 Fx.cells w q a)(x:jJ w r l)(o:a.length<=1048576)(hn:l.length<=1048576)(n:1<=l.length):
 aY 213 #[.slice q a.length u,.slice r l.length i] w λe w'=>e=.returned (.bool (kY a l))/\aF w w':=by
 rcases x with h|⟨bl,off,rfl,s⟩;·subst h;simp at n
 have f:=s (l.length-1) (by omega);obtain⟨b,c⟩:=bP (l[l.length-1]'(by omega));rw[←c]at f;have j:=C8 a l (by omega) b c;obtain⟨V,t⟩:=bP (kY a l);rw[←t]at j ⊢;have p:=aG j;clear c s j t;have hq:(1:Int)<=(l.length:Int):=by omega
 obtain⟨c0,c1,c2,c3,c4,c5⟩:=f;by_cases d:b.lo=0
 ·have v:(b.lo==0)=true:=by simp[d]
  have g:=aG d;clear d;go_enter Tryz.func213,Tryz.ntmps213;go_wp2_with (go_at_call 172;refine(nN a _ _ _ _ _ (m.zL (aB (br _ _) _)) o).mono ?_;rintro e w1 ⟨rfl,k⟩);go_ret;exact⟨aD (by rw[p.oQ,decide_eq_true g.oQ];rfl),aC (aB (br _ _) _) k⟩
 ·have v:(b.lo==0)=false:=by simp[d]
  have g:=aG d;clear d;go_enter Tryz.func213,Tryz.ntmps213;go_wp2;go_ret;exact⟨aD (by rw[p.oQ,decide_eq_false g.oQ];rfl),aB (br _ _) _⟩
theorem CJ (a:List Fx)(l:List Bx)(h i:Option Addr)(j b B:Nat)(w:World)(hcell:w.cell? ⟨B,0,none⟩=some (.slice h a.length j))(d:Xs 3 Fx.cells w h a)(k:jJ w i l)(g:a.length<=1048576)(m:l.length<=1048576)(f:1<=l.length):
 aY 212 #[.slice i l.length b,.pointer (some ⟨B,0,none⟩)] w λe w'=>e=.returned (.bool (kY a l))/\aF w w':=by
 go_enter Tryz.func212,Tryz.ntmps212;go_wp2_with (go_at_call 213;refine(PV a l _ _ _ _ _ d k g m f).mono ?_;rintro e w1 ⟨rfl,c⟩);go_ret;exact⟨rfl,c⟩
set_option maxHeartbeats 2000000
def OB (fl:List Fx)(l:List Bx)(k:Nat):Prop:=(0<k->n6 l.length=true)/\(1<k->l.all aK=true)/\(2<k->eY l=true)/\(3<k->kY fl l=true)
theorem IE {n:Nat}(h:n6 n=true):1<=n:=by simp only[n6,dte]at h;omega
theorem CC {a:List Fx}{l:List Bx}(h:kY a l=false):aQ a l=false:=by rw[aQ,h];simp
theorem FW (g:List Fx)(l:List Bx)(x r:Option Addr)(E d G B:Nat)(w:World)(A:Xs 3 Fx.cells w x g)(C:jJ w r l)(D:g.length<=1048576)(v:l.length<=1048576)
 (m:w.cell? ⟨G,0,none⟩=some (.func (.func 209) #[] #[]))(n:w.cell? ⟨G,1,none⟩=some (.func (.func 210) #[] #[]))(o:w.cell? ⟨G,2,none⟩=some (.func (.func 211) #[] #[]))
 (q:w.cell? ⟨G,3,none⟩=some (.func (.func 212) #[] #[.pointer (some ⟨B,0,none⟩)]))(F:w.cell? ⟨B,0,none⟩=some (.slice x g.length E)):
 aY 208 #[.slice r l.length d,.slice (some ⟨G,0,none⟩) 4 4] w λe w'=>e=.returned (.bool (aQ g l))/\aF w w':=by
 obtain⟨V,z⟩:=bP (aQ g l);rw[←z];have t:=aG z;clear z;have s:=aG F;clear F
 go_enter Tryz.func208,Tryz.ntmps208
 go_wp2
 go_loopw [9] (λi wr=>∃k:Nat,k<=4/\i=.int .i64 k/\aF w wr/\Hid (OB g l k)) (λi _=>4-(intOf i).toNat)
 case atStart=>exact⟨0,by omega,rfl,br _ _,by simp[Hid,OB]⟩
 case round=>
  obtain⟨k,hk,rfl,a,b⟩:=hrel;have j:k=0∨k=1∨k=2∨k=3∨k=4:=by omega
  rcases j with H|I|J|K|L
  ·subst H
   have y:=(a.cell (p:=⟨G,0,none⟩) (aA m)).trans m;clear m n o q
   go_wp2_with (go_at_call 209;refine(GC l.length d r _ v).mono ?_;rintro e wr ⟨rfl,rfl⟩)
   ·have c:n6 l.length=false:=nf (by assumption)
    go_ret;exact⟨aD (by rw[t.oQ];exact(xO c).symm),a⟩
   ·have c:n6 l.length=true:=nt (by assumption)
    go_roundw
    case rel=>exact⟨1,by omega,by go_num,a,⟨λ_=>c,λh=>absurd h (by omega),λh=>absurd h (by omega),λh=>absurd h (by omega)⟩⟩
    case measure=>simp[intOf]
  ·subst I
   have y:=(a.cell (p:=⟨G,1,none⟩) (aA n)).trans n;clear m n o q
   go_wp2_with (go_at_call 210;refine(JN l r d _ (C.zL a) v).mono ?_;rintro e u ⟨rfl,f⟩;have a:aF w u:=bL a (nlq _) f)
   ·have c:l.all aK=false:=nf (by assumption)
    go_ret;exact⟨aD (by rw[t.oQ];exact(xD c).symm),a⟩
   ·have c:l.all aK=true:=nt (by assumption)
    go_roundw
    case rel=>exact⟨2,by omega,by go_num,a,⟨λ_=>b.out.1 (by omega),λ_=>c,λh=>absurd h (by omega),λh=>absurd h (by omega)⟩⟩
    case measure=>simp[intOf]
  ·subst J
   have y:=(a.cell (p:=⟨G,2,none⟩) (aA o)).trans o;clear m n o q
   go_wp2_with (go_at_call 211;refine(xV r d l (b.out.2.1 (by omega)) (IE (b.out.1 (by omega))) v _ (C.zL a)).mono ?_;rintro e u ⟨rfl,f⟩;have a:aF w u:=bL a (nlq _) f)
   ·have c:eY l=false:=nf (by assumption)
    go_ret;exact⟨aD (by rw[t.oQ];exact(vB c).symm),a⟩
   ·have c:eY l=true:=nt (by assumption)
    go_roundw
    case rel=>exact⟨3,by omega,by go_num,a,⟨λ_=>b.out.1 (by omega),λ_=>b.out.2.1 (by omega),λ_=>c,λh=>absurd h (by omega)⟩⟩
    case measure=>simp[intOf]
  ·subst K
   have y:=(a.cell (p:=⟨G,3,none⟩) (aA q)).trans q;clear m n o q
   go_wp2_with (go_at_call 212;refine(CJ g l x r E d B _ ((a.cell (p:=⟨B,0,none⟩) (aA s.oQ)).trans s.oQ) (A.zL a) (C.zL a) D v (IE (b.out.1 (by omega)))).mono ?_;rintro e u ⟨rfl,f⟩;have a:aF w u:=bL a (nlq _) f)
   ·have c:kY g l=false:=nf (by assumption)
    go_ret;exact⟨aD (by rw[t.oQ];exact(CC c).symm),a⟩
   ·have c:kY g l=true:=nt (by assumption)
    go_roundw
    case rel=>exact⟨4,by omega,by go_num,a,⟨λ_=>b.out.1 (by omega),λ_=>b.out.2.1 (by omega),λ_=>b.out.2.2.1 (by omega),λ_=>c⟩⟩
    case measure=>simp[intOf]
  ·subst L
   clear m n o q;go_wp2
   go_ret;obtain⟨M,N,O,P⟩:=b.out;exact⟨aD (by rw[t.oQ,zL (M (by omega)) (N (by omega)) (O (by omega)),P (by omega)]),a⟩
theorem pH (b:List Fx)(l:List Bx)(c d:Option Addr)(i a:Nat)(w:World)(g:Xs 3 Fx.cells w c b)(j:jJ w d l)(h:b.length<=1048576)(k:l.length<=1048576):
 aY 153 #[.slice c b.length i,.slice d l.length a] w λe w'=>e=.returned (.bool (aQ b l))/\aF w w':=by
 go_enter Tryz.func153,Tryz.ntmps153;go_wp2_with fail;refine(FW b l c d i a (w.heap.size+1) w.heap.size _ (g.zL (aB (aB (br _ _) _) _)) (j.zL (aB (aB (br _ _) _) _)) h k (by simp) (by simp) (by simp) (by simp) (by simp)).mono ?_;rintro e w1 ⟨rfl,f⟩;go_wp2_with fail;go_ret;exact⟨rfl,aC (aB (aB (br _ _) _) _) f⟩
end Go.Proofs.YtcdbcliaepcpfaaGreatDoor
namespace Go.Proofs.YtcdbcliaepcpfaaGreatDoor
set_option maxRecDepth 100000
set_option maxHeartbeats 4000000
open Go.RowKit Go.Shelf
attribute [local go_sem] Oper.semAt_some
def kL (fl:List Fx)(now:Int)(x:Hx×Bool):Bool:=!x.1.tl.isEmpty&&((x.1.pl x.2).isEmpty||(aQ fl (x.1.pl x.2)&&fJ now (x.1.pl x.2)))
theorem HP.bxs {w W:World}(x:HP w)(a:aF w W):jJ W (x.1.1.pa x.1.2) (x.1.1.pl x.1.2):=by
 obtain⟨⟨h,s⟩,b,hf⟩:=x;cases s;·exact(b.zL a).1
 ·exact(b.zL a).2
theorem HP.len {w:World}(x:HP w):(x.1.1.pl x.1.2).length<=1048576:=by
 obtain⟨⟨h,s⟩,hi,a⟩:=x;cases s;·exact a.tn
 ·exact a.nn
theorem LM (a:List Fx):aQ a []=false:=by simp[aQ,n6]
theorem xE (b:List Fx)(a:Int)(h:Hx):cI b a h=(kL b a (h,false)&&kL b a (h,true)):=by
 rcases ht:h.tl with _|⟨t,ts⟩;·simp[cI,kL,ht,LM]
 ·simp only[cI,kL,Hx.pl,ht,List.isEmpty_cons,Bool.not_false,Bool.true_and,Bool.false_or,Bool.false_eq_true,if_true,if_false,Bool.and_assoc]
theorem ND {w:World} {c:List Fx} {a:Int} {l:List Hx} {b:∀x∈l,x.In w/\x.Fit} (h:∀x∈cE (dU l b) (l.length*2),kL c a x.1=true):l.all (cI c a)=true:=by
 refine lat.2 λx hx=>?_;obtain⟨k,f,rfl⟩:=lgo hx;have d:=h (dU l b (k*2+0)) (by simp only[cE,List.mem_map,List.mem_range];exact⟨_,by omega,rfl⟩);have e:=h (dU l b (k*2+1)) (by simp only[cE,List.mem_map,List.mem_range];exact⟨_,by omega,rfl⟩);rw[tN,cQ l k f]at d;rw[vF,cQ l k f]at e;rw[xE,d,e];rfl
theorem MI {w:World}{c:List Fx}{a:Int}{l:List Hx}{f:∀x∈l,x.In w/\x.Fit}{q:Nat}(hq:q<=l.length*2){x:HP w}(hx:x∈cE (dU l f) q)(h:kL c a x.1=false):l.all (cI c a)=false:=by
 simp only[cE,List.mem_map,List.mem_range]at hx;obtain⟨i,hi,rfl⟩:=hx;have d:i/2<l.length:=by omega
 have:cI c a l[i/2]=false:=by
  rw[xE];rcases(by omega:i%2=0∨i%2=1)with e|e
  ·rw[show i=i/2*2+0 by omega,tN,cQ l _ d]at h;rw[h];rfl
  ·rw[show i=i/2*2+1 by omega,vF,cQ l _ d]at h;rw[h];simp
 refine Bool.eq_false_iff.2 λb=>?_;have:=lat.1 b _ (lgm d);simp_all
theorem uL (b:Bk)(t:List Bx)(ta:Option Addr)(s:Nat)(w:World)(r:Xs 3 Fx.cells w b.fa b.fl)(i:b.fl.length<=1048576)(m:jJ w ta t)(l:t.length<=1048576):
 aY 136 #[b.val,.slice ta t.length s] w λe w'=>e=.returned (.bool (aQ b.fl t&&fJ b.now t))/\aF w w':=by
 have a:aF w (w.alloc (.cells #[.int .i64 b.now,.slice b.fa b.fl.length b.fc,.slice b.ha b.hl.length b.hc] 30)):=aB (br _ _) _;have k:=wnq w (.cells #[.int .i64 b.now,.slice b.fa b.fl.length b.fc,.slice b.ha b.hl.length b.hc] 30);obtain⟨v,j⟩:=cK (aQ b.fl t);obtain⟨v2,c⟩:∃v,fJ b.now t=v:=⟨_,rfl⟩;rw[j,c];have p:Hid _:=j;have f:Hid _:=c;clear j c;go_enter Tryz.func136,Tryz.ntmps136;go_wp2_with fail;refine(pH b.fl t _ _ _ _ _ (r.zL a) (m.zL a) i l).mono ?_;rintro e n ⟨rfl,d⟩;rw[p.oQ];have g:=aC a d;have o:=(d.block _ (bU k)).trans k;have k0:n.cell? ⟨w.heap.size,0,none⟩=some (.int .i64 b.now):=aW o rfl;cases v with
 |false=>
  go_wp2;go_ret;exact⟨rfl,g⟩
 |true=>
  go_wp2_with fail;refine(AU t _ _ b.now n (m.zL g) l).mono ?_;rintro e w2 ⟨rfl,h⟩;rw[f.oQ];have q:=aC g h;go_wp2;go_ret;exact⟨rfl,q⟩
theorem S9 (n:Nat)(hn:6<=n)(b:Bk)(w:World)(hf:Xs 3 Fx.cells w b.fa b.fl)(zi:b.fl.length<=1048576)(hh:Xs 3 Hx.cells w b.ha b.hl)(U:b.hl.length<=1048576)(l:∀h∈b.hl,h.In w/\h.Fit):
 CallsIn Fence.wide n Tryz.prog 97 #[b.val] w λe W'=>e=.returned (.bool (b.hl.all (cI b.fl b.now)))/\aF w W':=by
 have h1:1<=n:=by omega
 refine callsIn_of_wp_marks Tryz.func97 rfl trivial ?_ rfl;simp only[Tryz.ntmps97,lsz,llc,lln,Nat.reduceAdd,Nat.reduceSub,ars,arz,lpt,lap,lna,lca];gi_wp2_with fail
 refine⟨trivial,?_⟩;refine(zV (n-1) (by omega) _ _ _ _).mono ?_;rintro e L ⟨Bh,Bp,G,rfl,i,N,O,R,S⟩;gi_wp2_with fail
 have bK:((w.alloc (.cells #[.int .i64 b.now,.slice b.fa b.fl.length b.fc,.slice b.ha b.hl.length b.hc] 30)).alloc (.cells #[.bool false] 4)).heap[w.heap.size]?=some (.cells #[.int .i64 b.now,.slice b.fa b.fl.length b.fc,.slice b.ha b.hl.length b.hc] 30):=
  (halq _ (.cells #[.bool false] 4) w.heap.size (by simp)).trans (wnq w _)
 have bR:=Boxed.new (w.alloc (.cells #[.int .i64 b.now,.slice b.fa b.fl.length b.fc,.slice b.ha b.hl.length b.hc] 30)) 4 (.bool false);have A:aF w ((w.alloc (.cells #[.int .i64 b.now,.slice b.fa b.fl.length b.fc,.slice b.ha b.hl.length b.hc] 30)).alloc (.cells #[.bool false] 4)):=((br _ w).alloc (nlq _) _).alloc (by simp) _;have Z:((w.alloc (.cells #[.int .i64 b.now,.slice b.fa b.fl.length b.fc,.slice b.ha b.hl.length b.hc] 30)).alloc (.cells #[.bool false] 4)).heap.size=w.heap.size+2:=by simp
 simp only[wsa]at bR;obtain⟨Wa,Q⟩:=cK ((w.alloc (.cells #[.int .i64 b.now,.slice b.fa b.fl.length b.fc,.slice b.ha b.hl.length b.hc] 30)).alloc (.cells #[.bool false] 4));rw[Q]at bK bR A Z i;clear Q;have z:aF w L:=aC A i;have hz0:w.heap.size+2<=L.heap.size:=by have:=i.size;omega
 have M:=(i.block w.heap.size (by omega)).trans bK;have t:Boxed L (w.heap.size+1) 4 (.bool false):=(i.block (w.heap.size+1) (by omega)).trans bR;clear bK bR A Z i
 refine wpIn_rangeFunc_ownH rfl h1 (gf:=228) (lb:=#[.pointer (some ⟨Bh,0,none⟩),.pointer (some ⟨Bp,0,none⟩)]) rfl trivial (enters_of Tryz.func228 (by kernel_rfl) rfl)
  (qG (n-1) Bh Bp G b.hc b.ha b.hl w l U L N O R S (hh.zL z)) FC (EQ (nlq _)) (br _ _) (λ_=>rfl)
  (λf W=>(∀x∈f,kL b.fl b.now x.1=true)/\aF L W)
  (λc f W=>((c=.ret/\∃x∈f,kL b.fl b.now x.1=false)/\Boxed W (w.heap.size+1) 4 (.bool false))/\aF w W)
  (OwnFrom.and (ownFrom_pure _ _) (ownFrom_below (nlq _) (nlq _)))
  (λc=>OwnFrom.and (OwnFrom.and (ownFrom_pure _ _) (Own.from (boxed_own _ _ _) _)) (ownFrom_below (nlq _) (by omega)))
  ⟨by simp,br _ _⟩
  (λx a' W=>∃J,aZ W J 0 x.1.1.cells/\a'={ tmps:=#[b.val,.pointer (some ⟨w.heap.size,0,none⟩),.pointer (some ⟨w.heap.size+1,0,none⟩),.pointer (some ⟨J,0,none⟩),x.1.1.part x.1.2,.pointer (some ⟨w.heap.size,2,none⟩),.slice b.ha b.hl.length b.hc,
   .func (.func 228) #[] #[.pointer (some ⟨Bh,0,none⟩),.pointer (some ⟨Bp,0,none⟩)],x.1.1.val,x.1.1.part x.1.2,undef,undef,undef,undef,undef,undef,undef,undef,undef,undef,undef,undef,undef],defers:=[]})
  (λx a' _ X Y row hs hg hr=>by obtain⟨J,e1,e3⟩:=hs;exact⟨J,eT e1 hg (λr e=>(hr r e).2),e3⟩)
  ?assign ?body ?done ?stop
 case assign=>
  rintro lp f x W K ⟨I,a⟩ B;gi_wp2
  exact B _ _ ((KeepsOthers.alloc _ _).from _) (oZ.of_below ((br _ W).alloc (nlq _) _) a.size) ⟨I,a.alloc a.size _⟩
   ⟨W.heap.size,gC W _ 90 rfl _ _ _,rfl⟩
 case body=>
  rintro lp f x a' W hl' ⟨r,hr⟩ ⟨I,a⟩ ⟨J,e1,rfl⟩ T;have s:=(a.block w.heap.size (by omega)).trans M;have m:Boxed W (w.heap.size+1) 4 (.bool false):=(a.block (w.heap.size+1) (by omega)).trans t;have k0:W.cell? ⟨w.heap.size,0,none⟩=some (.int .i64 b.now):=aW s rfl;have k1:W.cell? ⟨w.heap.size,1,none⟩=some (.slice b.fa b.fl.length b.fc):=aW s rfl;have k:aF w W:=z.trans (a.mono (by omega));have H:=m.cell;have fR:=m.frozen;obtain⟨c0,c1,c2⟩:=iI e1;rw[Nat.zero_add]at c1 c2;have h1':1<=n-1-1:=by omega
  have zh:=x.bxs k;have zg:=x.len;obtain⟨V,hV⟩:=bP (kL b.fl b.now x.1);have HV:=aG hV;have o:V=false->∃y∈f++[x],kL b.fl b.now y.1=false:=λe=>⟨x,lma.2 (.inr (by simp)),by rw[←hV,e]⟩;have g:V=true->∀y∈f++[x],kL b.fl b.now y.1=true:=λe y hy=>(lma.1 hy).elim (I y) (λe'=>by simp at e';subst e';rw[←hV,e]);clear hV I hh l U N O R S M t T
  by_cases ht:x.1.1.tl.length=0
  ·have ze:V=false:=by rw[HV.oQ,kL,List.eq_nil_of_length_eq_zero ht];rfl
   have zk:((x.1.1.tl.length:Int)==0)=true:=by simp[ht]
   gi_wp2;exact⟨(KeepsOthers.setCell _ _ _).from _,⟨⟨rfl,o ze⟩,m.set _⟩,k.setCell (p:=⟨w.heap.size+1,0,none⟩) (by simp) _⟩
  ·have zk:((x.1.1.tl.length:Int)==0)=false:=by simp;exact λe=>ht (by simp[e])
   have za:x.1.1.tl.isEmpty=false:=by rcases e:x.1.1.tl with _|⟨u,us⟩<;>simp_all
   by_cases hpz:0<(x.1.1.pl x.1.2).length
   ·have zj:(x.1.1.pl x.1.2).isEmpty=false:=by rcases e:x.1.1.pl x.1.2 with _|⟨u,us⟩<;>simp_all
    obtain⟨v,hv⟩:=cK (aQ b.fl (x.1.1.pl x.1.2));obtain⟨v2,zb⟩:∃v,fJ b.now (x.1.1.pl x.1.2)=v:=⟨_,rfl⟩;have E:V=(v&&v2):=by rw[HV.oQ,kL,za,zj,hv,zb];simp
    have k2:W.cell? ⟨w.heap.size,2,none⟩=some (.slice b.ha b.hl.length b.hc):=aW s rfl;gi_wp2_with fail
    refine⟨trivial,?_⟩;refine(CallsIn.inRound lp (cw.2 (uL b _ _ _ W (hf.zL k) zi zh zg))).mono ?_;rintro e w1 ⟨rfl,d⟩;rw[hv,zb];have cR1:=(d.cell (p:=⟨w.heap.size+1,0,none⟩) (aA H)).trans H;have fR1:=(d.frozen (p:=⟨w.heap.size+1,0,none⟩) (aA H)).trans fR;have zd:Boxed w1 (w.heap.size+1) 4 (.bool false):=(d.block _ (aA H)).trans m;have P:aF w w1:=k.trans (d.mono k.size);clear H fR k0 k1 k2 c0 c1 c2 e1;obtain⟨vv,zc⟩:=cK ((v&&v2));rw[zc]at E ⊢;clear zc
    cases vv
    ·gi_wp2
     exact⟨((bO d).trans (KeepsOthers.setCell _ _ _)).from _,⟨⟨rfl,o E⟩,zd.set _⟩,P.setCell (p:=⟨w.heap.size+1,0,none⟩) (by simp) _⟩
    ·gi_wp2
     exact⟨(bO d).from _,oZ.of_below d a.size,g E,a.trans (d.mono a.size)⟩
   ·have zf:V=true:=by rw[HV.oQ,kL,za,List.eq_nil_of_length_eq_zero (by omega:(x.1.1.pl x.1.2).length=0)];rfl
    gi_wp2;refine⟨trivial,?_⟩;gi_wp2;exact⟨(KeepsOthers.refl _).from _,oZ.of_below (br _ _) a.size,g zf,a⟩
 case done=>
  rintro D zs W hD rfl ⟨I,a⟩ B;have j:Boxed W (w.heap.size+1) 4 (.bool false):=(a.block _ (by omega)).trans t;have H:=j.cell;have fR:=j.frozen;gi_wp2;have C:=(KeepsOthers.setCell W ⟨w.heap.size+1,0,none⟩ (.bool true)).same D _ B rfl;refine⟨by simp,.inl ⟨_,_,rfl,run_takeDeferred C,?_⟩⟩;have F:=cell_kept (j.set (.bool true)).cell (grownBy_putObj' _ D (.deferred none)) (λr e=>by cases e;exact⟨_,C,rfl⟩);refine⟨.bool true,?_,by rw[ND I],(((z.trans (a.mono (by omega))).setCell (p:=⟨w.heap.size+1,0,none⟩) (by simp) _).trans (belowK_b (w:=w) (nlq _) _ D _ _ (by omega) C rfl rfl))⟩
  simp[results,Tryz.f97,go_sem,F]
 case stop=>
  rintro D c f W hD ⟨q,hq,rfl⟩ ⟨⟨⟨rfl,x,hx,hy⟩,j⟩,a⟩ B;gi_wp2;refine⟨by simp,.inl ⟨_,_,rfl,run_takeDeferred B,?_⟩⟩;have F:=cell_kept j.cell (grownBy_putObj' _ D (.deferred none)) (λr e=>by cases e;exact⟨_,B,rfl⟩);refine⟨.bool false,?_,by rw[MI hq hx hy],a.trans (belowK_b (w:=w) (nlq _) W D _ _ (by omega) B rfl rfl)⟩
  simp[results,Tryz.f97,go_sem,F]
theorem QP (b:Bk)(w:World)(g:Xs 3 Fx.cells w b.fa b.fl)(c:b.fl.length<=1048576)(i:Xs 3 Hx.cells w b.ha b.hl)(d:b.hl.length<=1048576)(a:∀h∈b.hl,h.In w/\h.Fit):
 aY 97 #[b.val] w λe f=>e=.returned (.bool (b.hl.all (cI b.fl b.now)))/\aF w f:=cw.1 (S9 6 (by omega) b w g c i d a)
def tC (nm n:ByteArray):Bool:=!(n.toList==nm.toList)
def pS (nm:ByteArray){w:World}(x:HP w):Bool:=tC nm x.1.1.n
theorem OwnFrom.mono {β:Type}{B b:Nat}{I:β->World->Prop}(h:OwnFrom B I)(f:B<=b):OwnFrom b I:=λs W d a i g c=>h s W d a i g (λr e=>⟨Nat.le_trans f (c r e).1,(c r e).2⟩)
theorem lO {β:Type}{B:Nat}{X:Nat->Prop}{a:World}:OwnFrom B (λ(_:β) W=>bF X a W):=λ_ A A' row h f l=>⟨Nat.le_trans h.size f.size,λk o hx j g=>by
 have b:=h.c k o hx j g;refine(f.block k (bU b) (λe=>?_)).trans b;obtain⟨_,u,i,d⟩:=l k e.symm;rw[b]at i;cases i;rw[g]at d;cases d⟩
theorem AG (n:Nat)(hn:6<=n)(b:Bk)(nm:ByteArray)(u o:Nat)(w0 w:World)(f:∀x∈b.hl,x.In w0/\x.Fit)(zk:b.hl.length<=1048576)(X:Nat->Prop)(g:∀k,X k->k<w.heap.size)(zg:¬X o)(zf:∀p,b.ha=some p->b.hl≠[]->¬X p.block)
 (I:w.heap[u]?=some (.cells #[.int .i64 b.now,.slice b.fa b.fl.length b.fc,.slice b.ha b.hl.length b.hc] 30))(B:w.cell? ⟨o,0,none⟩=some (.string nm))(hh:Xs 3 Hx.cells w b.ha b.hl):
 YD Fence.wide n Tryz.prog 218 #[.pointer (some ⟨u,0,none⟩),.pointer (some ⟨o,0,none⟩)] (λx:HP w0=>#[x.1.1.part x.1.2]) X (λys=>ys=(cE (dU b.hl f) (b.hl.length*2)).filter (pS nm)) (λa=>∃k,k<=b.hl.length*2/\a=(cE (dU b.hl f) k).filter (pS nm)) (b.hl.length*2) w:=λlp J Jx W V U N hY h0=>by
 have h1:1<=n:=by omega
 have L:=(V.block u (bU I)).trans I;have k2:W.cell? ⟨u,2,none⟩=some (.slice b.ha b.hl.length b.hc):=aW L rfl;have hbz:u<W.heap.size:=aA k2;refine callsIn_of_wp_marks Tryz.func218 rfl trivial ?_ rfl;simp only[Tryz.ntmps218,lsz,llc,lln,Nat.reduceAdd,Nat.reduceSub,ars,arz,lpt,lap,lna,lca];gi_wp2_with fail
 refine⟨trivial,?_⟩;refine(ED (n-1) (by omega) _ _ _ _).mono ?_;rintro e y ⟨Bh,Bp,G,rfl,i,zb,zc,zh,zi,zl,zj⟩;have bY:=Boxed.new W 255 (.func (.yield lp) #[] #[]);have H:aF W (W.alloc (.cells #[.func (.yield lp) #[] #[]] 255)):=(br _ W).alloc (nlq _) _;have za:Boxed y W.heap.size 255 (.func (.yield lp) #[] #[]):=(i.block W.heap.size (by simp)).trans bY;have z:aF W y:=aC H i;have hz0:W.heap.size+1<=y.heap.size:=by have:=i.size;simp at this;omega
 have zm:w.heap.size<=W.heap.size:=V.size;have M:y.cell? ⟨o,0,none⟩=some (.string nm):=(z.cell (p:=⟨o,0,none⟩) (Nat.lt_of_lt_of_le (aA B) zm)).trans ((V.cell (p:=⟨o,0,none⟩) (aA B)).trans B);simp only[wsa]at zl zj;have zd:J [] y:=U _ _ _ none h0 (gG z) (λr e=>by cases e);clear bY H i k2;gi_wp2_with fail
 refine wpIn_rangeFunc_ownH rfl h1 (gf:=228) (lb:=#[.pointer (some ⟨Bh,0,none⟩),.pointer (some ⟨Bp,0,none⟩)]) rfl trivial (enters_of Tryz.func228 (by kernel_rfl) rfl)
  (uP (n-1) Bh Bp G b.hc b.ha b.hl w0 f zk y X (λk j=>by have:=g k j;omega) (λe=>by have:=g _ e;omega) (λe=>by have:=g _ e;omega) zf zb zc zh zi (hh.zL (aC V z)))
  OD (NV) (br _ _) (λ_=>rfl)
  (λa d=>J (a.filter (pS nm)) d/\bF X y d)
  (λc a d=>c=.ret/\Jx (a.filter (pS nm)) d)
  (OwnFrom.and (λs A A' m T P E=>(OwnFrom.mono U (by omega)) _ A A' m T P E) lO)
  (λc=>OwnFrom.and (ownFrom_pure _ _) (λs A A' m T P E=>(OwnFrom.mono N (by omega)) _ A A' m T P E))
  ⟨zd,bF.refl _ _⟩
  (λx a' d=>∃F,aZ d F 0 x.1.1.cells/\a'={ tmps:=#[.func (.yield lp) #[] #[],.pointer (some ⟨u,0,none⟩),.pointer (some ⟨o,0,none⟩),.pointer (some ⟨W.heap.size,0,none⟩),.pointer (some ⟨F,0,none⟩),x.1.1.part x.1.2,.pointer (some ⟨u,2,none⟩),.slice b.ha b.hl.length b.hc,
   .func (.func 228) #[] #[.pointer (some ⟨Bh,0,none⟩),.pointer (some ⟨Bp,0,none⟩)],x.1.1.val,x.1.1.part x.1.2,undef,undef,undef,undef,undef,undef,undef,undef,undef,undef],defers:=[]})
  (λx a' _ X Y m T P E=>by obtain⟨F,e1,e3⟩:=T;exact⟨F,eT e1 P (λr e=>(E r e).2),e3⟩)
  ?assign ?body ?done ?stop
 case assign=>
  rintro l2 a x d K ⟨t,j⟩ C;gi_wp2
  exact C _ _ ((KeepsOthers.alloc _ _).from _) (bF.of_below ((br _ d).alloc (nlq _) _)) ⟨U.alloc _ t,j.trans (bF.of_below ((br _ d).alloc (nlq _) _))⟩
   ⟨d.heap.size,gC d _ 90 rfl _ _ _,rfl⟩
 case body=>
  rintro l2 a x a' d hl2 ⟨r,E⟩ ⟨t,j⟩ ⟨F,e1,rfl⟩ S;have cN:=j.cell (p:=⟨o,0,none⟩) zg M;have cY:=j.cell (p:=⟨W.heap.size,0,none⟩) (λe=>by have:=g _ e;simp at this;omega) za.cell;obtain⟨c0,c1,c2⟩:=iI e1;rw[Nat.zero_add]at c1 c2;have h1':1<=n-1-1:=by omega
  obtain⟨v,hv⟩:=cK ((x.1.1.n.toList==nm.toList));have l:pS nm x=!v:=by rw[pS,tC,hv]
  cases v
  ·have Z:(a++[x]).filter (pS nm)=a.filter (pS nm)++[x]:=by simp[List.filter_append,l]
   obtain⟨fn,tmps,assign,body,hy,hR⟩:=hY (a.filter (pS nm)) x d t (Nat.lt_of_le_of_lt (List.length_filter_le _ _) S);have HR:=hR;clear hR hY l;gi_wp2_with fail
   refine RoundIn.mono (sF l2 (qR rfl HR)) ?_;clear HR hy
   rintro e W3 ⟨R,⟨rfl,ze,Q⟩|⟨rfl,O⟩⟩
   ·gi_wp2
    exact⟨KeepsFrom.mono R (by omega),Q,by rw[Z];exact ze,j.trans Q⟩
   ·gi_wp2
    exact⟨KeepsFrom.mono R (by omega),rfl,by rw[Z];exact O⟩
  ·have Z:(a++[x]).filter (pS nm)=a.filter (pS nm):=by simp[List.filter_append,l]
   clear hY l;gi_wp2_with fail
   refine⟨λ_ h=>(by cases h),?_⟩;gi_wp2;exact⟨(KeepsOthers.refl _).from _,bF.refl _ _,by rw[Z];exact t,j⟩
 case done=>
  rintro D zs d hD rfl ⟨t,j⟩ C;gi_wp2;refine⟨by simp,.inl ⟨_,_,rfl,run_takeDeferred C,?_⟩⟩;exact⟨_,results_none rfl _ _ _,⟨_,rfl⟩,.inl ⟨_,rfl,U.putObj _ t (by omega) C rfl⟩⟩
 case stop=>
  rintro D c a d hD ⟨q,hq,rfl⟩ ⟨rfl,t⟩ C;gi_wp2;refine⟨by simp,.inl ⟨_,_,rfl,run_takeDeferred C,?_⟩⟩;exact⟨_,results_none rfl _ _ _,⟨_,rfl⟩,.inr ⟨_,⟨q,hq,rfl⟩,N.putObj _ t (by omega) C rfl⟩⟩
def qS (x y:Hx×Bool):Bool:=fY x.1.n y.1.n&&cW (x.1.pl x.2) (y.1.pl y.2)
def mD (l:List Hx):Bool:=l.all (λa=>l.all (λb=>!(fY a.n b.n&&cA a b)))
abbrev gR {w:World}(l:List Hx)(hg:∀x∈l,x.In w/\x.Fit):List (HP w):=cE (dU l hg) (l.length*2)
theorem nV {w:World}{l:List Hx}{b:∀x∈l,x.In w/\x.Fit}{x:HP w}:x∈gR l b->x.1.1∈l:=by
 intro hx;simp only[cE,List.mem_map,List.mem_range]at hx;obtain⟨i,hi,rfl⟩:=hx;have a:i/2<l.length:=by omega
 show fQ l (i/2)∈l;rw[cQ l _ a];exact lgm a
theorem yY {α:Type}{f:Nat->α}{q n:Nat}(hq:q<=n){x:α}(h:x∈cE f q):x∈cE f n:=by
 simp only[cE,List.mem_map,List.mem_range]at h ⊢;obtain⟨i,hi,e⟩:=h;exact⟨i,by omega,e⟩
theorem qJ {w:World}{l:List Hx}(b:∀x∈l,x.In w/\x.Fit){a:Hx}(ha:a∈l)(s:Bool):∃x∈gR l b,x.1=(a,s):=by
 obtain⟨k,c,rfl⟩:=lgo ha;cases s;·exact⟨dU l b (k*2+0),by simp only[cE,List.mem_map,List.mem_range];exact⟨_,by omega,rfl⟩,by rw[tN,cQ l k c]⟩
 ·exact⟨dU l b (k*2+1),by simp only[cE,List.mem_map,List.mem_range];exact⟨_,by omega,rfl⟩,by rw[vF,cQ l k c]⟩
theorem I4 {w:World}{l:List Hx}{b:∀x∈l,x.In w/\x.Fit}(h:∀x∈gR l b,∀y∈gR l b,qS x.1 y.1=false):mD l=true:=by
 refine lat.2 λa ha=>lat.2 λc m=>?_
 have g:∀s t,(fY a.n c.n&&cW (a.pl s) (c.pl t))=false:=λs t=>by
  obtain⟨x,hx,j⟩:=qJ b ha s;obtain⟨y,o,k⟩:=qJ b m t;have:=h x hx y o;rw[j,k]at this;exact this
 cases hl:fY a.n c.n;·rfl
 ·rw[hl]at g;have d:=g false false;have e:=g false true;have f:=g true false;have i:=g true true;simp only[Hx.pl,Bool.true_and,Bool.false_eq_true,if_true,if_false]at d e f i;simp only[cA,d,e,f,i];rfl
theorem JG {w:World}{l:List Hx}{e:∀x∈l,x.In w/\x.Fit}{x y:HP w}(hx:x∈gR l e)(g:y∈gR l e)(h:qS x.1 y.1=true):mD l=false:=by
 refine Bool.eq_false_iff.2 λb=>?_;have d:=lat.1 (lat.1 b _ (nV hx)) _ (nV g);obtain⟨⟨a,s⟩,ga⟩:=x;obtain⟨⟨c,t⟩,gc⟩:=y;simp only[qS,bat]at h
 have f:cA a c=true:=by
  have:=h.2;cases s<;>cases t<;>simp only[Hx.pl,Bool.false_eq_true,if_true,if_false]at this<;>simp[cA,this]
 simp only[h.1,f]at d;cases d
theorem GG (W:World)(g t:Nat)(c:g=W.heap.size)(b:Value):aZ (W.alloc (.cells #[b] t)) g 0 [b]:=by
 subst c;intro j v a;match j,a with
 |0,a=>cases a;simp
theorem OZ (n:Nat)(hn:8<=n)(b:Bk)(w:World)(hh:Xs 3 Hx.cells w b.ha b.hl)(zd:b.hl.length<=1048576)(k:∀h∈b.hl,h.In w/\h.Fit):
 CallsIn Fence.wide n Tryz.prog 98 #[b.val] w λe g=>e=.returned (.bool (mD b.hl))/\aF w g:=by
 have h1:1<=n:=by omega
 refine callsIn_of_wp_marks Tryz.func98 rfl trivial ?_ rfl;simp only[Tryz.ntmps98,lsz,llc,lln,Nat.reduceAdd,Nat.reduceSub,ars,arz,lpt,lap,lna,lca];gi_wp2_with fail
 refine⟨trivial,?_⟩;refine(zV (n-1) (by omega) _ _ _ _).mono ?_;rintro e L ⟨Bh,Bp,G,rfl,t,zl,zm,zq,zr⟩;gi_wp2_with fail
 have bK:((w.alloc (.cells #[.int .i64 b.now,.slice b.fa b.fl.length b.fc,.slice b.ha b.hl.length b.hc] 30)).alloc (.cells #[.bool false] 4)).heap[w.heap.size]?=some (.cells #[.int .i64 b.now,.slice b.fa b.fl.length b.fc,.slice b.ha b.hl.length b.hc] 30):=
  (halq _ (.cells #[.bool false] 4) w.heap.size (by simp)).trans (wnq w _)
 have bR:=Boxed.new (w.alloc (.cells #[.int .i64 b.now,.slice b.fa b.fl.length b.fc,.slice b.ha b.hl.length b.hc] 30)) 4 (.bool false);have O:aF w ((w.alloc (.cells #[.int .i64 b.now,.slice b.fa b.fl.length b.fc,.slice b.ha b.hl.length b.hc] 30)).alloc (.cells #[.bool false] 4)):=((br _ w).alloc (nlq _) _).alloc (by simp) _;have ze:((w.alloc (.cells #[.int .i64 b.now,.slice b.fa b.fl.length b.fc,.slice b.ha b.hl.length b.hc] 30)).alloc (.cells #[.bool false] 4)).heap.size=w.heap.size+2:=by simp
 simp only[wsa]at bR;obtain⟨Wa,zc⟩:=cK ((w.alloc (.cells #[.int .i64 b.now,.slice b.fa b.fl.length b.fc,.slice b.ha b.hl.length b.hc] 30)).alloc (.cells #[.bool false] 4));rw[zc]at bK bR O ze t;clear zc;have N:aF w L:=aC O t;have hz0:w.heap.size+2<=L.heap.size:=by have:=t.size;omega
 have zf:=(t.block w.heap.size (by omega)).trans bK;have zb:Boxed L (w.heap.size+1) 4 (.bool false):=(t.block (w.heap.size+1) (by omega)).trans bR;clear bK bR O ze t
 refine wpIn_rangeFunc_ownH rfl h1 (gf:=228) (lb:=#[.pointer (some ⟨Bh,0,none⟩),.pointer (some ⟨Bp,0,none⟩)]) rfl trivial (enters_of Tryz.func228 (by kernel_rfl) rfl)
  (qG (n-1) Bh Bp G b.hc b.ha b.hl w k zd L zl zm zq zr (hh.zL N)) FC (EQ (nlq _)) (br _ _) (λ_=>rfl)
  (λA W=>(∀x∈A,∀y∈gR b.hl k,qS x.1 y.1=false)/\aF L W)
  (λc A W=>((c=.ret/\∃x∈A,∃y∈gR b.hl k,qS x.1 y.1=true)/\Boxed W (w.heap.size+1) 4 (.bool false))/\aF w W)
  (OwnFrom.and (ownFrom_pure _ _) (ownFrom_below (nlq _) (nlq _)))
  (λc=>OwnFrom.and (OwnFrom.and (ownFrom_pure _ _) (Own.from (boxed_own _ _ _) _)) (ownFrom_below (nlq _) (by omega)))
  ⟨by simp,br _ _⟩
  (λx a' W=>∃Z J,aZ W Z 0 x.1.1.cells/\aZ W J 0 [x.1.1.part x.1.2]/\a'={ tmps:=#[b.val,.pointer (some ⟨w.heap.size,0,none⟩),.pointer (some ⟨w.heap.size+1,0,none⟩),.pointer (some ⟨Z,0,none⟩),.pointer (some ⟨J,0,none⟩),undef,undef,.pointer (some ⟨w.heap.size,2,none⟩),.slice b.ha b.hl.length b.hc,.func (.func 228) #[] #[.pointer (some ⟨Bh,0,none⟩),.pointer (some ⟨Bp,0,none⟩)],x.1.1.val,x.1.1.part x.1.2,undef,undef,undef,undef,undef,undef,undef,undef,undef,undef,undef,undef,undef,undef,undef],defers:=[]})
  (λx a' _ X Y zy hs hg U=>by obtain⟨Z,J,e1,e2,e3⟩:=hs;exact⟨Z,J,eT e1 hg (λr e=>(U r e).2),eT e2 hg (λr e=>(U r e).2),e3⟩)
  ?assign ?body ?done ?stop
 case assign=>
  rintro V A x W K ⟨hp,f⟩ F;gi_wp2;have S:aF W ((W.alloc x.1.1.obj).alloc (.cells #[x.1.1.part x.1.2] 31)):=((br _ W).alloc (nlq _) _).alloc (by simp) _
  exact F _ _ ((bO S).from _) (oZ.of_below S f.size) ⟨hp,f.trans (S.mono f.size)⟩
   ⟨W.heap.size,W.heap.size+1,(gC W _ 90 rfl _ _ _).zL ((br _ _).alloc (nlq _) _),GG _ _ 31 (by simp) _,rfl⟩
 case body=>
  rintro V A x a' W hl' ⟨r,U⟩ ⟨hp,f⟩ ⟨Z,J,e1,e2,rfl⟩ hlt';have za:=(f.block w.heap.size (by omega)).trans zf;have k2:W.cell? ⟨w.heap.size,2,none⟩=some (.slice b.ha b.hl.length b.hc):=aW za rfl;have zn:aF w W:=N.trans (f.mono (by omega));have zj:1<=n-1-1:=by omega
  gi_wp2_with fail
  refine⟨trivial,?_⟩;refine(CallsIn.inRound V (zV (n-1-1-1) (by omega) _ _ _ _)).mono ?_;rintro e W1 ⟨Ch,Cp,H,rfl,m,zo,zp,zt,zu⟩;have s:aF w W1:=aC zn m;have zv:W1.heap[V]?=some (.loop r):=(m.block V (bU U)).trans U;have zh:=e1.zL m;have zi:=e2.zL m;have zg:Boxed W1 (w.heap.size+1) 4 (.bool false):=(m.block (w.heap.size+1) (by have:=f.size;omega)).trans ((f.block (w.heap.size+1) (by omega)).trans zb);have zw:=m.size;have I:=f.size;clear e1 e2 k2 za;gi_wp2_with fail
  refine wpIn_rangeFunc_ownN (l₀:=V) (r₀:=r) rfl zv zj (gf:=228) (lb:=#[.pointer (some ⟨Ch,0,none⟩),.pointer (some ⟨Cp,0,none⟩)]) rfl trivial (enters_of Tryz.func228 (by kernel_rfl) rfl)
   ((qG (n-1-1-1) Ch Cp H b.hc b.ha b.hl w k zd W1 zo zp zt zu (hh.zL s)).inRound V) FC (EQ (nlq _)) (br _ _) (λ_=>rfl)
   (λi g=>(∀y∈i,qS x.1 y.1=false)/\aF W1 g)
   (λc i g=>((c=.ret/\∃y∈i,qS x.1 y.1=true)/\Boxed g (w.heap.size+1) 4 (.bool false))/\(aF w g/\KeepsFrom L.heap.size W g))
   (OwnFrom.and (ownFrom_pure _ _) (ownFrom_below (nlq _) (nlq _)))
   (λc=>OwnFrom.and (OwnFrom.and (ownFrom_pure _ _) (Own.from (boxed_own _ _ _) _)) (OwnFrom.and (ownFrom_below (nlq _) (by have:=s.size;omega)) (ownFrom_keepsFrom zw)))
   ⟨by simp,br _ _⟩
   (λy M g=>∃B3,aZ g B3 0 y.1.1.cells/\M={ tmps:=#[b.val,.pointer (some ⟨w.heap.size,0,none⟩),.pointer (some ⟨w.heap.size+1,0,none⟩),.pointer (some ⟨Z,0,none⟩),.pointer (some ⟨J,0,none⟩),.pointer (some ⟨B3,0,none⟩),y.1.1.part y.1.2,.pointer (some ⟨w.heap.size,2,none⟩),.slice b.ha b.hl.length b.hc,.func (.func 228) #[] #[.pointer (some ⟨Bh,0,none⟩),.pointer (some ⟨Bp,0,none⟩)],x.1.1.val,x.1.1.part x.1.2,.pointer (some ⟨w.heap.size,2,none⟩),.slice b.ha b.hl.length b.hc,.func (.func 228) #[] #[.pointer (some ⟨Ch,0,none⟩),.pointer (some ⟨Cp,0,none⟩)],y.1.1.val,y.1.1.part y.1.2,undef,undef,undef,undef,undef,undef,undef,undef,undef,undef],defers:=[]})
   (λy M _ X Y zy hs hg U=>by obtain⟨B3,e1,e3⟩:=hs;exact⟨B3,eT e1 hg (λr e=>(U r e).2),e3⟩)
   ?assign2 ?body2 ?done2 ?stop2
  case assign2=>
   rintro l2 i y g K ⟨E,d⟩ F;gi_wp2
   exact F _ _ ((KeepsOthers.alloc _ _).from _) (oZ.of_below ((br _ g).alloc (nlq _) _) d.size) ⟨E,d.alloc d.size _⟩
    ⟨g.heap.size,gC g _ 90 rfl _ _ _,rfl⟩
  case body2=>
   rintro l2 i y M g hl2 _ ⟨E,d⟩ ⟨B3,f1,rfl⟩ hlt2;have B:Boxed g (w.heap.size+1) 4 (.bool false):=(d.block (w.heap.size+1) (by omega)).trans zg;have cR:=B.cell;have fR:=B.frozen;have h2':1<=n-1-1-1-1:=by omega
   obtain⟨c0,c1,c2⟩:=iI (zh.zL d);obtain⟨d0,d1,d2⟩:=iI f1;rw[Nat.zero_add]at c1 c2 d1 d2;have p0:g.cell? ⟨J,0,none⟩=some (x.1.1.part x.1.2):=(zi.zL d) 0 _ rfl;have C:aF w g:=s.trans (d.mono s.size);have Q:KeepsFrom L.heap.size W g:=(bO (aC m d)).from _;obtain⟨v,hv⟩:=cK (Op.bytesLess x.1.1.n.toList y.1.1.n.toList)
   cases v
   ·have l:qS x.1 y.1=false:=by simp only[qS,fY,hv,Bool.false_and]
    gi_wp2;refine⟨trivial,?_⟩;gi_wp2;exact⟨(KeepsOthers.refl _).from _,oZ.of_below (br _ _) d.size,λz hz=>(lma.1 hz).elim (E z) (λe=>by simp at e;subst e;exact l),d⟩
   ·obtain⟨u,hu⟩:=cK (cW (x.1.1.pl x.1.2) (y.1.1.pl y.1.2))
    have l:qS x.1 y.1=u:=by simp only[qS,fY,hv,hu,Bool.true_and]
    gi_wp2_with fail
    refine⟨trivial,?_⟩;refine(CallsIn.inRound l2 (CallsIn.inRound V (cw.2 (uM (x.1.1.pl x.1.2) (y.1.1.pl y.1.2) _ _ _ _ g (x.bxs C) (y.bxs C) x.len y.len)))).mono ?_;rintro e w1 ⟨rfl,j⟩;have zx:((x.1.1.pl x.1.2).any λa=>(y.1.1.pl y.1.2).any (dQ a))=u:=hu;rw[zx];have cR1:=(j.cell (p:=⟨w.heap.size+1,0,none⟩) (aA cR)).trans cR;have fR1:=(j.frozen (p:=⟨w.heap.size+1,0,none⟩) (aA cR)).trans fR;have o:Boxed w1 (w.heap.size+1) 4 (.bool false):=(j.block _ (aA cR)).trans B;clear cR fR c0 c1 c2 d0 d1 d2 p0
    cases u
    ·gi_wp2
     exact⟨(bO j).from _,oZ.of_below j d.size,λz hz=>(lma.1 hz).elim (E z) (λe=>by simp at e;subst e;exact l),d.trans (j.mono d.size)⟩
    ·gi_wp2
     exact⟨((bO j).trans (KeepsOthers.setCell _ _ _)).from _,⟨⟨rfl,y,lma.2 (.inr (by simp)),l⟩,o.set _⟩,(aC C j).setCell (p:=⟨w.heap.size+1,0,none⟩) (by simp) _,Q.trans (((bO j).trans (KeepsOthers.setCell _ _ _)).from _)⟩
  case done2=>
   rintro ys' g rfl ⟨E,d⟩;have R:aF W g:=aC m d;gi_wp2;exact⟨(bO R).from _,oZ.of_below R I,λz hz=>(lma.1 hz).elim (hp z) (λe=>by simp at e;subst e;exact E),f.trans (R.mono I)⟩
  case stop2=>
   rintro c i g ⟨q,E,rfl⟩ ⟨⟨⟨rfl,y,hy,l⟩,B⟩,zk,Q⟩;gi_wp2;exact⟨Q,⟨⟨rfl,x,lma.2 (.inr (by simp)),y,yY E hy,l⟩,B⟩,zk⟩
 case done=>
  rintro D zs W hD rfl ⟨hp,f⟩ F;have o:Boxed W (w.heap.size+1) 4 (.bool false):=(f.block _ (by omega)).trans zb;have cR:=o.cell;have fR:=o.frozen;gi_wp2;have P:=(KeepsOthers.setCell W ⟨w.heap.size+1,0,none⟩ (.bool true)).same D _ F rfl;refine⟨by simp,.inl ⟨_,_,rfl,run_takeDeferred P,?_⟩⟩;have T:=cell_kept (o.set (.bool true)).cell (grownBy_putObj' _ D (.deferred none)) (λr e=>by cases e;exact⟨_,P,rfl⟩);refine⟨.bool true,?_,by rw[I4 hp],(((N.trans (f.mono (by omega))).setCell (p:=⟨w.heap.size+1,0,none⟩) (by simp) _).trans (belowK_b (w:=w) (nlq _) _ D _ _ (by omega) P rfl rfl))⟩
  simp[results,Tryz.f98,go_sem,T]
 case stop=>
  rintro D c A W hD ⟨q,E,rfl⟩ ⟨⟨⟨rfl,x,hx,y,hy,l⟩,o⟩,f⟩ F;gi_wp2;refine⟨by simp,.inl ⟨_,_,rfl,run_takeDeferred F,?_⟩⟩;have T:=cell_kept o.cell (grownBy_putObj' _ D (.deferred none)) (λr e=>by cases e;exact⟨_,F,rfl⟩);refine⟨.bool false,?_,by rw[JG (yY E hx) hy l],f.trans (belowK_b (w:=w) (nlq _) W D _ _ (by omega) F rfl rfl)⟩
  simp[results,Tryz.f98,go_sem,T]
theorem LV (b:Bk)(w:World)(f:Xs 3 Hx.cells w b.ha b.hl)(c:b.hl.length<=1048576)(a:∀h∈b.hl,h.In w/\h.Fit):
 aY 98 #[b.val] w λe d=>e=.returned (.bool (mD b.hl))/\aF w d:=cw.1 (OZ 8 (by omega) b w f c a)
def jO (nm:ByteArray)(t:List Bx)(l:List Hx):Bool:=l.all λh=>!(tC nm h.n&&(cW t h.tl||cW t h.nl))
theorem O5 {w:World}{nm:ByteArray}{t:List Bx}{l:List Hx}{e:∀x∈l,x.In w/\x.Fit}(h:∀x∈(gR l e).filter (pS nm),cW t (x.1.1.pl x.1.2)=false):jO nm t l=true:=by
 refine lat.2 λa ha=>?_;cases ho:tC nm a.n;·rfl
 ·have g:∀s,cW t (a.pl s)=false:=λs=>by
   obtain⟨x,hx,b⟩:=qJ e ha s;have:=h x (List.mem_filter.2 ⟨hx,by rw[pS,b];exact ho⟩);rw[b]at this;exact this
  have c:=g false;have d:=g true;simp only[Hx.pl,Bool.false_eq_true,if_true,if_false]at c d;simp[c,d]
theorem PS {w:World}{nm:ByteArray}{t:List Bx}{l:List Hx}{e:∀x∈l,x.In w/\x.Fit}{q:Nat}(i:q<=l.length*2){x:HP w}(hx:x∈(cE (dU l e) q).filter (pS nm))(h:cW t (x.1.1.pl x.1.2)=true):jO nm t l=false:=by
 refine Bool.eq_false_iff.2 λb=>?_;obtain⟨f,g⟩:=List.mem_filter.1 hx;have d:=lat.1 b _ (nV (yY i f));obtain⟨⟨a,s⟩,ga⟩:=x;have c:tC nm a.n=true:=g;cases s<;>simp only[Hx.pl,Bool.false_eq_true,if_true,if_false]at h<;>simp[c,h]at d
theorem UE (n:Nat)(b:Bk)(nm:ByteArray)(w:World):
 CallsIn Fence.wide n Tryz.prog 157 #[b.val,.string nm] w λe w'=>∃c a,e=.returned (.func (.func 218) #[] #[.pointer (some ⟨c,0,none⟩),.pointer (some ⟨a,0,none⟩)])/\aF w w'/\
  w'.heap[c]?=some (.cells #[.int .i64 b.now,.slice b.fa b.fl.length b.fc,.slice b.ha b.hl.length b.hc] 30)/\w'.cell? ⟨a,0,none⟩=some (.string nm)/\w.heap.size<=a:=by
 refine callsIn_of_wp Tryz.func157 rfl trivial ?_ rfl;simp only[Tryz.ntmps157,lsz,llc,lln,Nat.reduceAdd,Nat.reduceSub,ars,arz,lpt,lap,lna,lca];gi_wp2;go_ret;have d:=Boxed.new (w.alloc (.cells #[.int .i64 b.now,.slice b.fa b.fl.length b.fc,.slice b.ha b.hl.length b.hc] 30)) 9 (.string nm);simp only[wsa]at d;exact⟨w.heap.size,w.heap.size+1,rfl,((br _ w).alloc (nlq _) _).alloc (by simp) _,(halq _ _ w.heap.size (by simp)).trans (wnq w _),d.cell,by omega⟩
end Go.Proofs.YtcdbcliaepcpfaaGreatDoor
namespace Go.Proofs.YtcdbcliaepcpfaaGreatDoor
set_option maxRecDepth 100000
set_option maxHeartbeats 2000000
open Go.RowKit
def DR (l:List Hx):Bool:=gA l.length&&bV Hx.n l
theorem QS (b:Bk)(w:World)(a:Xs 3 Hx.cells w b.ha b.hl)(c:b.hl.length<=1048576)(d:∀h∈b.hl,h.n.size<=9223372036854775807):
 aY 96 #[b.val] w λe w'=>e=.returned (.bool (DR b.hl))/\aF w w':=IP b w a c d
def mU (b:Bk):Bool:=nT b.now&&(cB b.fl&&(DR b.hl&&(b.hl.all (cI b.fl b.now)&&mD b.hl)))
def WS (w:World)(z:Nat)(b:Bk):Prop:=w.heap[z]?=some (.cells #[.int .i64 b.now,.slice b.fa b.fl.length b.fc,.slice b.ha b.hl.length b.hc] 30)
def I0 (b:Bk)(k:Nat):Prop:=(0<k->nT b.now=true)/\(1<k->cB b.fl=true)/\(2<k->DR b.hl=true)/\(3<k->b.hl.all (cI b.fl b.now)=true)/\(4<k->mD b.hl=true)
theorem EJ (b:Bk)(G:Nat)(w:World)(H:Xs 3 Fx.cells w b.fa b.fl)(B:b.fl.length<=1048576)(A:b.fl.length<=b.fc)(E:b.fc<=9223372036854775807)(O:∀f∈b.fl,f.n.size<=9223372036854775807)
 (F:Xs 3 Hx.cells w b.ha b.hl)(x:b.hl.length<=1048576)(g:∀h∈b.hl,h.In w/\h.Fit)
 (r:w.cell? ⟨G,0,none⟩=some (.func (.func 93) #[] #[]))(s:w.cell? ⟨G,1,none⟩=some (.func (.func 94) #[] #[]))(t:w.cell? ⟨G,2,none⟩=some (.func (.func 96) #[] #[]))(u:w.cell? ⟨G,3,none⟩=some (.func (.func 97) #[] #[]))(v:w.cell? ⟨G,4,none⟩=some (.func (.func 98) #[] #[])):
 aY 92 #[b.val,.slice (some ⟨G,0,none⟩) 5 5] w λe w'=>e=.returned (.bool (mU b))/\aF w w':=by
 obtain⟨V,D⟩:=bP (mU b);rw[←D];have y:=aG D;clear D
 go_enter Tryz.func92,Tryz.ntmps92
 go_wp2
 go_loopw [9] (λi wr=>∃k:Nat,k<=5/\i=.int .i64 k/\aF w wr/\WS wr w.heap.size b/\Hid (I0 b k)) (λi _=>5-(intOf i).toNat)
 case atStart=>exact⟨0,by omega,rfl,aB (br _ _) _,wnq w _,by simp[Hid,I0]⟩
 case round=>
  obtain⟨k,hk,rfl,c,a,j⟩:=hrel;have z:wr.cell? ⟨w.heap.size,0,none⟩=some (.int .i64 b.now):=aW a rfl;have b1:wr.cell? ⟨w.heap.size,1,none⟩=some (.slice b.fa b.fl.length b.fc):=aW a rfl;have b2:wr.cell? ⟨w.heap.size,2,none⟩=some (.slice b.ha b.hl.length b.hc):=aW a rfl;have o:k=0∨k=1∨k=2∨k=3∨k=4∨k=5:=by omega
  rcases o with I|J|K|L|M|N
  ·subst I
   have C:=(c.cell (p:=⟨G,0,none⟩) (aA r)).trans r;clear r s t u v
   go_wp2_with (go_at_call 93;refine(QV b _).mono ?_;rintro e q ⟨rfl,d⟩;have a:=(d.block _ (aA z)).trans a;have c:aF w q:=bL c (nlq _) d)
   ·have l:(nT b.now)=false:=nf (by assumption)
    go_ret;exact⟨aD (by rw[y.oQ];exact(show mU b=false from by rw[mU,l];simp).symm),c⟩
   ·have l:(nT b.now)=true:=nt (by assumption)
    go_roundw
    case rel=>exact⟨1,by omega,by go_num,c,a,⟨λ_=>l,λh=>absurd h (by omega),λh=>absurd h (by omega),λh=>absurd h (by omega),λh=>absurd h (by omega)⟩⟩
    case measure=>simp[intOf]
  ·subst J
   have C:=(c.cell (p:=⟨G,1,none⟩) (aA s)).trans s;clear r s t u v
   go_wp2_with (go_at_call 94;refine(QM b _ (H.zL c) B A E O).mono ?_;rintro e q ⟨rfl,d⟩;have a:=(d.block _ (aA z)).trans a;have c:aF w q:=bL c (nlq _) d)
   ·have l:(cB b.fl)=false:=nf (by assumption)
    go_ret;exact⟨aD (by rw[y.oQ];exact(show mU b=false from by rw[mU,l];simp).symm),c⟩
   ·have l:(cB b.fl)=true:=nt (by assumption)
    go_roundw
    case rel=>exact⟨2,by omega,by go_num,c,a,⟨λ_=>j.out.1 (by omega),λ_=>l,λh=>absurd h (by omega),λh=>absurd h (by omega),λh=>absurd h (by omega)⟩⟩
    case measure=>simp[intOf]
  ·subst K
   have C:=(c.cell (p:=⟨G,2,none⟩) (aA t)).trans t;clear r s t u v
   go_wp2_with (go_at_call 96;refine(QS b _ (F.zL c) x (λh m=>(g h m).2.sn)).mono ?_;rintro e q ⟨rfl,d⟩;have a:=(d.block _ (aA z)).trans a;have c:aF w q:=bL c (nlq _) d)
   ·have l:(DR b.hl)=false:=nf (by assumption)
    go_ret;exact⟨aD (by rw[y.oQ];exact(show mU b=false from by rw[mU,l];simp).symm),c⟩
   ·have l:(DR b.hl)=true:=nt (by assumption)
    go_roundw
    case rel=>exact⟨3,by omega,by go_num,c,a,⟨λ_=>j.out.1 (by omega),λ_=>j.out.2.1 (by omega),λ_=>l,λh=>absurd h (by omega),λh=>absurd h (by omega)⟩⟩
    case measure=>simp[intOf]
  ·subst L
   have C:=(c.cell (p:=⟨G,3,none⟩) (aA u)).trans u;clear r s t u v
   go_wp2_with (go_at_call 97;refine(QP b _ (H.zL c) B (F.zL c) x (λh m=>⟨(g h m).1.zL c,(g h m).2⟩)).mono ?_;rintro e q ⟨rfl,d⟩;have a:=(d.block _ (aA z)).trans a;have c:aF w q:=bL c (nlq _) d)
   ·have l:(b.hl.all (cI b.fl b.now))=false:=nf (by assumption)
    go_ret;exact⟨aD (by rw[y.oQ];exact(show mU b=false from by rw[mU,l];simp).symm),c⟩
   ·have l:(b.hl.all (cI b.fl b.now))=true:=nt (by assumption)
    go_roundw
    case rel=>exact⟨4,by omega,by go_num,c,a,⟨λ_=>j.out.1 (by omega),λ_=>j.out.2.1 (by omega),λ_=>j.out.2.2.1 (by omega),λ_=>l,λh=>absurd h (by omega)⟩⟩
    case measure=>simp[intOf]
  ·subst M
   have C:=(c.cell (p:=⟨G,4,none⟩) (aA v)).trans v;clear r s t u v
   go_wp2_with (go_at_call 98;refine(LV b _ (F.zL c) x (λh m=>⟨(g h m).1.zL c,(g h m).2⟩)).mono ?_;rintro e q ⟨rfl,d⟩;have a:=(d.block _ (aA z)).trans a;have c:aF w q:=bL c (nlq _) d)
   ·have l:(mD b.hl)=false:=nf (by assumption)
    go_ret;exact⟨aD (by rw[y.oQ];exact(show mU b=false from by rw[mU,l];simp).symm),c⟩
   ·have l:(mD b.hl)=true:=nt (by assumption)
    go_roundw
    case rel=>exact⟨5,by omega,by go_num,c,a,⟨λ_=>j.out.1 (by omega),λ_=>j.out.2.1 (by omega),λ_=>j.out.2.2.1 (by omega),λ_=>j.out.2.2.2.1 (by omega),λ_=>l⟩⟩
    case measure=>simp[intOf]
  ·subst N
   clear r s t u v;go_wp2
   go_ret;obtain⟨P,Q,R,S,T⟩:=j.out;exact⟨aD (by rw[y.oQ,mU,P (by omega),Q (by omega),R (by omega),S (by omega),T (by omega)];rfl),c⟩
theorem sM:∀a:List UInt8,Op.bytesLess a a=false:=by
 intro a;induction a with
 |nil=>rfl
 |cons x xs ih=>simp[Op.bytesLess,ih]
theorem F1 (x y:UInt8)(xs a:List UInt8):Op.bytesLess (x::xs) (y::a)=true↔x.toNat<y.toNat∨(x.toNat=y.toNat/\Op.bytesLess xs a=true):=by
 simp only[Op.bytesLess,Bool.or_eq_true,dte,bat,beq_iff_eq,UInt8.lt_iff_toNat_lt,←UInt8.toNat_inj]
theorem pV:∀a b c:List UInt8,Op.bytesLess a b=true->Op.bytesLess b c=true->Op.bytesLess a c=true:=by
 intro a;induction a with
 |nil=>intro b c d e;cases b<;>cases c<;>simp_all[Op.bytesLess]
 |cons x xs ih=>
  intro b c d e;cases b with
  |nil=>simp[Op.bytesLess]at d
  |cons y ys=>
   cases c with
   |nil=>simp[Op.bytesLess]at e
   |cons z zs=>
    rw[F1]at d e ⊢;rcases d with d|⟨e1,d⟩<;>rcases e with e|⟨e2,e⟩;·exact .inl (by omega)
    ·exact .inl (by omega)
    ·exact .inl (by omega)
    ·exact .inr ⟨by omega,ih _ _ d e⟩
theorem y9 {l:List Hx}(h:kK Hx.n l=true){i:Nat}:∀(d:Nat) (a:i+d+1<l.length),fY (l[i]'(by omega)).n (l[i+d+1]).n=true
 |0,a=>(iJ Hx.n l).1 h i a
 |d+1,a=>pV _ _ _ (y9 h d (by omega)) ((iJ Hx.n l).1 h (i+d+1) a)
theorem rE (l:List Hx):∀m,m<=l.length->(gL l m=true↔∀i j (_hj:j<m) (k:j<l.length) (b:i<j),cA (l[i]'(by omega)) l[j]=false)
 |0,_=>by simp[gL]
 |m+1,k=>by
  rw[gL,bat,rE l m (by omega),kN,cQ l m (by omega)];constructor
  ·rintro⟨d,e⟩ i j f a b;rcases(by omega:j<m∨j=m)with h|rfl;·exact d i j h a b
   ·have c:(l.take j).any (λg=>cA g l[j])=false:=by simpa using e
    rw[List.any_eq_false]at c;have:=c (l[i]'(by omega)) (List.mem_take_iff_getElem.2 ⟨i,by omega,rfl⟩);simpa using this
  ·intro h;refine⟨λi j f a b=>h i j (by omega) a b,?_⟩
   have c:(l.take m).any (λg=>cA g l[m])=false:=by
    rw[List.any_eq_false];intro x hx;obtain⟨i,b,rfl⟩:=List.mem_take_iff_getElem.1 hx;have:=h i m (by omega) (by omega) (by omega);simpa using this
   rw[c];rfl
theorem GI {l:List Hx}(h:kK Hx.n l=true):mD l=gL l l.length:=by
 rw[Bool.eq_iff_iff,rE l l.length (nlq _)];constructor
 ·intro p i j _ hjl o;have g:=lat.1 (lat.1 p (l[i]'(by omega)) (lgm _)) l[j] (lgm _);have b:=y9 h (i:=i) (j-i-1) (by omega);simp only[show i+(j-i-1)+1=j by omega]at b;rw[b]at g;simpa using g
 ·intro ha;refine lat.2 λa d=>lat.2 λc e=>?_;obtain⟨i,o,rfl⟩:=lgo d;obtain⟨j,m,rfl⟩:=lgo e;rcases(by omega:i<j∨i=j∨j<i)with f|rfl|hgt;·rw[ha i j m m f];simp
  ·have:fY l[i].n l[i].n=false:=sM _;rw[this];rfl
  ·have b:=y9 h (i:=j) (i-j-1) (by omega);simp only[show j+(i-j-1)+1=i by omega]at b;cases h3:fY l[i].n l[j].n;·rfl
   ·have k:fY l[j].n l[j].n=true:=pV _ _ _ b h3;have:fY l[j].n l[j].n=false:=sM _;rw[this]at k;cases k
theorem QR (b:Bk):mU b=aN b:=by
 unfold mU aN DR dN;cases hn:bV Hx.n b.hl;·simp
 ·have ha:kK Hx.n b.hl=true:=by rw[bV,bat]at hn;exact hn.2
  rw[GI ha];simp only[Bool.true_and,Bool.and_true]
theorem kO (b:Bk)(w:World)(k:Xs 3 Fx.cells w b.fa b.fl)(i:b.fl.length<=1048576)(c:b.fl.length<=b.fc)(g:b.fc<=9223372036854775807)(o:∀f∈b.fl,f.n.size<=9223372036854775807)
 (l:Xs 3 Hx.cells w b.ha b.hl)(j:b.hl.length<=1048576)(a:∀h∈b.hl,h.In w/\h.Fit):
 aY 58 #[b.val] w λe w'=>e=.returned (.bool (aN b))/\aF w w':=by
 go_enter Tryz.func58,Tryz.ntmps58;go_wp2_with fail;refine(EJ b (w.heap.size+1) _ (k.zL (aB (aB (br _ _) _) _)) i c g o (l.zL (aB (aB (br _ _) _) _)) j (λh m=>⟨(a h m).1.zL (aB (aB (br _ _) _) _),(a h m).2⟩) (by simp) (by simp) (by simp) (by simp) (by simp)).mono ?_;rintro e w1 ⟨rfl,d⟩;go_wp2_with fail;go_ret;exact⟨aD (QR b),aC (aB (aB (br _ _) _) _) d⟩
set_option maxHeartbeats 4000000
theorem wY (a b:Bx):dQ a b=dQ b a:=by
 have c:lL a b=lL b a:=by simp only[lL,decide_eq_decide];omega
 have d:jS a b=jS b a:=by simp only[jS,decide_eq_decide];omega
 have e:pO a b=pO b a:=by simp only[pO,decide_eq_decide];omega
 rw[dQ,dQ,c,d,e,Bool.and_comm (aK a) (aK b)]
theorem iV (a b:List Bx):cW a b=cW b a:=by
 rw[Bool.eq_iff_iff];simp only[cW,List.any_eq_true];constructor;·rintro⟨x,hx,y,c,h⟩;exact⟨y,c,x,hx,by rw[wY];exact h⟩
 ·rintro⟨x,hx,y,c,h⟩;exact⟨y,c,x,hx,by rw[wY];exact h⟩
def iO (nm:ByteArray)(t:List Bx)(h:Hx):Bool:=!(tC nm h.n&&(cW t h.tl||cW t h.nl))
theorem NO {nm:ByteArray}{t:List Bx}{l:List Hx}{k:Nat}(a:k<l.length)(h:iO nm t l[k]=false):l.all (iO nm t)=false:=by
 rw[Bool.eq_false_iff];intro ha;have:=lat.1 ha l[k] (lgm a);rw[h]at this;cases this
theorem UG (nm:ByteArray)(t:List Bx)(l:List Hx):jO nm t l=l.all (iO nm t):=rfl
theorem FG (b:List Fx)(l:List Bx)(v:Bool)(k:aQ b l=v)(c d:Option Addr)(h a:Nat)(w:World)(f:Xs 3 Fx.cells w c b)(i:jJ w d l)(g:b.length<=1048576)(j:l.length<=1048576):
 aY 153 #[.slice c b.length h,.slice d l.length a] w λe w'=>e=.returned (.bool v)/\aF w w':=by
 subst k;exact pH b l c d h a w f i g j
structure pU (w:World)(b:Bk)(t:List Bx)(ta:Option Addr):Prop where
 hf:Xs 3 Fx.cells w b.fa b.fl
 hnf:b.fl.length<=1048576
 hcap:b.fl.length<=b.fc
 hc2:b.fc<=9223372036854775807
 hs:∀f∈b.fl,f.n.size<=9223372036854775807
 hh:Xs 3 Hx.cells w b.ha b.hl
 hnh:b.hl.length<=1048576
 hgood:∀h∈b.hl,h.In w/\h.Fit
 ht:jJ w ta t
 hnt:t.length<=1048576
theorem pU.zL {w w':World}{b:Bk}{t:List Bx}{ta:Option Addr}(h:pU w b t ta)(a:aF w w'):pU w' b t ta:=
 ⟨h.hf.zL a,h.hnf,h.hcap,h.hc2,h.hs,h.hh.zL a,h.hnh,λx hx=>⟨(h.hgood x hx).1.zL a,(h.hgood x hx).2⟩,h.ht.zL a,h.hnt⟩
theorem CU (b:Bk)(w:World)(z:b.hl=[])(y:Xs 3 Fx.cells w b.fa b.fl)(l:b.fl.length<=1048576)(A:∀f∈b.fl,f.n.size<=9223372036854775807):
 aY 38 #[b.val] w λe w'=>e=.returned (.bool (aN b))/\aF w w':=by
 obtain⟨a,r,g,s,ha,hl',o⟩:=b;simp only at z y l A;subst z;obtain⟨V,t⟩:=bP (aN ⟨a,r,g,s,ha,[],o⟩);rw[←t]
 have q:Hid (V=(nT a&&cB g)):=by
  rw[Hid,t,aN];show(nT a&&(cB g&&(true&&true)))=_;simp
 clear t;have h:aF w (w.alloc (.cells #[.int .i64 a,.slice r g.length s,.slice ha 0 o] 30)):=aB (br _ _) _;have p:=wnq w (.cells #[.int .i64 a,.slice r g.length s,.slice ha 0 o] 30);obtain⟨B,m⟩:∃v,fO a 0 10000=v:=⟨_,rfl⟩;have d:Hid (nT a=B):=m;go_enter Tryz.func38,Tryz.ntmps38;go_wp2_with fail;refine(iH _ _ _ _ m _).mono ?_;rintro e w0 ⟨rfl,u⟩;subst u;cases B with
 |false=>
  go_wp2_with fail;go_ret;exact⟨aD (by rw[q.oQ,d.oQ];rfl),h⟩
 |true=>
 go_wp2_with fail;obtain⟨E,c⟩:∃v,cB g=v:=⟨_,rfl⟩;refine(qL g _ c _ _ _ (y.zL h) l A).mono ?_;rintro e C ⟨rfl,j⟩;have k:=aC h j;have x:=(j.block _ (bU p)).trans p;have k2:C.cell? ⟨w.heap.size,2,none⟩=some (.slice ha 0 o):=aW x rfl;cases E with
 |false=>
  go_wp2_with fail;go_ret;exact⟨aD (by rw[q.oQ,d.oQ,c];rfl),k⟩
 |true=>
  have D:Hid (V=true):=by rw[Hid,q.oQ,d.oQ,c];rfl
  clear c p x j;go_wp2;go_loopw [3] (λi wr=>i=.int .i64 0/\wr=C) (λ_ _=>0);case atStart=>exact⟨rfl,rfl⟩
  case round=>
   obtain⟨rfl,rfl⟩:=hrel;go_wp2;go_ret;exact⟨aD D.oQ.symm,k⟩
theorem J5 (b:Bk)(nm:ByteArray)(t:List Bx)(ta:Option Addr)(n:Nat)(w:World)(m:b.hl=[]):
 aY 46 #[b.val,.string nm,.slice ta t.length n] w λe w'=>e=.returned (.bool true)/\aF w w':=by
 obtain⟨a,g,j,h,ha,hl',f⟩:=b;simp only at m;subst m;have k:=wnq w (.cells #[.int .i64 a,.slice g j.length h,.slice ha 0 f] 30);have c:aF w (w.alloc (.cells #[.int .i64 a,.slice g j.length h,.slice ha 0 f] 30)):=aB (br _ _) _;obtain⟨l,d⟩:=bP (w.alloc (.cells #[.int .i64 a,.slice g j.length h,.slice ha 0 f] 30));go_enter Tryz.func46,Tryz.ntmps46;go_wp2;rw[←d]at k c ⊢;have k2:l.cell? ⟨w.heap.size,2,none⟩=some (.slice ha 0 f):=aW k rfl;clear d;go_loopw [7] (λi wr=>i=.int .i64 0/\wr=l) (λ_ _=>0);case atStart=>exact⟨rfl,rfl⟩
 case round=>
  obtain⟨rfl,rfl⟩:=hrel;go_wp2;go_ret;exact⟨rfl,c⟩
theorem uO {w:World}{b:Bk}{t:List Bx}{ta:Option Addr}(h:pU w b t ta)(v:Bool)(a:aN b=v):aY 58 #[b.val] w λe w'=>e=.returned (.bool v)/\aF w w':=by
 subst a;exact kO b w h.hf h.hnf h.hcap h.hc2 h.hs h.hh h.hnh h.hgood
theorem vJ {w:World}{b:Bk}{t:List Bx}{ta:Option Addr}(h:pU w b t ta)(v:Bool)(g:aN b=v):aY 38 #[b.val] w λe w'=>e=.returned (.bool v)/\aF w w':=by
 subst g;rcases h.hh with f|⟨c,a,e,d⟩;·exact CU b w f h.hf h.hnf h.hs
 exact BZ b c a e w h.hf h.hnf d h.hnh (λx hx=>(h.hgood x hx).1) (λx hx=>(h.hgood x hx).2) h.hs
theorem sO (b:Bk)(nm:ByteArray)(t:List Bx)(ta:Option Addr)(S:Nat)(w:World)(ha:pU w b t ta):
 aY 46 #[b.val,.string nm,.slice ta t.length S] w λe w'=>e=.returned (.bool (jO nm t b.hl))/\aF w w':=by
 obtain⟨V,M⟩:=bP (jO nm t b.hl);rw[←M];have A:Hid (V=b.hl.all (iO nm t)):=M;clear M
 rcases ha.hh with Q|⟨p,d,N,hc⟩
 ·obtain rfl:V=true:=by rw[A.oQ,Q];rfl
  refine(J5 b nm t ta S w Q).mono ?_;rintro e w' ⟨rfl,Z⟩;exact⟨rfl,Z⟩
 have g:aF w (w.alloc (.cells #[.int .i64 b.now,.slice b.fa b.fl.length b.fc,.slice (some ⟨p,d,none⟩) b.hl.length b.hc] 30)):=aB (br _ _) _;have G:=wnq w (.cells #[.int .i64 b.now,.slice b.fa b.fl.length b.fc,.slice (some ⟨p,d,none⟩) b.hl.length b.hc] 30);obtain⟨U,l⟩:=bP (w.alloc (.cells #[.int .i64 b.now,.slice b.fa b.fl.length b.fc,.slice (some ⟨p,d,none⟩) b.hl.length b.hc] 30));have hnh:=ha.hnh;unfold Bk.val;rw[N]
 go_enter Tryz.func46,Tryz.ntmps46
 go_wp2
 rw[←l]at G g ⊢;have HW0:=aG l;clear l
 go_loopw [7] (λi wr=>∃k:Nat,k<=b.hl.length/\i=.int .i64 k/\aF U wr/\Hid ((b.hl.take k).all (iO nm t)=true)) (λi _=>b.hl.length-(intOf i).toNat)
 case atStart=>exact⟨0,nz _,rfl,br _ _,by simp[Hid]⟩
 case round=>
  obtain⟨k,hk,rfl,E,o⟩:=hrel;have q:aF w wr:=g.trans (E.mono g.size);have y:=(E.block _ (bU G)).trans G;have F:wr.cell? ⟨w.heap.size,2,none⟩=some (.slice (some ⟨p,d,none⟩) b.hl.length b.hc):=aW y rfl
  by_cases c:k<b.hl.length
  ·have u:=(hc k c).zL q
   have f:b.hl[k]∈b.hl:=lgm c;have O:=ha.hgood _ f;obtain⟨h,m⟩:=bP (b.hl[k]);rw[←m]at u O;have z:Hid (h=b.hl[k]):=m;clear m f;obtain⟨B,C,D⟩:=iI u;have x:=O.1.zL q;have s:=O.2;obtain⟨v0,P⟩:∃v,(h.n.toList==nm.toList)=v:=⟨_,rfl⟩
   cases v0 with
   |true=>
    go_wp2
    go_roundw
    case rel=>exact⟨k+1,by omega,by go_num,E,by rw[Hid,List.take_succ_eq_append_getElem c,List.all_append,o.out,←z.oQ];simp[iO,tC,P]⟩
    case measure=>simp[intOf];omega
   |false=>
   have R:tC nm h.n=true:=by rw[tC,P];rfl
   go_wp2_with fail
   obtain⟨v1,H⟩:∃v,cW h.tl t=v:=⟨_,rfl⟩;refine(fH _ _ _ H _ _ _ _ _ x.1 (ha.ht.zL q) s.tn ha.hnt).mono ?_;rintro e w1 ⟨rfl,a⟩;have J:=bL E (nlq _) a;have j:=aC q a
   cases v1 with
   |true=>
    clear B C D F y;go_wp2
    go_ret;exact⟨aD (by rw[A.oQ,NO c (by rw[←z.oQ,iO,R,iV t h.tl,H];rfl)]),j⟩
   |false=>
   have T:=(a.block _ (bU y)).trans y;have W:=(a.cell (aA B)).trans B;have X:=(a.cell (aA C)).trans C;have Y:=(a.cell (aA D)).trans D;clear F B C D;have F:w1.cell? ⟨w.heap.size,2,none⟩=some (.slice (some ⟨p,d,none⟩) b.hl.length b.hc):=aW T rfl;go_wp2_with fail
   obtain⟨v2,I⟩:∃v,cW h.nl t=v:=⟨_,rfl⟩;refine(fH _ _ _ I _ _ _ _ _ (x.2.zL a) (ha.ht.zL j) s.nn ha.hnt).mono ?_;rintro e w2 ⟨rfl,r⟩;have K:=bL J (nlq _) r;have L:=aC j r;clear F W X Y
   cases v2 with
   |true=>
    go_wp2
    go_ret;exact⟨aD (by rw[A.oQ,NO c (by rw[←z.oQ,iO,R,iV t h.nl,I];simp)]),L⟩
   |false=>
    go_wp2
    go_roundw
    case rel=>exact⟨k+1,by omega,by go_num,K,by rw[Hid,List.take_succ_eq_append_getElem c,List.all_append,o.out,←z.oQ];simp[iO,iV t h.nl,iV t h.tl,H,I]⟩
    case measure=>simp[intOf];omega
  ·have hke:k=b.hl.length:=by omega
   go_wp2
   go_ret;exact⟨aD (by rw[A.oQ];have:=o.out;rw[ltl (by omega)]at this;exact this.symm),q⟩
end Go.Proofs.YtcdbcliaepcpfaaGreatDoor
namespace Go.Proofs.YtcdbcliaepcpfaaGreatDoor
set_option maxRecDepth 100000
set_option maxHeartbeats 2000000
open Go.RowKit Go.Shelf
attribute [local go_sem] Oper.semAt_some
theorem L0:∀a b:List UInt8,Op.bytesLess a b=false->Op.bytesLess b a=false->a=b
 |[],[],_,_=>rfl
 |[],_::_,h,_=>by simp[Op.bytesLess]at h
 |_::_,[],_,h=>by simp[Op.bytesLess]at h
 |x::xs,y::ys,h1,h2=>by
  have d:¬(x.toNat<y.toNat∨(x.toNat=y.toNat/\Op.bytesLess xs ys=true)):=λh=>by rw[(F1 x y xs ys).2 h]at h1;cases h1
  have f:¬(y.toNat<x.toNat∨(y.toNat=x.toNat/\Op.bytesLess ys xs=true)):=λh=>by rw[(F1 y x ys xs).2 h]at h2;cases h2
  have e:x.toNat=y.toNat:=by omega
  have b1:Op.bytesLess xs ys=false:=by cases h:Op.bytesLess xs ys with|false=>rfl|true=>exact absurd (.inr ⟨e,h⟩) d
  have c:Op.bytesLess ys xs=false:=by cases h:Op.bytesLess ys xs with|false=>rfl|true=>exact absurd (.inr ⟨e.symm,h⟩) f
  rw[UInt8.toNat_inj.1 e,L0 xs ys b1 c]
theorem UB {a b:ByteArray}(c:fY a b=false)(d:fY b a=false):a.toList=b.toList:=L0 _ _ c d
theorem UF {a b:ByteArray}(h:fY a b=true):(a.toList==b.toList)=false:=by
 cases e:(a.toList==b.toList)with
 |false=>rfl
 |true=>
  have c:a.toList=b.toList:=by simpa using e
  have:fY a b=false:=by unfold fY;rw[c];exact sM _
  rw[this]at h;cases h
def oA (a b:ByteArray):Int:=if fY a b then-1 else if fY b a then 1 else 0
theorem VI (a b:ByteArray)(w:World):
 aY 183 #[.string a,.string b] w λe w'=>e=.returned (.int .i64 (oA a b))/\w'=w:=by
 cases h1:fY a b with
 |true=>
  have c:Hid (oA a b=-1):=by rw[Hid,oA,if_pos h1]
  have d:Op.bytesLess a.toList b.toList=true:=h1;clear h1;go_enter Tryz.func183,Tryz.ntmps183;go_wp2;go_ret;exact⟨by rw[c.oQ];rfl,rfl⟩
 |false=>
  have d:Op.bytesLess a.toList b.toList=false:=h1;cases h2:fY b a with
  |true=>
   have c:Hid (oA a b=1):=by rw[Hid,oA,if_neg (by simp[h1]),if_pos h2]
   have f:(a.toList==b.toList)=false:=by rw[BEq.comm];exact UF h2
   clear h1 h2;go_enter Tryz.func183,Tryz.ntmps183;go_wp2;go_ret;exact⟨by rw[c.oQ];rfl,rfl⟩
  |false=>
   have c:Hid (oA a b=0):=by rw[Hid,oA,if_neg (by simp[h1]),if_neg (by simp[h2])]
   have f:(a.toList==b.toList)=true:=by simpa using UB h1 h2
   clear h1 h2;go_enter Tryz.func183,Tryz.ntmps183;go_wp2;go_ret;exact⟨by rw[c.oQ];rfl,rfl⟩
theorem vU (h:Hx)(nm:ByteArray)(w:World):
 aY 182 #[h.val,.string nm] w λe w'=>e=.returned (.int .i64 (oA h.n nm))/\aF w w':=by
 have a:aF w (w.alloc (.cells #[.string h.n,.slice h.ta h.tl.length h.tc,.slice h.na h.nl.length h.nc] 90)):=aB (br _ _) _;go_enter Tryz.func182,Tryz.ntmps182;go_wp2_with (go_at_call 183;refine(VI _ _ _).mono ?_;rintro e w' ⟨rfl,rfl⟩);go_ret;exact⟨rfl,a⟩
theorem NW {a b:ByteArray}:oA a b<0↔fY a b=true:=by
 unfold oA;split;·rename_i h;simp[h]
 ·rename_i h;simp only[h];split<;>simp
theorem UV {a b:ByteArray}:oA a b=0↔a.toList=b.toList:=by
 constructor
 ·intro h;unfold oA at h;split at h;·cases h
  ·rename_i c;split at h;·cases h
   ·rename_i d;exact UB (by simpa using c) (by simpa using d)
 ·intro e;have c:fY a b=false:=by unfold fY;rw[e];exact sM _
  have d:fY b a=false:=by unfold fY;rw[e];exact sM _
  unfold oA;rw[c,d];rfl
structure FD (l:List Hx)(nm:ByteArray)(i:Nat):Prop where
 le:i<=l.length
 lo:∀k (h:k<l.length),k<i->fY l[k].n nm=true
 hi:∀k (h:k<l.length),i<=k->fY l[k].n nm=false
theorem LO {l:List Hx}(h:kK Hx.n l=true){i j:Nat}(hi:i<l.length)(hj:j<l.length)(hij:i<j):fY l[i].n l[j].n=true:=by
 have:=y9 h (i:=i) (j-i-1) (by omega);have e:i+(j-i-1)+1=j:=by omega
 simpa[e]using this
theorem MW (l:List Hx)(L:Option Addr)(F:Nat)(nm:ByteArray)(w:World)(M:Xs 3 Hx.cells w L l)(hn:l.length<=64)(ha:kK Hx.n l=true):
 aY 181 #[.slice L l.length F,.string nm,.func (.func 182) #[] #[]] w λe w'=>(∃(i:Nat) (f:Bool),e=.returned (.tuple #[.int .i64 i,.bool f])/\FD l nm i/\(f=true↔∃h:i<l.length,l[i].n.toList=nm.toList))/\aF w w':=by
 have K:=aG ha;clear ha
 go_enter Tryz.func181,Tryz.ntmps181
 go_wp2
 go_loopw [9,10] (λH I wr=>∃i j:Nat,i<=j/\j<=l.length/\H=.int .i64 i/\I=.int .i64 j/\Hid (∀k (h:k<l.length),k<i->fY l[k].n nm=true)/\Hid (∀k (h:k<l.length),j<=k->fY l[k].n nm=false)/\aF w wr) (λH I _=>(intOf I).toNat-(intOf H).toNat)
 case atStart=>exact⟨0,l.length,nz _,nlq _,rfl,rfl,λk _ h=>absurd h (by omega),λk h h2=>absurd h (by omega),br _ _⟩
 case round=>
  obtain⟨i,j,hij,x,rfl,rfl,r,q,p⟩:=hrel
  by_cases hlt:i<j
  ·obtain⟨m,N⟩:=bP ((i+j)/2:Nat)
   have G:i<=m:=by omega
   have hm2:m<j:=by omega
   have d:m<l.length:=by omega
   rcases M with h|⟨P,J,rfl,s⟩
   ·rw[h]at d;simp at d
   obtain⟨A,B,C⟩:=iI ((s m d).zL p);have y:((i:Int)+(j:Int))/2=(m:Int):=by omega
   cases hcm:fY l[m].n nm with
   |true=>
    have o:decide (oA l[m].n nm<0)=true:=by simpa using NW.2 hcm
    have E:Hid (∀k (h:k<l.length),k<m+1->fY l[k].n nm=true):=λk h R=>by
     by_cases e:k=m
     ·subst e;exact hcm
     ·exact pV _ _ _ (LO K.oQ h d (by omega)) hcm
    clear hcm s N;go_wp2_with fail
    refine(vU l[m] nm wr).mono ?_;rintro e O ⟨rfl,a⟩;have b:=aC p a;clear p a A B C y r;generalize oA l[m].n nm=cc at o;go_wp2
    go_roundw
    case rel=>exact⟨m+1,j,by omega,x,by go_num,rfl,E,q,b⟩
    case measure=>simp[intOf];omega
   |false=>
    have o:decide (oA l[m].n nm<0)=false:=by
     rw[decide_eq_false_iff_not,NW,hcm];simp
    have D:Hid (∀k (h:k<l.length),m<=k->fY l[k].n nm=false):=λk h R=>by
     by_cases e:k=m
     ·subst e;exact hcm
     ·cases g:fY l[k].n nm with
      |false=>rfl
      |true=>
       have:=pV _ _ _ (LO K.oQ d h (by omega)) g;exact this.symm.trans hcm
    clear hcm s N;go_wp2_with fail
    refine(vU l[m] nm wr).mono ?_;rintro e O ⟨rfl,a⟩;have b:=aC p a;clear p a A B C y q;generalize oA l[m].n nm=cc at o;go_wp2
    go_roundw
    case rel=>exact⟨i,m,G,by omega,rfl,rfl,r,D,b⟩
    case measure=>simp[intOf];omega
  ·have v:i=j:=by omega
   subst v;have HP:Hid (FD l nm i):=⟨x,r.out,q.out⟩;clear r q
   by_cases c:i<l.length
   ·rcases M with h|⟨P,J,rfl,s⟩
    ·rw[h]at c;simp at c
    obtain⟨A,B,C⟩:=iI ((s i c).zL p);have z:Hid (oA l[i].n nm=0↔l[i].n.toList=nm.toList):=UV;clear s;go_wp2_with fail
    refine(vU l[i] nm wr).mono ?_;rintro e O ⟨rfl,a⟩;have b:=aC p a;clear p a A B C
    by_cases t:oA l[i].n nm=0
    ·have u:Hid (∃h:i<l.length,l[i].n.toList=nm.toList):=⟨c,z.oQ.1 t⟩
     rw[t];clear z t;go_wp2
     go_ret2
     exact⟨⟨i,true,rfl,HP.oQ,λ_=>u.oQ,λ_=>rfl⟩,b⟩
    ·have u:Hid (¬∃h:i<l.length,l[i].n.toList=nm.toList):=λ⟨_,h⟩=>t (z.oQ.2 h)
     clear z;generalize oA l[i].n nm=cc at t;have Q:(cc==0)=false:=by simpa using t
     go_wp2
     go_ret2
     exact⟨⟨i,false,rfl,HP.oQ,(λh=>by cases h),λh=>absurd h u.oQ⟩,b⟩
   ·have u:Hid (¬∃h:i<l.length,l[i].n.toList=nm.toList):=λ⟨h,_⟩=>c h
    have Q:decide ((i:Int)<(l.length:Int))=false:=by simp;omega
    go_wp2
    go_ret2
    exact⟨⟨i,false,rfl,HP.oQ,(λh=>by cases h),λh=>absurd h u.oQ⟩,p⟩
set_option maxHeartbeats 4000000
theorem CR (n:Nat)(hn:10<=n)(b:Bk)(nm:ByteArray)(t:List Bx)(ta:Option Addr)(k:Nat)(w:World)(hh:Xs 3 Hx.cells w b.ha b.hl)(U:b.hl.length<=1048576)(B:∀h∈b.hl,h.In w/\h.Fit)(ht:jJ w ta t)(hnt:t.length<=1048576):
 CallsIn Fence.wide n Tryz.prog 145 #[b.val,.string nm,.slice ta t.length k] w λe W'=>e=.returned (.bool (jO nm t b.hl))/\aF w W':=by
 have h1:1<=n:=by omega
 refine callsIn_of_wp_marks Tryz.func145 rfl trivial ?_ rfl;simp only[Tryz.ntmps145,lsz,llc,lln,Nat.reduceAdd,Nat.reduceSub,ars,arz,lpt,lap,lna,lca];gi_wp2_with fail
 refine⟨trivial,?_⟩;refine(UE (n-1) b nm _).mono ?_;rintro e E ⟨J,L,rfl,i,R,S,T⟩
 have N:(((w.alloc (.cells #[.int .i64 b.now,.slice b.fa b.fl.length b.fc,.slice b.ha b.hl.length b.hc] 30)).alloc (.cells #[.slice ta t.length k] 31)).alloc (.cells #[.bool false] 4)).heap[w.heap.size+1]?=some (.cells #[.slice ta t.length k] 31):=
  (halq _ _ (w.heap.size+1) (by simp)).trans (by have:=wnq (w.alloc (.cells #[.int .i64 b.now,.slice b.fa b.fl.length b.fc,.slice b.ha b.hl.length b.hc] 30)) (.cells #[.slice ta t.length k] 31);rwa[wsa]at this)
 have I:=Boxed.new ((w.alloc (.cells #[.int .i64 b.now,.slice b.fa b.fl.length b.fc,.slice b.ha b.hl.length b.hc] 30)).alloc (.cells #[.slice ta t.length k] 31)) 4 (.bool false);have o:aF w (((w.alloc (.cells #[.int .i64 b.now,.slice b.fa b.fl.length b.fc,.slice b.ha b.hl.length b.hc] 30)).alloc (.cells #[.slice ta t.length k] 31)).alloc (.cells #[.bool false] 4)):=(((br _ w).alloc (nlq _) _).alloc (by simp) _).alloc (by simp;omega) _;have H:(((w.alloc (.cells #[.int .i64 b.now,.slice b.fa b.fl.length b.fc,.slice b.ha b.hl.length b.hc] 30)).alloc (.cells #[.slice ta t.length k] 31)).alloc (.cells #[.bool false] 4)).heap.size=w.heap.size+3:=by simp
 simp only[wsa]at I;gi_wp2_with fail
 obtain⟨Wa,G⟩:=cK (((w.alloc (.cells #[.int .i64 b.now,.slice b.fa b.fl.length b.fc,.slice b.ha b.hl.length b.hc] 30)).alloc (.cells #[.slice ta t.length k] 31)).alloc (.cells #[.bool false] 4));rw[G]at N I o H i T;clear G;have m:aF w E:=aC o i;have hz0:w.heap.size+3<=E.heap.size:=by have:=i.size;omega
 have O:=(i.block (w.heap.size+1) (by omega)).trans N;have F:Boxed E (w.heap.size+1+1) 4 (.bool false):=(i.block (w.heap.size+1+1) (by omega)).trans I;clear N I o H i
 refine mB (X:=λ_=>False) rfl h1 (gf:=218) (lb:=#[.pointer (some ⟨J,0,none⟩),.pointer (some ⟨L,0,none⟩)]) rfl trivial (enters_of Tryz.func218 (by kernel_rfl) rfl)
  (AG (n-1) (by omega) b nm J L w E B U (λ_=>False) (λ_ h=>h.elim) id (λ_ _ _=>id) R S (hh.zL m)) (br _ _) (λ_=>rfl)
  (λj W=>(∀x∈j,cW t (x.1.1.pl x.1.2)=false)/\aF E W)
  (λc j W=>((c=.ret/\∃x∈j,cW t (x.1.1.pl x.1.2)=true)/\Boxed W (w.heap.size+1+1) 4 (.bool false))/\aF w W)
  (OwnFrom.and (ownFrom_pure _ _) (ownFrom_below (nlq _) (nlq _)))
  (λc=>OwnFrom.and (OwnFrom.and (ownFrom_pure _ _) (Own.from (boxed_own _ _ _) _)) (ownFrom_below (nlq _) (by omega)))
  ⟨by simp,br _ _⟩
  (λx M _=>M={ tmps:=#[b.val,.string nm,.slice ta t.length k,.pointer (some ⟨w.heap.size,0,none⟩),undef,.pointer (some ⟨w.heap.size+1,0,none⟩),.pointer (some ⟨w.heap.size+1+1,0,none⟩),x.1.1.part x.1.2,b.val,.string nm,.func (.func 218) #[] #[.pointer (some ⟨J,0,none⟩),.pointer (some ⟨L,0,none⟩)],x.1.1.part x.1.2,undef,undef,undef],defers:=[]})
  (λx M=>ownFrom_pure _ _)
  ?assign ?body ?done ?stop
 case assign=>
  rintro lp j x W K hi v;gi_wp2;exact v _ _ ((KeepsOthers.refl _).from _) (bF.refl _ _) hi rfl
 case body=>
  rintro lp j x M W hl' _ ⟨V,d⟩ rfl hlt';have P:=(d.block (w.heap.size+1) (by omega)).trans O;have l:Boxed W (w.heap.size+1+1) 4 (.bool false):=(d.block (w.heap.size+1+1) (by omega)).trans F;have cT:W.cell? ⟨w.heap.size+1,0,none⟩=some (.slice ta t.length k):=aW P rfl;have s:aF w W:=m.trans (d.mono (by omega));have C:=l.cell;have Q:=l.frozen;have h1':1<=n-1-1:=by omega
  obtain⟨u,Y⟩:=cK (cW t (x.1.1.pl x.1.2));gi_wp2_with fail
  refine⟨trivial,?_⟩;refine(CallsIn.inRound lp (cw.2 (uM t (x.1.1.pl x.1.2) _ _ _ _ W (ht.zL s) (x.bxs s) hnt x.len))).mono ?_;rintro e w1 ⟨rfl,f⟩;have Z:(t.any λa=>(x.1.1.pl x.1.2).any (dQ a))=u:=Y;rw[Z];have cR1:=(f.cell (p:=⟨w.heap.size+1+1,0,none⟩) (aA C)).trans C;have fR1:=(f.frozen (p:=⟨w.heap.size+1+1,0,none⟩) (aA C)).trans Q;have g:Boxed w1 (w.heap.size+1+1) 4 (.bool false):=(f.block _ (aA C)).trans l;clear C Q cT
  cases u
  ·gi_wp2
   exact⟨(bO f).from _,bF.of_below f,λz hz=>(lma.1 hz).elim (V z) (λe=>by simp at e;subst e;exact Y),d.trans (f.mono d.size)⟩
  ·gi_wp2
   exact⟨((bO f).trans (KeepsOthers.setCell _ _ _)).from _,⟨⟨rfl,x,lma.2 (.inr (by simp)),Y⟩,g.set _⟩,(aC s f).setCell (p:=⟨w.heap.size+1+1,0,none⟩) (by show w.heap.size<=w.heap.size+1+1;omega) _⟩
 case done=>
  rintro D zs W hD rfl ⟨V,d⟩ v;have g:Boxed W (w.heap.size+1+1) 4 (.bool false):=(d.block _ (by omega)).trans F;have C:=g.cell;have Q:=g.frozen;gi_wp2;have y:=(KeepsOthers.setCell W ⟨w.heap.size+1+1,0,none⟩ (.bool true)).same D _ v rfl;refine⟨by simp,.inl ⟨_,_,rfl,run_takeDeferred y,?_⟩⟩;have A:=cell_kept (g.set (.bool true)).cell (grownBy_putObj' _ D (.deferred none)) (λr e=>by cases e;exact⟨_,y,rfl⟩);refine⟨.bool true,?_,by rw[O5 V],(((m.trans (d.mono (by omega))).setCell (p:=⟨w.heap.size+1+1,0,none⟩) (by show w.heap.size<=w.heap.size+1+1;omega) _).trans (belowK_b (w:=w) (nlq _) _ D _ _ (by omega) y rfl rfl))⟩
  simp[results,Tryz.f145,go_sem,A]
 case stop=>
  rintro D c j W hD ⟨q,hq,rfl⟩ ⟨⟨⟨rfl,x,hx,hy⟩,g⟩,d⟩ v;gi_wp2;refine⟨by simp,.inl ⟨_,_,rfl,run_takeDeferred v,?_⟩⟩;have A:=cell_kept g.cell (grownBy_putObj' _ D (.deferred none)) (λr e=>by cases e;exact⟨_,v,rfl⟩);refine⟨.bool false,?_,by rw[PS hq hx hy],d.trans (belowK_b (w:=w) (nlq _) W D _ _ (by omega) v rfl rfl)⟩
  simp[results,Tryz.f145,go_sem,A]
theorem z6 (b:Bk)(nm:ByteArray)(t:List Bx)(ta:Option Addr)(d:Nat)(w:World)(g:Xs 3 Hx.cells w b.ha b.hl)(c:b.hl.length<=1048576)(a:∀h∈b.hl,h.In w/\h.Fit)(i:jJ w ta t)(hnt:t.length<=1048576):
 aY 145 #[b.val,.string nm,.slice ta t.length d] w λe f=>e=.returned (.bool (jO nm t b.hl))/\aF w f:=cw.1 (CR 10 (by omega) b nm t ta d w g c a i hnt)
end Go.Proofs.YtcdbcliaepcpfaaGreatDoor
