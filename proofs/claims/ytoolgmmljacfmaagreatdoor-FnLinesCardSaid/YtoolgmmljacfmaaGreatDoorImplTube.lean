import Derived.Test.YtoolgmmljacfmaaGreatDoorTurn
set_option maxRecDepth 100000
set_option maxHeartbeats 4000000
open List renaming length → ln
open Go.Proofs.Tryz Go.RowKit
namespace Go.Proofs.YtoolgmmljacfmaaGreatDoor
theorem TP (a:List Fx)(l:List Bx)(q r:Oa)(u i:Nat)(w:Wd)(m:Xs 3 Fx.cells w q a)(x:jG w r l)(o:ln a<=1048576)(hn:ln l<=1048576)(n:1<=ln l):
 aW 229 #[.slice q (ln a) u,.slice r (ln l) i] w λe w'=>e=rt (.bool (lT a l))/\aG w w':=by
 rcases x with h|⟨bl,off,rfl,s⟩;·subst h;simp at n
 have f:=s (ln l-1) om;obtain⟨b,c⟩:=bQ (l[ln l-1]'om);rw[←c]at f;have j:=E9 a l om b c;obtain⟨V,t⟩:=bQ (lT a l);rw[←t]at j ⊢;have p:=aI j;clear c s j t;obtain⟨c0,c1,c2,c3,c4,c5⟩:=f;by_cases d:b.lo=0
 ·have v:(b.lo==0)=true:=by simp[d]
  have g:=aI d;clear d;go_enter func229,ntmps229;go_wp2_with (go_at_call 188;refine(oB a _ _ _ _ _ (m.zL (aC (br _ _) _)) o).mono ?_;rintro e w1 ⟨rfl,k⟩);go_ret;exact⟨aF (by rw[p.oQ,det g.oQ];rfl),aE (aC (br _ _) _) k⟩
 ·have v:(b.lo==0)=false:=by simp[d]
  have g:=aI d;clear d;go_enter func229,ntmps229;go_wp2;go_ret;exact⟨aF (by rw[p.oQ,def0 g.oQ];rfl),aC (br _ _) _⟩
theorem EK (a:List Fx)(l:List Bx)(h i:Oa)(j b B:Nat)(w:Wd)(hcell:w.cell? (Y B 0)=some (.slice h (ln a) j))(d:Xs 3 Fx.cells w h a)(k:jG w i l)(g:ln a<=1048576)(m:ln l<=1048576)(f:1<=ln l):
 aW 228 #[.slice i (ln l) b,E B 0] w λe w'=>e=rt (.bool (lT a l))/\aG w w':=by
 go_enter func228,ntmps228;go_wp2_with (go_at_call 229;refine(TP a l _ _ _ _ _ d k g m f).mono ?_;rintro e w1 ⟨rfl,c⟩);go_ret;exact⟨rfl,c⟩
variable {n:Nat}{a:List Fx}{l:List Bx}
def Q7 (fl:List Fx)(l:List Bx)(k:Nat):Prop:=(0<k->oO l.length=true)/\(1<k->l.all aK=true)/\(2<k->fJ l=true)/\(3<k->lT fl l=true)
theorem KS (h:oO n=true):1<=n:=by simp only[oO,dte]at h;omega
theorem DZ (h:lT a l=false):aQ a l=false:=by rw[aQ,h];simp
theorem IT (g:List Fx)(l:List Bx)(v r:Oa)(D d G B:Nat)(w:Wd)(z:Xs 3 Fx.cells w v g)(A:jG w r l)(C:ln g<=1048576)(u:ln l<=1048576)
 (m:w.cell? (Y G 0)=some (.func (.func 225) #[] #[]))(n:w.cell? (Y G 1)=some (.func (.func 226) #[] #[]))(o:w.cell? (Y G 2)=some (.func (.func 227) #[] #[]))
 (q:w.cell? (Y G 3)=some (.func (.func 228) #[] #[E B 0]))(F:w.cell? (Y B 0)=some (.slice v (ln g) D)):
 aW 224 #[.slice r (ln l) d,.slice (some (Y G 0)) 4 4] w λe w'=>e=rt (.bool (aQ g l))/\aG w w':=by
 obtain⟨V,y⟩:=bQ (aQ g l);rw[←y];have t:=aI y;clear y;have s:=aI F;clear F
 go_enter Tryz.func224,Tryz.ntmps224
 go_wp2
 go_loopw [9] (λi wr=>∃k:Nat,k<=4/\i=I k/\aG w wr/\Hid (Q7 g l k)) (λi _=>4-(intOf i).toNat)
 case atStart=>exact⟨0,om,rfl,br _ _,by simp[Hid,Q7]⟩
 case round=>
  obtain⟨k,hk,rfl,a,b⟩:=hrel;have j:k=0∨k=1∨k=2∨k=3∨k=4:=om
  rcases j with H|J|K|L|M
  ·subst H
   have x:=(a.cell (p:=(Y G 0)) (aA m)).trans m;clear m n o q
   go_wp2_with (go_at_call 225;refine(IH (ln l) d r _ u).mono ?_;rintro e wr ⟨rfl,rfl⟩)
   ·have c:oO (ln l)=false:=nf aq
    go_ret;exact⟨aF (by rw[t.oQ];exact(yE c).symm),a⟩
   ·have c:oO (ln l)=true:=nt aq
    go_roundw
    case rel=>exact⟨1,om,gn,a,⟨λ_=>c,λh=>absurd h om,λh=>absurd h om,λh=>absurd h om⟩⟩
    case measure=>simp[intOf]
  ·subst J
   have x:=(a.cell (p:=(Y G 1)) (aA n)).trans n;clear m n o q
   go_wp2_with (go_at_call 226;refine(KL l r d _ (A.zL a) u).mono ?_;rintro e w1 ⟨rfl,f⟩;have a:aG w w1:=bI a (nlq _) f)
   ·have c:l.all aK=false:=nf aq
    go_ret;exact⟨aF (by rw[t.oQ];exact(y6 c).symm),a⟩
   ·have c:l.all aK=true:=nt aq
    go_roundw
    case rel=>exact⟨2,om,gn,a,⟨λ_=>b.out.1 om,λ_=>c,λh=>absurd h om,λh=>absurd h om⟩⟩
    case measure=>simp[intOf]
  ·subst K
   have x:=(a.cell (p:=(Y G 2)) (aA o)).trans o;clear m n o q
   go_wp2_with (go_at_call 227;refine(zG r d l (b.out.2.1 om) (KS (b.out.1 om)) u _ (A.zL a)).mono ?_;rintro e w1 ⟨rfl,f⟩;have a:aG w w1:=bI a (nlq _) f)
   ·have c:fJ l=false:=nf aq
    go_ret;exact⟨aF (by rw[t.oQ];exact(wW c).symm),a⟩
   ·have c:fJ l=true:=nt aq
    go_roundw
    case rel=>exact⟨3,om,gn,a,⟨λ_=>b.out.1 om,λ_=>b.out.2.1 om,λ_=>c,λh=>absurd h om⟩⟩
    case measure=>simp[intOf]
  ·subst L
   have x:=(a.cell (p:=(Y G 3)) (aA q)).trans q;clear m n o q
   go_wp2_with (go_at_call 228;refine(EK g l v r D d B _ ((a.cell (p:=(Y B 0)) (aA s.oQ)).trans s.oQ) (z.zL a) (A.zL a) C u (KS (b.out.1 om))).mono ?_;rintro e w1 ⟨rfl,f⟩;have a:aG w w1:=bI a (nlq _) f)
   ·have c:lT g l=false:=nf aq
    go_ret;exact⟨aF (by rw[t.oQ];exact(DZ c).symm),a⟩
   ·have c:lT g l=true:=nt aq
    go_roundw
    case rel=>exact⟨4,om,gn,a,⟨λ_=>b.out.1 om,λ_=>b.out.2.1 om,λ_=>b.out.2.2.1 om,λ_=>c⟩⟩
    case measure=>simp[intOf]
  ·subst M
   clear m n o q;go_wp2
   go_ret;obtain⟨N,q1,O,P⟩:=b.out;exact⟨aF (by rw[t.oQ,C8 (N om) (q1 om) (O om),P om]),a⟩
theorem pT (b:List Fx)(l:List Bx)(c d:Oa)(i a:Nat)(w:Wd)(g:Xs 3 Fx.cells w c b)(j:jG w d l)(h:ln b<=1048576)(k:ln l<=1048576):
 aW 170 #[.slice c (ln b) i,.slice d (ln l) a] w λe w'=>e=rt (.bool (aQ b l))/\aG w w':=by
 go_enter Tryz.func170,Tryz.ntmps170;go_wp2_with fail;refine(IT b l c d i a (w.heap.size+1) w.heap.size _ (g.zL (aC (aC (br _ _) _) _)) (j.zL (aC (aC (br _ _) _) _)) h k sm sm sm sm sm).mono ?_;rintro e w1 ⟨rfl,f⟩;go_wp2_with fail;go_ret;exact⟨rfl,aE (aC (aC (br _ _) _) _) f⟩
end Go.Proofs.YtoolgmmljacfmaaGreatDoor
namespace Go.Proofs.YtoolgmmljacfmaaGreatDoor
open Go.Shelf
attribute [local go_sem] Oper.semAt_some
variable {w W:Wd}{c:List Fx}{a:Int}{l:List Hx}{q:Nat}
def kT (fl:List Fx)(now:Int)(x:Hx×Bool):Bool:=!x.1.tl.isEmpty&&((x.1.pl x.2).isEmpty||(aQ fl (x.1.pl x.2)&&fY now (x.1.pl x.2)))
theorem HP.bxs (x:HP w)(a:aG w W):jG W (x.1.1.pa x.1.2) (x.1.1.pl x.1.2):=by
 obtain⟨⟨h,s⟩,b,hf⟩:=x;cases s;·exact(b.zL a).1
 ·exact(b.zL a).2
theorem HP.len (x:HP w):ln (x.1.1.pl x.1.2)<=1048576:=by
 obtain⟨⟨h,s⟩,hi,a⟩:=x;cases s;·exact a.tn
 ·exact a.nn
theorem NM (a:List Fx):aQ a []=false:=by simp[aQ,oO]
theorem yH (b:List Fx)(a:Int)(h:Hx):cK b a h=(kT b a (h,false)&&kT b a (h,true)):=by
 rcases ht:h.tl with _|⟨t,c⟩;·simp[cK,kT,ht,NM]
 ·simp only[cK,kT,Hx.pl,ht,List.isEmpty_cons,Bool.not_false,Bool.true_and,Bool.false_or,bft,if_true,if_false,Bool.and_assoc]
theorem OZ {b:∀x∈l,x.In w/\x.Fit} (h:∀x∈cS (eC l b) (ln l*2),kT c a x.1=true):l.all (cK c a)=true:=by
 refine lat.2 λx hx=>?_;obtain⟨k,f,rfl⟩:=lgo hx;have d:=h (eC l b (k*2+0)) (by simp only[cS,lmm,lmr];exact⟨_,om,rfl⟩);have e:=h (eC l b (k*2+1)) (by simp only[cS,lmm,lmr];exact⟨_,om,rfl⟩);rw[vT,dB l k f]at d;rw[uY,dB l k f]at e;rw[yH,d,e];rfl
theorem QE {f:∀x∈l,x.In w/\x.Fit}(hq:q<=ln l*2){x:HP w}(hx:x∈cS (eC l f) q)(h:kT c a x.1=false):l.all (cK c a)=false:=by
 simp only[cS,lmm,lmr]at hx;obtain⟨i,hi,rfl⟩:=hx;have d:i/2<ln l:=om
 have:cK c a l[i/2]=false:=by
  rw[yH];rcases(by omega:i%2=0∨i%2=1)with e|e
  ·rw[show i=i/2*2+0 by omega,vT,dB l _ d]at h;rw[h];rfl
  ·rw[show i=i/2*2+1 by omega,uY,dB l _ d]at h;rw[h];simp
 refine befq.2 λb=>?_;have:=lat.1 b _ (lgm d);simp_all
theorem wF (b:Bk)(t:List Bx)(ta:Oa)(r:Nat)(w:Wd)(q:Xs 3 Fx.cells w b.fa b.fl)(i:ln b.fl<=1048576)(l:jG w ta t)(k:ln t<=1048576):
 aW 153 #[b.val,.slice ta (ln t) r] w λe w'=>e=rt (.bool (aQ b.fl t&&fY b.now t))/\aG w w':=by
 have a:aG w (w.alloc (bo b)):=aC (br _ _) _;have m:=wnq w (bo b);obtain⟨v,j⟩:=cI (aQ b.fl t);obtain⟨v2,c⟩:∃v,fY b.now t=v:=⟨_,rfl⟩;rw[j,c];have o:Hid _:=j;have f:Hid _:=c;clear j c;go_enter func153,ntmps153;go_wp2_with fail;refine(pT b.fl t _ _ _ _ _ (q.zL a) (l.zL a) i k).mono ?_;rintro e w1 ⟨rfl,d⟩;rw[o.oQ];have g:=aE a d;have n:=btq d m;have k0:w1.cell? (ya w 0)=some (I b.now):=aB n rfl;cases v with
 |false=>
  go_wp2;go_ret;exact⟨rfl,g⟩
 |true=>
  go_wp2_with fail;refine(BM t _ _ b.now w1 (l.zL g) k).mono ?_;rintro e w2 ⟨rfl,h⟩;rw[f.oQ];have p:=aE g h;go_wp2;go_ret;exact⟨rfl,p⟩
theorem WL (n:Nat)(hn:6<=n)(b:Bk)(w:Wd)(hf:Xs 3 Fx.cells w b.fa b.fl)(zk:ln b.fl<=1048576)(hh:Xs 3 Hx.cells w b.ha b.hl)(za:ln b.hl<=1048576)(m:∀h∈b.hl,h.In w/\h.Fit):
 CallsIn Fence.wide n prog 118 #[b.val] w λe W'=>e=rt (.bool (b.hl.all (cK b.fl b.now)))/\aG w W':=by
 have h1:1<=n:=om
 refine callsIn_of_wp_marks func118 rfl trivial ?_ rfl;simp only[ntmps118,lsz,llc,lln,Nat.reduceAdd,Nat.reduceSub,ars,arz,lpt,lap,lna,lca];gi_wp2_with fail
 refine⟨trivial,?_⟩;refine(BJ (n-1) om _ _ _ _).mono ?_;rintro e W0 ⟨Bh,Bp,G,rfl,j,P,Q,T,U⟩;gi_wp2_with fail
 have bK:((w.alloc (bo b)).alloc (.cells #[.bool false] 4)).heap[w.heap.size]?=some (bo b):=
  (halq _ (.cells #[.bool false] 4) w.heap.size sm).trans (wnq w _)
 have bR:=Boxed.new (w.alloc (bo b)) 4 (.bool false);have B:aG w ((w.alloc (bo b)).alloc (.cells #[.bool false] 4)):=((br _ w).alloc (nlq _) _).alloc sm _;have zb:((w.alloc (bo b)).alloc (.cells #[.bool false] 4)).heap.size=w.heap.size+2:=by simp
 simp only[wsa]at bR;obtain⟨Wa,S⟩:=cI ((w.alloc (bo b)).alloc (.cells #[.bool false] 4));rw[S]at bK bR B zb j;clear S;have A:aG w W0:=aE B j;have hz0:w.heap.size+2<=W0.heap.size:=by have:=j.size;omega
 have O:=(j.block w.heap.size om).trans bK;have z:Boxed W0 (w.heap.size+1) 4 (.bool false):=(j.block (w.heap.size+1) om).trans bR;clear bK bR B zb j
 refine wpIn_rangeFunc_ownH rfl h1 (gf:=244) (lb:=#[E Bh 0,E Bp 0]) rfl trivial (enters_of func244 kr rfl)
  (rZ (n-1) Bh Bp G b.hc b.ha b.hl w m za W0 P Q T U (hh.zL A)) pS.trans (IC (nlq _)) (br _ _) (λ_=>rfl)
  (λg W=>(∀x∈g,kT b.fl b.now x.1=true)/\aG W0 W)
  (λc g W=>((c=.ret/\∃x∈g,kT b.fl b.now x.1=false)/\Boxed W (w.heap.size+1) 4 (.bool false))/\aG w W)
  (OwnFrom.and (ownFrom_pure _ _) (ownFrom_below (nlq _) (nlq _)))
  (λc=>OwnFrom.and (OwnFrom.and (ownFrom_pure _ _) (Own.from (boxed_own _ _ _) _)) (ownFrom_below (nlq _) om))
  ⟨sm,br _ _⟩
  (λx a' W=>∃N,bC W N 0 x.1.1.cells/\a'={ tmps:=#[b.val,ea w 0,E (w.heap.size+1) 0,E N 0,x.1.1.part x.1.2,ea w 2,hs b,
   .func (.func 244) #[] #[E Bh 0,E Bp 0],x.1.1.val,x.1.1.part x.1.2,undef,undef,undef,undef,undef,undef,undef,undef,undef,undef,undef,undef,undef],defers:=[]})
  (λx a' _ X a row zn hg hr=>by obtain⟨N,e1,e3⟩:=zn;exact⟨N,fH e1 hg (λr e=>(hr r e).2),e3⟩)
  ?assign ?body ?done ?stop
 case assign=>
  rintro lp g x W K ⟨M,d⟩ C;gi_wp2
  exact C _ _ ((KeepsOthers.alloc _ _).from _) (pS.of_below ((br _ W).alloc (nlq _) _) d.size) ⟨M,d.alloc d.size _⟩
   ⟨W.heap.size,gP W _ 74 rfl _ _ _,rfl⟩
 case body=>
  rintro lp g x a' W hl' ⟨r,hr⟩ ⟨M,d⟩ ⟨N,e1,rfl⟩ Z;have t:=(d.block w.heap.size om).trans O;have o:Boxed W (w.heap.size+1) 4 (.bool false):=(d.block (w.heap.size+1) om).trans z;have k0:W.cell? (ya w 0)=some (I b.now):=aB t rfl;have k1:W.cell? (ya w 1)=some (fs b):=aB t rfl;have l:aG w W:=A.trans (d.mono om);have L:=o.cell;have fR:=o.frozen;obtain⟨c0,c1,c2⟩:=gN e1;rw[nza]at c1 c2;have h1':1<=n-1-1:=om
  have zj:=x.bxs l;have zi:=x.len;obtain⟨V,hV⟩:=bQ (kT b.fl b.now x.1);have HV:=aI hV;have s:V=false->∃y∈g++[x],kT b.fl b.now y.1=false:=λe=>⟨x,lma.2 (.inr sm),by rw[←hV,e]⟩;have i:V=true->∀y∈g++[x],kT b.fl b.now y.1=true:=λe y hy=>(lma.1 hy).elim (M y) (λe'=>by simp at e';subst e';rw[←hV,e]);clear hV M hh m za P Q T U O z Z
  by_cases ht:ln x.1.1.tl=0
  ·have zg:V=false:=by rw[HV.oQ,kT,enl ht];rfl
   have zm:((ln x.1.1.tl:Int)==0)=true:=by simp[ht]
   gi_wp2;exact⟨(KeepsOthers.setCell _ _ _).from _,⟨⟨rfl,s zg⟩,o.set _⟩,l.setCell (p:=(Y (w.heap.size+1) 0)) sm _⟩
  ·have zm:((ln x.1.1.tl:Int)==0)=false:=by simp;exact λe=>ht (by simp[e])
   have zc:x.1.1.tl.isEmpty=false:=by rcases e:x.1.1.tl with _|⟨u,us⟩<;>simp_all
   by_cases hpz:0<ln (x.1.1.pl x.1.2)
   ·have zl:(x.1.1.pl x.1.2).isEmpty=false:=by rcases e:x.1.1.pl x.1.2 with _|⟨u,us⟩<;>simp_all
    obtain⟨v,hv⟩:=cI (aQ b.fl (x.1.1.pl x.1.2));obtain⟨v2,zd⟩:∃v,fY b.now (x.1.1.pl x.1.2)=v:=⟨_,rfl⟩;have H:V=(v&&v2):=by rw[HV.oQ,kT,zc,zl,hv,zd];simp
    have k2:W.cell? (ya w 2)=some (hs b):=aB t rfl;gi_wp2_with fail
    refine⟨trivial,?_⟩;refine(CallsIn.inRound lp (cw.2 (wF b _ _ _ W (hf.zL l) zk zj zi))).mono ?_;rintro e w1 ⟨rfl,f⟩;rw[hv,zd];have cR1:=(f.cell (p:=(Y (w.heap.size+1) 0)) (aA L)).trans L;have fR1:=(f.frozen (p:=(Y (w.heap.size+1) 0)) (aA L)).trans fR;have zf:Boxed w1 (w.heap.size+1) 4 (.bool false):=(f.block _ (aA L)).trans o;have R:aG w w1:=l.trans (f.mono l.size);clear L fR k0 k1 k2 c0 c1 c2 e1;obtain⟨vv,ze⟩:=cI ((v&&v2));rw[ze]at H ⊢;clear ze
    cases vv
    ·gi_wp2
     exact⟨((cA f).trans (KeepsOthers.setCell _ _ _)).from _,⟨⟨rfl,s H⟩,zf.set _⟩,R.setCell (p:=(Y (w.heap.size+1) 0)) sm _⟩
    ·gi_wp2
     exact⟨(cA f).from _,pS.of_below f d.size,i H,d.trans (f.mono d.size)⟩
   ·have zh:V=true:=by rw[HV.oQ,kT,zc,enl (by omega:ln (x.1.1.pl x.1.2)=0)];rfl
    gi_wp2;refine⟨trivial,?_⟩;gi_wp2;exact⟨(KeepsOthers.refl _).from _,pS.of_below (br _ _) d.size,i zh,d⟩
 case done=>
  rintro D zs W hD rfl ⟨M,d⟩ C;have k:Boxed W (w.heap.size+1) 4 (.bool false):=(d.block _ om).trans z;have L:=k.cell;have fR:=k.frozen;gi_wp2;have F:=(KeepsOthers.setCell W (Y (w.heap.size+1) 0) (.bool true)).same D _ C rfl;refine⟨sm,.inl ⟨_,_,rfl,rtd F,?_⟩⟩;have J:=cell_kept (k.set (.bool true)).cell (grownBy_putObj' _ D (.deferred none)) (λr e=>by cases e;exact⟨_,F,rfl⟩);refine⟨.bool true,?_,by rw[OZ M],(((A.trans (d.mono om)).setCell (p:=(Y (w.heap.size+1) 0)) sm _).trans (belowK_b (w:=w) (nlq _) _ D _ _ om F rfl rfl))⟩
  simp[results,Tryz.f118,go_sem,J]
 case stop=>
  rintro D c g W hD ⟨q,hq,rfl⟩ ⟨⟨⟨rfl,x,hx,hy⟩,k⟩,d⟩ C;gi_wp2;refine⟨sm,.inl ⟨_,_,rfl,rtd C,?_⟩⟩;have J:=cell_kept k.cell (grownBy_putObj' _ D (.deferred none)) (λr e=>by cases e;exact⟨_,C,rfl⟩);refine⟨.bool false,?_,by rw[QE hq hx hy],d.trans (belowK_b (w:=w) (nlq _) W D _ _ om C rfl rfl)⟩
  simp[results,Tryz.f118,go_sem,J]
theorem UN (b:Bk)(w:Wd)(g:Xs 3 Fx.cells w b.fa b.fl)(c:ln b.fl<=1048576)(i:Xs 3 Hx.cells w b.ha b.hl)(d:ln b.hl<=1048576)(a:∀h∈b.hl,h.In w/\h.Fit):
 aW 118 #[b.val] w λe f=>e=rt (.bool (b.hl.all (cK b.fl b.now)))/\aG w f:=cw.1 (WL 6 om b w g c i d a)
variable {B c:Nat}{X:Nat → Prop}{a:Wd}
def tW (nm n:ByteArray):Bool:=!(n.toList==nm.toList)
def qY (nm:ByteArray){w:World}(x:HP w):Bool:=tW nm x.1.1.n
theorem OwnFrom.mono {β:Type}{a:β->Wd->Prop}(h:OwnFrom B a)(g:B<=c):OwnFrom c a:=λs W f b j i d=>h s W f b j i (λr e=>⟨nlt g (d r e).1,(d r e).2⟩)
theorem mF {β:Type}:OwnFrom B (λ(_:β) W=>bE X a W):=λ_ A A' row h f l=>⟨nlt h.size f.size,λk o hx j g=>by
 have b:=h.c k o hx j g;refine(f.block k (cE b) (λe=>?_)).trans b;obtain⟨_,u,i,d⟩:=l k e.symm;rw[b]at i;cases i;rw[g]at d;cases d⟩
theorem CW (n:Nat)(hn:6<=n)(b:Bk)(nm:Ba)(y t:Nat)(w0 w:Wd)(g:∀x∈b.hl,x.In w0/\x.Fit)(zk:ln b.hl<=1048576)(X:Nat->Prop)(i:∀k,X k->k<w.heap.size)(zg:¬X t)(zf:∀p,b.ha=some p->b.hl≠[]->¬X p.block)
 (M:w.heap[y]?=some (.cells #[I b.now,.slice b.fa (ln b.fl) b.fc,.slice b.ha (ln b.hl) b.hc] 32))(B:w.cell? (Y t 0)=some (.string nm))(hh:Xs 3 Hx.cells w b.ha b.hl):
 SeqO Fence.wide n Tryz.prog 234 #[E y 0,E t 0] (λx:HP w0=>#[x.1.1.part x.1.2]) X (λys=>ys=(cS (eC b.hl g) (ln b.hl*2)).filter (qY nm)) (λd=>∃k,k<=ln b.hl*2/\d=(cS (eC b.hl g) k).filter (qY nm)) (ln b.hl*2) w:=λlp J Jx W hW Z P hY h0=>by
 have h1:1<=n:=om
 have N:=(hW.block y (cE M)).trans M;have k2:W.cell? (Y y 2)=some (hs b):=aB N rfl;have hbz:y<W.heap.size:=aA k2;refine callsIn_of_wp_marks Tryz.func234 rfl trivial ?_ rfl;simp only[Tryz.ntmps234,lsz,llc,lln,Nat.reduceAdd,Nat.reduceSub,ars,arz,lpt,lap,lna,lca];gi_wp2_with fail
 refine⟨trivial,?_⟩;refine(FI (n-1) om _ _ _ _).mono ?_;rintro e W0 ⟨Bh,Bp,G,rfl,j,zb,zc,zh,zi,zl,zj⟩;have bY:=Boxed.new W 272 (.func (.yield lp) #[] #[]);have L:aG W (W.alloc (.cells #[.func (.yield lp) #[] #[]] 272)):=(br _ W).alloc (nlq _) _;have za:Boxed W0 W.heap.size 272 (.func (.yield lp) #[] #[]):=(j.block W.heap.size sm).trans bY;have z:aG W W0:=aE L j;have hz0:W.heap.size+1<=W0.heap.size:=by have:=j.size;simp at this;omega
 have zm:w.heap.size<=W.heap.size:=hW.size;have O:W0.cell? (Y t 0)=some (.string nm):=(z.cell (p:=(Y t 0)) (nll (aA B) zm)).trans ((hW.cell (p:=(Y t 0)) (aA B)).trans B);simp only[wsa]at zl zj;have zd:J [] W0:=Z _ _ _ none h0 (gK z) (λr e=>by cases e);clear bY L j k2;gi_wp2_with fail
 refine wpIn_rangeFunc_ownH rfl h1 (gf:=244) (lb:=#[E Bh 0,E Bp 0]) rfl trivial (enters_of Tryz.func244 kr rfl)
  (wC (n-1) Bh Bp G b.hc b.ha b.hl w0 g zk W0 X (λk l=>by have:=i k l;omega) (λe=>by have:=i _ e;omega) (λe=>by have:=i _ e;omega) zf zb zc zh zi (hh.zL (aE hW z)))
  QV (QZ) (br _ _) (λ_=>rfl)
  (λd f=>J (d.filter (qY nm)) f/\bE X W0 f)
  (λc d f=>c=.ret/\Jx (d.filter (qY nm)) f)
  (OwnFrom.and (λs A A' o V R F=>(OwnFrom.mono Z om) _ A A' o V R F) mF)
  (λc=>OwnFrom.and (ownFrom_pure _ _) (λs A A' o V R F=>(OwnFrom.mono P om) _ A A' o V R F))
  ⟨zd,bE.refl _ _⟩
  (λx a' f=>∃H,bC f H 0 x.1.1.cells/\a'={ tmps:=#[.func (.yield lp) #[] #[],E y 0,E t 0,ea W 0,E H 0,x.1.1.part x.1.2,E y 2,hs b,
   .func (.func 244) #[] #[E Bh 0,E Bp 0],x.1.1.val,x.1.1.part x.1.2,undef,undef,undef,undef,undef,undef,undef,undef,undef,undef],defers:=[]})
  (λx a' _ X a o V R F=>by obtain⟨H,e1,e3⟩:=V;exact⟨H,fH e1 R (λr e=>(F r e).2),e3⟩)
  ?assign ?body ?done ?stop
 case assign=>
  rintro l2 d x f K ⟨u,l⟩ C;gi_wp2
  exact C _ _ ((KeepsOthers.alloc _ _).from _) (bE.of_below ((br _ f).alloc (nlq _) _)) ⟨Z.alloc _ u,l.trans (bE.of_below ((br _ f).alloc (nlq _) _))⟩
   ⟨f.heap.size,gP f _ 74 rfl _ _ _,rfl⟩
 case body=>
  rintro l2 d x a' f hl2 ⟨r,F⟩ ⟨u,l⟩ ⟨H,e1,rfl⟩ U;have cN:=l.cell (p:=(Y t 0)) zg O;have cY:=l.cell (p:=(ya W 0)) (λe=>by have:=i _ e;simp at this;omega) za.cell;obtain⟨c0,c1,c2⟩:=gN e1;rw[nza]at c1 c2;have h1':1<=n-1-1:=om
  obtain⟨v,hv⟩:=cI ((x.1.1.n.toList==nm.toList));have m:qY nm x=!v:=by rw[qY,tW,hv]
  cases v
  ·have hf:(d++[x]).filter (qY nm)=d.filter (qY nm)++[x]:=by simp[m]
   obtain⟨fn,tmps,assign,body,hy,hR⟩:=hY (d.filter (qY nm)) x f u (Nat.lt_of_le_of_lt (List.length_filter_le _ _) U);have HR:=hR;clear hR hY m;gi_wp2_with fail
   refine RoundIn.mono (tP l2 (sF rfl HR)) ?_;clear HR hy
   rintro e W3 ⟨T,⟨rfl,ze,S⟩|⟨rfl,Q⟩⟩
   ·gi_wp2
    exact⟨KeepsFrom.mono T om,S,by rw[hf];exact ze,l.trans S⟩
   ·gi_wp2
    exact⟨KeepsFrom.mono T om,rfl,by rw[hf];exact Q⟩
  ·have hf:(d++[x]).filter (qY nm)=d.filter (qY nm):=by simp[m]
   clear hY m;gi_wp2_with fail
   refine⟨λ_ h=>(by cases h),?_⟩;gi_wp2;exact⟨(KeepsOthers.refl _).from _,bE.refl _ _,by rw[hf];exact u,l⟩
 case done=>
  rintro D zs f hD rfl ⟨u,l⟩ C;gi_wp2;refine⟨sm,.inl ⟨_,_,rfl,rtd C,?_⟩⟩;exact⟨_,results_none rfl _ _ _,⟨_,rfl⟩,.inl ⟨_,rfl,Z.putObj _ u om C rfl⟩⟩
 case stop=>
  rintro D c d f hD ⟨q,hq,rfl⟩ ⟨rfl,u⟩ C;gi_wp2;refine⟨sm,.inl ⟨_,_,rfl,rtd C,?_⟩⟩;exact⟨_,results_none rfl _ _ _,⟨_,rfl⟩,.inr ⟨_,⟨q,hq,rfl⟩,P.putObj _ u om C rfl⟩⟩
variable {n:Nat}{a:Hx}
def rT (x y:Hx×Bool):Bool:=gE x.1.n y.1.n&&dD (x.1.pl x.2) (y.1.pl y.2)
def nG (l:List Hx):Bool:=l.all (λa=>l.all (λb=>!(gE a.n b.n&&cJ a b)))
abbrev iG {w:World}(l:List Hx)(hg:∀x∈l,x.In w/\x.Fit):List (HP w):=cS (eC l hg) (l.length*2)
theorem pE {b:∀x∈l,x.In w/\x.Fit}{x:HP w}:x∈iG l b->x.1.1∈l:=by
 intro hx;simp only[cS,lmm,lmr]at hx;obtain⟨i,hi,rfl⟩:=hx;have a:i/2<ln l:=om;show gB l (i/2)∈l;rw[dB l _ a];exact lgm a
theorem AE {α:Type}{f:Nat->α}(hq:q<=n){x:α}(h:x∈cS f q):x∈cS f n:=by
 simp only[cS,lmm,lmr]at h ⊢;obtain⟨i,hi,e⟩:=h;exact⟨i,om,e⟩
theorem rY (b:∀x∈l,x.In w/\x.Fit)(ha:a∈l)(s:Bool):∃x∈iG l b,x.1=(a,s):=by
 obtain⟨k,c,rfl⟩:=lgo ha;cases s;·exact⟨eC l b (k*2+0),by simp only[cS,lmm,lmr];exact⟨_,om,rfl⟩,by rw[vT,dB l k c]⟩
 ·exact⟨eC l b (k*2+1),by simp only[cS,lmm,lmr];exact⟨_,om,rfl⟩,by rw[uY,dB l k c]⟩
theorem NA {b:∀x∈l,x.In w/\x.Fit}(h:∀x∈iG l b,∀y∈iG l b,rT x.1 y.1=false):nG l=true:=by
 refine lat.2 λa ha=>lat.2 λc m=>?_
 have g:∀s t,(gE a.n c.n&&dD (a.pl s) (c.pl t))=false:=λs t=>by
  obtain⟨x,hx,j⟩:=rY b ha s;obtain⟨y,o,k⟩:=rY b m t;have:=h x hx y o;rw[j,k]at this;exact this
 cases hl:gE a.n c.n;·rfl
 ·rw[hl]at g;have d:=g false false;have e:=g false true;have f:=g true false;have i:=g true true;simp only[Hx.pl,Bool.true_and,bft,if_true,if_false]at d e f i;simp only[cJ,d,e,f,i];rfl
theorem KT {e:∀x∈l,x.In w/\x.Fit}{x y:HP w}(hx:x∈iG l e)(g:y∈iG l e)(h:rT x.1 y.1=true):nG l=false:=by
 refine befq.2 λb=>?_;have d:=lat.1 (lat.1 b _ (pE hx)) _ (pE g);obtain⟨⟨a,s⟩,ga⟩:=x;obtain⟨⟨c,t⟩,gc⟩:=y;simp only[rT,bat]at h
 have f:cJ a c=true:=by
  have:=h.2;cases s<;>cases t<;>simp only[Hx.pl,bft,if_true,if_false]at this<;>simp[cJ,this]
 simp only[h.1,f]at d;cases d
theorem IS (W:Wd)(g t:Nat)(c:g=W.heap.size)(b:Va):bC (W.alloc (.cells #[b] t)) g 0 [b]:=by
 subst c;intro j v a;match j,a with
 |0,a=>cases a;simp
theorem TQ (n:Nat)(hn:8<=n)(b:Bk)(w:Wd)(hh:Xs 3 Hx.cells w b.ha b.hl)(zd:ln b.hl<=1048576)(l:∀h∈b.hl,h.In w/\h.Fit):
 CallsIn Fence.wide n prog 119 #[b.val] w λe i=>e=rt (.bool (nG b.hl))/\aG w i:=by
 have h1:1<=n:=om
 refine callsIn_of_wp_marks func119 rfl trivial ?_ rfl;simp only[ntmps119,lsz,llc,lln,Nat.reduceAdd,Nat.reduceSub,ars,arz,lpt,lap,lna,lca];gi_wp2_with fail
 refine⟨trivial,?_⟩;refine(BJ (n-1) om _ _ _ _).mono ?_;rintro e W0 ⟨Bh,Bp,G,rfl,A,zl,zm,zr,zt⟩;gi_wp2_with fail
 have bK:((w.alloc (bo b)).alloc (.cells #[.bool false] 4)).heap[w.heap.size]?=some (bo b):=
  (halq _ (.cells #[.bool false] 4) w.heap.size sm).trans (wnq w _)
 have bR:=Boxed.new (w.alloc (bo b)) 4 (.bool false);have Q:aG w ((w.alloc (bo b)).alloc (.cells #[.bool false] 4)):=((br _ w).alloc (nlq _) _).alloc sm _;have ze:((w.alloc (bo b)).alloc (.cells #[.bool false] 4)).heap.size=w.heap.size+2:=by simp
 simp only[wsa]at bR;obtain⟨Wa,zc⟩:=cI ((w.alloc (bo b)).alloc (.cells #[.bool false] 4));rw[zc]at bK bR Q ze A;clear zc;have P:aG w W0:=aE Q A;have hz0:w.heap.size+2<=W0.heap.size:=by have:=A.size;omega
 have zf:=(A.block w.heap.size om).trans bK;have zb:Boxed W0 (w.heap.size+1) 4 (.bool false):=(A.block (w.heap.size+1) om).trans bR;clear bK bR Q ze A
 refine wpIn_rangeFunc_ownH rfl h1 (gf:=244) (lb:=#[E Bh 0,E Bp 0]) rfl trivial (enters_of func244 kr rfl)
  (rZ (n-1) Bh Bp G b.hc b.ha b.hl w l zd W0 zl zm zr zt (hh.zL P)) pS.trans (IC (nlq _)) (br _ _) (λ_=>rfl)
  (λB W=>(∀x∈B,∀y∈iG b.hl l,rT x.1 y.1=false)/\aG W0 W)
  (λc B W=>((c=.ret/\∃x∈B,∃y∈iG b.hl l,rT x.1 y.1=true)/\Boxed W (w.heap.size+1) 4 (.bool false))/\aG w W)
  (OwnFrom.and (ownFrom_pure _ _) (ownFrom_below (nlq _) (nlq _)))
  (λc=>OwnFrom.and (OwnFrom.and (ownFrom_pure _ _) (Own.from (boxed_own _ _ _) _)) (ownFrom_below (nlq _) om))
  ⟨sm,br _ _⟩
  (λx a' W=>∃B1 N,bC W B1 0 x.1.1.cells/\bC W N 0 [x.1.1.part x.1.2]/\a'={ tmps:=#[b.val,ea w 0,E (w.heap.size+1) 0,E B1 0,E N 0,undef,undef,ea w 2,hs b,.func (.func 244) #[] #[E Bh 0,E Bp 0],x.1.1.val,x.1.1.part x.1.2,undef,undef,undef,undef,undef,undef,undef,undef,undef,undef,undef,undef,undef,undef,undef],defers:=[]})
  (λx a' _ X d yb zx hg Z=>by obtain⟨B1,N,e1,e2,e3⟩:=zx;exact⟨B1,N,fH e1 hg (λr e=>(Z r e).2),fH e2 hg (λr e=>(Z r e).2),e3⟩)
  ?assign ?body ?done ?stop
 case assign=>
  rintro lp B x W K ⟨hp,g⟩ L;gi_wp2;have U:aG W ((W.alloc x.1.1.obj).alloc (.cells #[x.1.1.part x.1.2] 41)):=((br _ W).alloc (nlq _) _).alloc sm _
  exact L _ _ ((cA U).from _) (pS.of_below U g.size) ⟨hp,g.trans (U.mono g.size)⟩
   ⟨W.heap.size,W.heap.size+1,(gP W _ 74 rfl _ _ _).zL ((br _ _).alloc (nlq _) _),IS _ _ 41 sm _,rfl⟩
 case body=>
  rintro lp B x a' W hl' ⟨r,Z⟩ ⟨hp,g⟩ ⟨B1,N,e1,e2,rfl⟩ hlt';have za:=(g.block w.heap.size om).trans zf;have k2:W.cell? (ya w 2)=some (hs b):=aB za rfl;have zn:aG w W:=P.trans (g.mono om);have zj:1<=n-1-1:=om
  gi_wp2_with fail
  refine⟨trivial,?_⟩;refine(CallsIn.inRound lp (BJ (n-1-1-1) om _ _ _ _)).mono ?_;rintro e W1 ⟨Ch,Cp,H,rfl,o,zp,zq,zu,zv⟩;have t:aG w W1:=aE zn o;have zw:W1.heap[lp]?=some (.loop r):=(o.block lp (cE Z)).trans Z;have zh:=e1.zL o;have zi:=e2.zL o;have zg:Boxed W1 (w.heap.size+1) 4 (.bool false):=(o.block (w.heap.size+1) (by have:=g.size;omega)).trans ((g.block (w.heap.size+1) om).trans zb);have zy:=o.size;have M:=g.size;clear e1 e2 k2 za;gi_wp2_with fail
  refine wpIn_rangeFunc_ownN (l₀:=lp) (r₀:=r) rfl zw zj (gf:=244) (lb:=#[E Ch 0,E Cp 0]) rfl trivial (enters_of func244 kr rfl)
   ((rZ (n-1-1-1) Ch Cp H b.hc b.ha b.hl w l zd W1 zp zq zu zv (hh.zL t)).inRound lp) pS.trans (IC (nlq _)) (br _ _) (λ_=>rfl)
   (λj i=>(∀y∈j,rT x.1 y.1=false)/\aG W1 i)
   (λc j i=>((c=.ret/\∃y∈j,rT x.1 y.1=true)/\Boxed i (w.heap.size+1) 4 (.bool false))/\(aG w i/\KeepsFrom W0.heap.size W i))
   (OwnFrom.and (ownFrom_pure _ _) (ownFrom_below (nlq _) (nlq _)))
   (λc=>OwnFrom.and (OwnFrom.and (ownFrom_pure _ _) (Own.from (boxed_own _ _ _) _)) (OwnFrom.and (ownFrom_below (nlq _) (by have:=t.size;omega)) (ownFrom_keepsFrom zy)))
   ⟨sm,br _ _⟩
   (λy O i=>∃B3,bC i B3 0 y.1.1.cells/\O={ tmps:=#[b.val,ea w 0,E (w.heap.size+1) 0,E B1 0,E N 0,E B3 0,y.1.1.part y.1.2,ea w 2,hs b,.func (.func 244) #[] #[E Bh 0,E Bp 0],x.1.1.val,x.1.1.part x.1.2,ea w 2,hs b,.func (.func 244) #[] #[E Ch 0,E Cp 0],y.1.1.val,y.1.1.part y.1.2,undef,undef,undef,undef,undef,undef,undef,undef,undef,undef],defers:=[]})
   (λy O _ X d yb zx hg Z=>by obtain⟨B3,e1,e3⟩:=zx;exact⟨B3,fH e1 hg (λr e=>(Z r e).2),e3⟩)
   ?assign2 ?body2 ?done2 ?stop2
  case assign2=>
   rintro l2 j y i K ⟨J,f⟩ L;gi_wp2
   exact L _ _ ((KeepsOthers.alloc _ _).from _) (pS.of_below ((br _ i).alloc (nlq _) _) f.size) ⟨J,f.alloc f.size _⟩
    ⟨i.heap.size,gP i _ 74 rfl _ _ _,rfl⟩
  case body2=>
   rintro l2 j y O i hl2 _ ⟨J,f⟩ ⟨B3,f1,rfl⟩ hlt2;have C:Boxed i (w.heap.size+1) 4 (.bool false):=(f.block (w.heap.size+1) om).trans zg;have cR:=C.cell;have fR:=C.frozen;have h2':1<=n-1-1-1-1:=om
   obtain⟨c0,c1,c2⟩:=gN (zh.zL f);obtain⟨d0,d1,d2⟩:=gN f1;rw[nza]at c1 c2 d1 d2;have p0:i.cell? (Y N 0)=some (x.1.1.part x.1.2):=(zi.zL f) 0 _ rfl;have F:aG w i:=t.trans (f.mono t.size);have S:KeepsFrom W0.heap.size W i:=(cA (aE o f)).from _;obtain⟨v,hv⟩:=cI (Op.bytesLess x.1.1.n.toList y.1.1.n.toList)
   cases v
   ·have m:rT x.1 y.1=false:=by simp only[rT,gE,hv,Bool.false_and]
    gi_wp2;refine⟨trivial,?_⟩;gi_wp2;exact⟨(KeepsOthers.refl _).from _,pS.of_below (br _ _) f.size,λz hz=>(lma.1 hz).elim (J z) (λe=>by simp at e;subst e;exact m),f⟩
   ·obtain⟨u,hu⟩:=cI (dD (x.1.1.pl x.1.2) (y.1.1.pl y.1.2))
    have m:rT x.1 y.1=u:=by simp only[rT,gE,hv,hu,Bool.true_and]
    gi_wp2_with fail
    refine⟨trivial,?_⟩;refine(CallsIn.inRound l2 (CallsIn.inRound lp (cw.2 (vW (x.1.1.pl x.1.2) (y.1.1.pl y.1.2) _ _ _ _ i (x.bxs F) (y.bxs F) x.len y.len)))).mono ?_;rintro e w1 ⟨rfl,k⟩;have zz:((x.1.1.pl x.1.2).any λa=>(y.1.1.pl y.1.2).any (dY a))=u:=hu;rw[zz];have cR1:=(k.cell (p:=(Y (w.heap.size+1) 0)) (aA cR)).trans cR;have fR1:=(k.frozen (p:=(Y (w.heap.size+1) 0)) (aA cR)).trans fR;have s:Boxed w1 (w.heap.size+1) 4 (.bool false):=(k.block _ (aA cR)).trans C;clear cR fR c0 c1 c2 d0 d1 d2 p0
    cases u
    ·gi_wp2
     exact⟨(cA k).from _,pS.of_below k f.size,λz hz=>(lma.1 hz).elim (J z) (λe=>by simp at e;subst e;exact m),f.trans (k.mono f.size)⟩
    ·gi_wp2
     exact⟨((cA k).trans (KeepsOthers.setCell _ _ _)).from _,⟨⟨rfl,y,lma.2 (.inr sm),m⟩,s.set _⟩,(aE F k).setCell (p:=(Y (w.heap.size+1) 0)) sm _,S.trans (((cA k).trans (KeepsOthers.setCell _ _ _)).from _)⟩
  case done2=>
   rintro ys' i rfl ⟨J,f⟩;have T:aG W i:=aE o f;gi_wp2;exact⟨(cA T).from _,pS.of_below T M,λz hz=>(lma.1 hz).elim (hp z) (λe=>by simp at e;subst e;exact J),g.trans (T.mono M)⟩
  case stop2=>
   rintro c j i ⟨q,J,rfl⟩ ⟨⟨⟨rfl,y,hy,m⟩,C⟩,zk,S⟩;gi_wp2;exact⟨S,⟨⟨rfl,x,lma.2 (.inr sm),y,AE J hy,m⟩,C⟩,zk⟩
 case done=>
  rintro D zs W hD rfl ⟨hp,g⟩ L;have s:Boxed W (w.heap.size+1) 4 (.bool false):=(g.block _ om).trans zb;have cR:=s.cell;have fR:=s.frozen;gi_wp2;have R:=(KeepsOthers.setCell W (Y (w.heap.size+1) 0) (.bool true)).same D _ L rfl;refine⟨sm,.inl ⟨_,_,rfl,rtd R,?_⟩⟩;have V:=cell_kept (s.set (.bool true)).cell (grownBy_putObj' _ D (.deferred none)) (λr e=>by cases e;exact⟨_,R,rfl⟩);refine⟨.bool true,?_,by rw[NA hp],(((P.trans (g.mono om)).setCell (p:=(Y (w.heap.size+1) 0)) sm _).trans (belowK_b (w:=w) (nlq _) _ D _ _ om R rfl rfl))⟩
  simp[results,Tryz.f119,go_sem,V]
 case stop=>
  rintro D c B W hD ⟨q,J,rfl⟩ ⟨⟨⟨rfl,x,hx,y,hy,m⟩,s⟩,g⟩ L;gi_wp2;refine⟨sm,.inl ⟨_,_,rfl,rtd L,?_⟩⟩;have V:=cell_kept s.cell (grownBy_putObj' _ D (.deferred none)) (λr e=>by cases e;exact⟨_,L,rfl⟩);refine⟨.bool false,?_,by rw[KT (AE J hx) hy m],g.trans (belowK_b (w:=w) (nlq _) W D _ _ om L rfl rfl)⟩
  simp[results,Tryz.f119,go_sem,V]
theorem OI (b:Bk)(w:Wd)(f:Xs 3 Hx.cells w b.ha b.hl)(c:ln b.hl<=1048576)(a:∀h∈b.hl,h.In w/\h.Fit):
 aW 119 #[b.val] w λe d=>e=rt (.bool (nG b.hl))/\aG w d:=cw.1 (TQ 8 om b w f c a)
variable {nm:Ba}{t:List Bx}
def kC (nm:ByteArray)(t:List Bx)(l:List Hx):Bool:=l.all λh=>!(tW nm h.n&&(dD t h.tl||dD t h.nl))
theorem VU {e:∀x∈l,x.In w/\x.Fit}(h:∀x∈(iG l e).filter (qY nm),dD t (x.1.1.pl x.1.2)=false):kC nm t l=true:=by
 refine lat.2 λa ha=>?_;cases ho:tW nm a.n;·rfl
 ·have g:∀s,dD t (a.pl s)=false:=λs=>by
   obtain⟨x,hx,b⟩:=rY e ha s;have:=h x (List.mem_filter.2 ⟨hx,by rw[qY,b];exact ho⟩);rw[b]at this;exact this
  have c:=g false;have d:=g true;simp only[Hx.pl,bft,if_true,if_false]at c d;simp[c,d]
theorem UO {e:∀x∈l,x.In w/\x.Fit}(i:q<=ln l*2){x:HP w}(hx:x∈(cS (eC l e) q).filter (qY nm))(h:dD t (x.1.1.pl x.1.2)=true):kC nm t l=false:=by
 refine befq.2 λb=>?_;obtain⟨f,g⟩:=List.mem_filter.1 hx;have d:=lat.1 b _ (pE (AE i f));obtain⟨⟨a,s⟩,ga⟩:=x;have c:tW nm a.n=true:=g;cases s<;>simp only[Hx.pl,bft,if_true,if_false]at h<;>simp[c,h]at d
theorem Y8 (n:Nat)(b:Bk)(nm:Ba)(w:Wd):
 CallsIn Fence.wide n Tryz.prog 174 #[b.val,.string nm] w λe w'=>∃c a,e=rt (.func (.func 234) #[] #[E c 0,E a 0])/\aG w w'/\
  w'.heap[c]?=some (.cells #[I b.now,.slice b.fa (ln b.fl) b.fc,.slice b.ha (ln b.hl) b.hc] 32)/\w'.cell? (Y a 0)=some (.string nm)/\w.heap.size<=a:=by
 refine cow Tryz.func174 rfl trivial ?_ rfl;simp only[Tryz.ntmps174,lsz,llc,lln,Nat.reduceAdd,Nat.reduceSub,ars,arz,lpt,lap,lna,lca];gi_wp2;go_ret;have d:=Boxed.new (w.alloc (bo b)) 9 (.string nm);simp only[wsa]at d;exact⟨w.heap.size,w.heap.size+1,rfl,((br _ w).alloc (nlq _) _).alloc sm _,(halq _ _ w.heap.size sm).trans (wnq w _),d.cell,om⟩
end Go.Proofs.YtoolgmmljacfmaaGreatDoor
namespace Go.Proofs.YtoolgmmljacfmaaGreatDoor
def FQ (l:List Hx):Bool:=iD l.length&&bX Hx.n l
theorem VE (b:Bk)(w:Wd)(a:Xs 3 Hx.cells w b.ha b.hl)(c:ln b.hl<=1048576)(d:∀h∈b.hl,h.n.size<=9223372036854775807):
 aW 117 #[b.val] w λe w'=>e=rt (.bool (FQ b.hl))/\aG w w':=J7 b w a c d
def nL (b:Bk):Bool:=oL b.now&&(bU b.fl&&(FQ b.hl&&(b.hl.all (cK b.fl b.now)&&nG b.hl)))
def Boxed3 (w:World)(z:Nat)(b:Bk):Prop:=w.heap[z]?=some (.cells #[I b.now,.slice b.fa b.fl.length b.fc,.slice b.ha b.hl.length b.hc] 32)
def J0 (b:Bk)(k:Nat):Prop:=(0<k->oL b.now=true)/\(1<k->bU b.fl=true)/\(2<k->FQ b.hl=true)/\(3<k->b.hl.all (cK b.fl b.now)=true)/\(4<k->nG b.hl=true)
theorem IU (b:Bk)(G:Nat)(w:Wd)(H:Xs 3 Fx.cells w b.fa b.fl)(A:ln b.fl<=1048576)(z:ln b.fl<=b.fc)(D:b.fc<=9223372036854775807)(P:∀f∈b.fl,f.n.size<=9223372036854775807)
 (F:Xs 3 Hx.cells w b.ha b.hl)(v:ln b.hl<=1048576)(g:∀h∈b.hl,h.In w/\h.Fit)
 (q:w.cell? (Y G 0)=some (.func (.func 114) #[] #[]))(r:w.cell? (Y G 1)=some (.func (.func 115) #[] #[]))(s:w.cell? (Y G 2)=some (.func (.func 117) #[] #[]))(t:w.cell? (Y G 3)=some (.func (.func 118) #[] #[]))(u:w.cell? (Y G 4)=some (.func (.func 119) #[] #[])):
 aW 113 #[b.val,.slice (some (Y G 0)) 5 5] w λe w'=>e=rt (.bool (nL b))/\aG w w':=by
 obtain⟨V,C⟩:=bQ (nL b);rw[←C];have x:=aI C;clear C
 go_enter Tryz.func113,Tryz.ntmps113
 go_wp2
 go_loopw [9] (λi wr=>∃k:Nat,k<=5/\i=I k/\aG w wr/\Boxed3 wr w.heap.size b/\Hid (J0 b k)) (λi _=>5-(intOf i).toNat)
 case atStart=>exact⟨0,om,rfl,aC (br _ _) _,wnq w _,by simp[Hid,J0]⟩
 case round=>
  obtain⟨k,hk,rfl,c,a,j⟩:=hrel;have y:wr.cell? (ya w 0)=some (I b.now):=aB a rfl;have b1:wr.cell? (ya w 1)=some (fs b):=aB a rfl;have b2:wr.cell? (ya w 2)=some (hs b):=aB a rfl;have o:k=0∨k=1∨k=2∨k=3∨k=4∨k=5:=om
  rcases o with J|K|L|M|N|O
  ·subst J
   have B:=(c.cell (p:=(Y G 0)) (aA q)).trans q;clear q r s t u
   go_wp2_with (go_at_call 114;refine(UB b _).mono ?_;rintro e w1 ⟨rfl,d⟩;have a:=(d.block _ (aA y)).trans a;have c:aG w w1:=bI c (nlq _) d)
   ·have l:(oL b.now)=false:=nf aq
    go_ret;exact⟨aF (by rw[x.oQ];exact(show nL b=false from by rw[nL,l];simp).symm),c⟩
   ·have l:(oL b.now)=true:=nt aq
    go_roundw
    case rel=>exact⟨1,om,gn,c,a,⟨λ_=>l,λh=>absurd h om,λh=>absurd h om,λh=>absurd h om,λh=>absurd h om⟩⟩
    case measure=>simp[intOf]
  ·subst K
   have B:=(c.cell (p:=(Y G 1)) (aA r)).trans r;clear q r s t u
   go_wp2_with (go_at_call 115;refine(TX b _ (H.zL c) A z D P).mono ?_;rintro e w1 ⟨rfl,d⟩;have a:=(d.block _ (aA y)).trans a;have c:aG w w1:=bI c (nlq _) d)
   ·have l:(bU b.fl)=false:=nf aq
    go_ret;exact⟨aF (by rw[x.oQ];exact(show nL b=false from by rw[nL,l];simp).symm),c⟩
   ·have l:(bU b.fl)=true:=nt aq
    go_roundw
    case rel=>exact⟨2,om,gn,c,a,⟨λ_=>j.out.1 om,λ_=>l,λh=>absurd h om,λh=>absurd h om,λh=>absurd h om⟩⟩
    case measure=>simp[intOf]
  ·subst L
   have B:=(c.cell (p:=(Y G 2)) (aA s)).trans s;clear q r s t u
   go_wp2_with (go_at_call 117;refine(VE b _ (F.zL c) v (λh m=>(g h m).2.sn)).mono ?_;rintro e w1 ⟨rfl,d⟩;have a:=(d.block _ (aA y)).trans a;have c:aG w w1:=bI c (nlq _) d)
   ·have l:(FQ b.hl)=false:=nf aq
    go_ret;exact⟨aF (by rw[x.oQ];exact(show nL b=false from by rw[nL,l];simp).symm),c⟩
   ·have l:(FQ b.hl)=true:=nt aq
    go_roundw
    case rel=>exact⟨3,om,gn,c,a,⟨λ_=>j.out.1 om,λ_=>j.out.2.1 om,λ_=>l,λh=>absurd h om,λh=>absurd h om⟩⟩
    case measure=>simp[intOf]
  ·subst M
   have B:=(c.cell (p:=(Y G 3)) (aA t)).trans t;clear q r s t u
   go_wp2_with (go_at_call 118;refine(UN b _ (H.zL c) A (F.zL c) v (λh m=>⟨(g h m).1.zL c,(g h m).2⟩)).mono ?_;rintro e w1 ⟨rfl,d⟩;have a:=(d.block _ (aA y)).trans a;have c:aG w w1:=bI c (nlq _) d)
   ·have l:(b.hl.all (cK b.fl b.now))=false:=nf aq
    go_ret;exact⟨aF (by rw[x.oQ];exact(show nL b=false from by rw[nL,l];simp).symm),c⟩
   ·have l:(b.hl.all (cK b.fl b.now))=true:=nt aq
    go_roundw
    case rel=>exact⟨4,om,gn,c,a,⟨λ_=>j.out.1 om,λ_=>j.out.2.1 om,λ_=>j.out.2.2.1 om,λ_=>l,λh=>absurd h om⟩⟩
    case measure=>simp[intOf]
  ·subst N
   have B:=(c.cell (p:=(Y G 4)) (aA u)).trans u;clear q r s t u
   go_wp2_with (go_at_call 119;refine(OI b _ (F.zL c) v (λh m=>⟨(g h m).1.zL c,(g h m).2⟩)).mono ?_;rintro e w1 ⟨rfl,d⟩;have a:=(d.block _ (aA y)).trans a;have c:aG w w1:=bI c (nlq _) d)
   ·have l:(nG b.hl)=false:=nf aq
    go_ret;exact⟨aF (by rw[x.oQ];exact(show nL b=false from by rw[nL,l];simp).symm),c⟩
   ·have l:(nG b.hl)=true:=nt aq
    go_roundw
    case rel=>exact⟨5,om,gn,c,a,⟨λ_=>j.out.1 om,λ_=>j.out.2.1 om,λ_=>j.out.2.2.1 om,λ_=>j.out.2.2.2.1 om,λ_=>l⟩⟩
    case measure=>simp[intOf]
  ·subst O
   clear q r s t u;go_wp2
   go_ret;obtain⟨Q,q1,R,S,T⟩:=j.out;exact⟨aF (by rw[x.oQ,nL,Q om,q1 om,R om,S om,T om];rfl),c⟩
variable {l:List Hx}
theorem uM:∀a:List UInt8,Op.bytesLess a a=false:=by
 intro a;induction a with
 |nil=>rfl
 |cons x xs ih=>simp[Op.bytesLess,ih]
theorem JL (x y:UInt8)(xs a:List UInt8):Op.bytesLess (x::xs) (y::a)=true↔x.toNat<y.toNat∨(x.toNat=y.toNat/\Op.bytesLess xs a=true):=by
 simp only[Op.bytesLess,bot,dte,bat,beq_iff_eq,UInt8.lt_iff_toNat_lt,←UInt8.toNat_inj]
theorem rP:∀a b c:List UInt8,Op.bytesLess a b=true->Op.bytesLess b c=true->Op.bytesLess a c=true:=by
 intro a;induction a with
 |nil=>intro b c d e;cases b<;>cases c<;>simp_all[Op.bytesLess]
 |cons x xs ih=>
  intro b c d e;cases b with
  |nil=>simp[Op.bytesLess]at d
  |cons y ys=>
   cases c with
   |nil=>simp[Op.bytesLess]at e
   |cons z zs=>
    rw[JL]at d e ⊢;rcases d with d|⟨e1,d⟩<;>rcases e with e|⟨e2,e⟩;·exact .inl om
    ·exact .inl om
    ·exact .inl om
    ·exact .inr ⟨om,ih _ _ d e⟩
theorem CN (h:kR Hx.n l=true){i:Nat}:∀(d:Nat) (a:i+d+1<ln l),gE (l[i]'om).n (l[i+d+1]).n=true
 |0,a=>(iU Hx.n l).1 h i a
 |d+1,a=>rP _ _ _ (CN h d om) ((iU Hx.n l).1 h (i+d+1) a)
theorem sQ (l:List Hx):∀m,m<=ln l->(gO l m=true↔∀i j (_hj:j<m) (k:j<ln l) (b:i<j),cJ (l[i]'om) l[j]=false)
 |0,_=>by simp[gO]
 |m+1,k=>by
  rw[gO,bat,sQ l m om,lC,dB l m om];constructor
  ·rintro⟨d,e⟩ i j f a b;rcases(by omega:j<m∨j=m)with h|rfl;·exact d i j h a b
   ·have c:(l.take j).any (λg=>cJ g l[j])=false:=by simpa using e
    rw[List.any_eq_false]at c;have:=c (l[i]'om) (List.mem_take_iff_getElem.2 ⟨i,om,rfl⟩);simpa using this
  ·intro h;refine⟨λi j f a b=>h i j om a b,?_⟩
   have c:(l.take m).any (λg=>cJ g l[m])=false:=by
    rw[List.any_eq_false];intro x hx;obtain⟨i,b,rfl⟩:=List.mem_take_iff_getElem.1 hx;have:=h i m om om om;simpa using this
   rw[c];rfl
theorem GI (h:kR Hx.n l=true):nG l=gO l (ln l):=by
 rw[beii,sQ l (ln l) (nlq _)];constructor
 ·intro p i j _ hjl o;have g:=lat.1 (lat.1 p (l[i]'om) (lgm _)) l[j] (lgm _);have b:=CN h (i:=i) (j-i-1) om;simp only[show i+(j-i-1)+1=j by omega]at b;rw[b]at g;simpa using g
 ·intro ha;refine lat.2 λa d=>lat.2 λc e=>?_;obtain⟨i,o,rfl⟩:=lgo d;obtain⟨j,m,rfl⟩:=lgo e;rcases(by omega:i<j∨i=j∨j<i)with f|rfl|hgt;·rw[ha i j m m f];simp
  ·have:gE l[i].n l[i].n=false:=uM _;rw[this];rfl
  ·have b:=CN h (i:=j) (i-j-1) om;simp only[show j+(i-j-1)+1=i by omega]at b;cases h3:gE l[i].n l[j].n;·rfl
   ·have k:gE l[j].n l[j].n=true:=rP _ _ _ b h3;have:gE l[j].n l[j].n=false:=uM _;rw[this]at k;cases k
theorem SL (b:Bk):nL b=aO b:=by
 unfold nL aO FQ dU;cases hn:bX Hx.n b.hl;·simp
 ·have ha:kR Hx.n b.hl=true:=by rw[bX,bat]at hn;exact hn.2
  rw[GI ha];simp only[Bool.true_and,Bool.and_true]
theorem qA (b:Bk)(w:Wd)(k:Xs 3 Fx.cells w b.fa b.fl)(i:ln b.fl<=1048576)(c:ln b.fl<=b.fc)(g:b.fc<=9223372036854775807)(o:∀f∈b.fl,f.n.size<=9223372036854775807)
 (l:Xs 3 Hx.cells w b.ha b.hl)(j:ln b.hl<=1048576)(a:∀h∈b.hl,h.In w/\h.Fit):
 aW 75 #[b.val] w λe w'=>e=rt (.bool (aO b))/\aG w w':=by
 go_enter Tryz.func75,Tryz.ntmps75;go_wp2_with fail;refine(IU b (w.heap.size+1) _ (k.zL (aC (aC (br _ _) _) _)) i c g o (l.zL (aC (aC (br _ _) _) _)) j (λh m=>⟨(a h m).1.zL (aC (aC (br _ _) _) _),(a h m).2⟩) sm sm sm sm sm).mono ?_;rintro e w1 ⟨rfl,d⟩;go_wp2_with fail;go_ret;exact⟨aF (SL b),aE (aC (aC (br _ _) _) _) d⟩
variable {nm:Ba}{t:List Bx}{k:Nat}{b:Bk}{ta:Oa}{w:Wd}
theorem yG (a b:Bx):dY a b=dY b a:=by
 have c:lV a b=lV b a:=by simp only[lV,decide_eq_decide];omega
 have d:kJ a b=kJ b a:=by simp only[kJ,decide_eq_decide];omega
 have e:qT a b=qT b a:=by simp only[qT,decide_eq_decide];omega
 rw[dY,dY,c,d,e,Bool.and_comm (aK a) (aK b)]
theorem jM (a b:List Bx):dD a b=dD b a:=by
 rw[beii];simp only[dD,List.any_eq_true];constructor;·rintro⟨x,hx,y,c,h⟩;exact⟨y,c,x,hx,by rw[yG];exact h⟩
 ·rintro⟨x,hx,y,c,h⟩;exact⟨y,c,x,hx,by rw[yG];exact h⟩
def jB (nm:ByteArray)(t:List Bx)(h:Hx):Bool:=!(tW nm h.n&&(dD t h.tl||dD t h.nl))
theorem RB (a:k<ln l)(h:jB nm t l[k]=false):l.all (jB nm t)=false:=by
 rw[befq];intro ha;have:=lat.1 ha l[k] (lgm a);rw[h]at this;cases this
theorem YH (nm:Ba)(t:List Bx)(l:List Hx):kC nm t l=l.all (jB nm t):=rfl
theorem I1 (b:List Fx)(l:List Bx)(v:Bool)(k:aQ b l=v)(c d:Oa)(h a:Nat)(w:Wd)(f:Xs 3 Fx.cells w c b)(i:jG w d l)(g:ln b<=1048576)(j:ln l<=1048576):
 aW 170 #[.slice c (ln b) h,.slice d (ln l) a] w λe w'=>e=rt (.bool v)/\aG w w':=by
 subst k;exact pT b l c d h a w f i g j
structure rA (w:World)(b:Bk)(t:List Bx)(ta:Option Addr):Prop where
 hf:Xs 3 Fx.cells w b.fa b.fl
 hnf:b.fl.length<=1048576
 hcap:b.fl.length<=b.fc
 hc2:b.fc<=9223372036854775807
 hs:∀f∈b.fl,f.n.size<=9223372036854775807
 hh:Xs 3 Hx.cells w b.ha b.hl
 hnh:b.hl.length<=1048576
 hgood:∀h∈b.hl,h.In w/\h.Fit
 ht:jG w ta t
 hnt:t.length<=1048576
theorem rA.zL {w w':Wd}(h:rA w b t ta)(a:aG w w'):rA w' b t ta:=
 ⟨h.hf.zL a,h.hnf,h.hcap,h.hc2,h.hs,h.hh.zL a,h.hnh,λx hx=>⟨(h.hgood x hx).1.zL a,(h.hgood x hx).2⟩,h.ht.zL a,h.hnt⟩
theorem DV (b:Bk)(w:Wd)(z:b.hl=[])(y:Xs 3 Fx.cells w b.fa b.fl)(l:ln b.fl<=1048576)(A:∀f∈b.fl,f.n.size<=9223372036854775807):
 aW 26 #[b.val] w λe w'=>e=rt (.bool (aO b))/\aG w w':=by
 obtain⟨a,q,g,r,ha,hl',o⟩:=b;simp only at z y l A;subst z;obtain⟨V,s⟩:=bQ (aO ⟨a,q,g,r,ha,[],o⟩);rw[←s]
 have p:Hid (V=(oL a&&bU g)):=by
  rw[Hid,s,aO];show(oL a&&(bU g&&(true&&true)))=_;simp
 clear s;have h:aG w (w.alloc (.cells #[I a,.slice q (ln g) r,.slice ha 0 o] 32)):=aC (br _ _) _;have u:=wnq w (.cells #[I a,.slice q (ln g) r,.slice ha 0 o] 32);obtain⟨B,m⟩:∃v,fQ a 0 10000=v:=⟨_,rfl⟩;have d:Hid (oL a=B):=m;go_enter func26,ntmps26;go_wp2_with fail;refine(bO _ _ _ _ m _).mono ?_;rintro e w0 ⟨rfl,t⟩;subst t;cases B with
 |false=>
  go_wp2_with fail;go_ret;exact⟨aF (by rw[p.oQ,d.oQ];rfl),h⟩
 |true=>
 go_wp2_with fail;obtain⟨D,c⟩:∃v,bU g=v:=⟨_,rfl⟩;refine(rV g _ c _ _ _ (y.zL h) l A).mono ?_;rintro e w1 ⟨rfl,j⟩;have k:=aE h j;have x:=btq j u;have k2:w1.cell? (ya w 2)=some (.slice ha 0 o):=aB x rfl;cases D with
 |false=>
  go_wp2_with fail;go_ret;exact⟨aF (by rw[p.oQ,d.oQ,c];rfl),k⟩
 |true=>
  have C:Hid (V=true):=by rw[Hid,p.oQ,d.oQ,c];rfl
  clear c u x j;go_wp2;go_loopw [3] (λi wr=>i=I 0/\wr=w1) (λ_ _=>0);case atStart=>exact⟨rfl,rfl⟩
  case round=>
   obtain⟨rfl,rfl⟩:=hrel;go_wp2;go_ret;exact⟨aF C.oQ.symm,k⟩
theorem ML (b:Bk)(nm:Ba)(t:List Bx)(ta:Oa)(m:Nat)(w:Wd)(l:b.hl=[]):
 aW 67 #[b.val,.string nm,.slice ta (ln t) m] w λe w'=>e=rt (.bool true)/\aG w w':=by
 obtain⟨a,g,j,h,ha,hl',f⟩:=b;simp only at l;subst l;have k:=wnq w (.cells #[I a,.slice g (ln j) h,.slice ha 0 f] 32);have c:aG w (w.alloc (.cells #[I a,.slice g (ln j) h,.slice ha 0 f] 32)):=aC (br _ _) _;obtain⟨W0,d⟩:=bQ (w.alloc (.cells #[I a,.slice g (ln j) h,.slice ha 0 f] 32));go_enter func67,ntmps67;go_wp2;rw[←d]at k c ⊢;have k2:W0.cell? (ya w 2)=some (.slice ha 0 f):=aB k rfl;clear d;go_loopw [7] (λi wr=>i=I 0/\wr=W0) (λ_ _=>0);case atStart=>exact⟨rfl,rfl⟩
 case round=>
  obtain⟨rfl,rfl⟩:=hrel;go_wp2;go_ret;exact⟨rfl,c⟩
theorem vC (h:rA w b t ta)(v:Bool)(a:aO b=v):aW 75 #[b.val] w λe w'=>e=rt (.bool v)/\aG w w':=by
 subst a;exact qA b w h.hf h.hnf h.hcap h.hc2 h.hs h.hh h.hnh h.hgood
theorem vZ (h:rA w b t ta)(v:Bool)(g:aO b=v):aW 26 #[b.val] w λe w'=>e=rt (.bool v)/\aG w w':=by
 subst g;rcases h.hh with f|⟨c,a,e,d⟩;·exact DV b w f h.hf h.hnf h.hs
 exact DR b c a e w h.hf h.hnf d h.hnh (λx hx=>(h.hgood x hx).1) (λx hx=>(h.hgood x hx).2) h.hs
theorem uA (b:Bk)(nm:Ba)(t:List Bx)(ta:Oa)(U:Nat)(w:Wd)(ha:rA w b t ta):
 aW 67 #[b.val,.string nm,.slice ta (ln t) U] w λe w'=>e=rt (.bool (kC nm t b.hl))/\aG w w':=by
 obtain⟨V,L⟩:=bQ (kC nm t b.hl);rw[←L];have z:Hid (V=b.hl.all (jB nm t)):=L;clear L
 rcases ha.hh with S|⟨o,d,M,hc⟩
 ·obtain rfl:V=true:=by rw[z.oQ,S];rfl
  refine(ML b nm t ta U w S).mono ?_;rintro e w' ⟨rfl,Z⟩;exact⟨rfl,Z⟩
 have g:aG w (w.alloc (.cells #[I b.now,fs b,sl o d (ln b.hl) b.hc] 32)):=aC (br _ _) _;have O:=wnq w (.cells #[I b.now,fs b,sl o d (ln b.hl) b.hc] 32);obtain⟨W0,q⟩:=bQ (w.alloc (.cells #[I b.now,fs b,sl o d (ln b.hl) b.hc] 32));have hnh:=ha.hnh;unfold Bk.val;rw[M]
 go_enter func67,ntmps67
 go_wp2
 rw[←q]at O g ⊢;clear q
 go_loopw [7] (λi wr=>∃k:Nat,k<=ln b.hl/\i=I k/\aG W0 wr/\Hid ((b.hl.take k).all (jB nm t)=true)) (λi _=>ln b.hl-(intOf i).toNat)
 case atStart=>exact⟨0,nz _,rfl,br _ _,by simp[Hid]⟩
 case round=>
  obtain⟨k,hk,rfl,A,m⟩:=hrel;have p:aG w wr:=g.trans (A.mono g.size);have C:=btq A O;have B:wr.cell? (ya w 2)=some (sl o d (ln b.hl) b.hc):=aB C rfl
  by_cases a:k<ln b.hl
  ·have u:=(hc k a).zL p
   have f:b.hl[k]∈b.hl:=lgm a;have N:=ha.hgood _ f;obtain⟨h,l⟩:=bQ (b.hl[k]);rw[←l]at u N;have y:Hid (h=b.hl[k]):=l;clear l f;obtain⟨P,Q,D⟩:=gN u;have x:=N.1.zL p;have s:=N.2;obtain⟨v0,R⟩:∃v,(h.n.toList==nm.toList)=v:=⟨_,rfl⟩
   cases v0 with
   |true=>
    go_wp2
    go_roundw
    case rel=>exact⟨k+1,om,gn,A,by rw[Hid,tsa a,laa,m.out,←y.oQ];simp[jB,tW,R]⟩
    case measure=>simp[intOf];omega
   |false=>
   have T:tW nm h.n=true:=by rw[tW,R];rfl
   go_wp2_with fail
   obtain⟨v1,F⟩:∃v,dD h.tl t=v:=⟨_,rfl⟩;refine(fT _ _ _ F _ _ _ _ _ x.1 (ha.ht.zL p) s.tn ha.hnt).mono ?_;rintro e w1 ⟨rfl,c⟩;have H:=bI A (nlq _) c;have j:=aE p c
   cases v1 with
   |true=>
    clear P Q D B C;go_wp2
    go_ret;exact⟨aF (by rw[z.oQ,RB a (by rw[←y.oQ,jB,T,jM t h.tl,F];rfl)]),j⟩
   |false=>
   have W:=btq c C;have X:=ctq c D;clear B P Q D;have B:w1.cell? (ya w 2)=some (sl o d (ln b.hl) b.hc):=aB W rfl;go_wp2_with fail
   obtain⟨v2,G⟩:∃v,dD h.nl t=v:=⟨_,rfl⟩;refine(fT _ _ _ G _ _ _ _ _ (x.2.zL c) (ha.ht.zL j) s.nn ha.hnt).mono ?_;rintro e w2 ⟨rfl,r⟩;have J:=bI H (nlq _) r;have K:=aE j r;clear B X
   cases v2 with
   |true=>
    go_wp2
    go_ret;exact⟨aF (by rw[z.oQ,RB a (by rw[←y.oQ,jB,T,jM t h.nl,G];simp)]),K⟩
   |false=>
    go_wp2
    go_roundw
    case rel=>exact⟨k+1,om,gn,J,by rw[Hid,tsa a,laa,m.out,←y.oQ];simp[jB,jM t h.nl,jM t h.tl,F,G]⟩
    case measure=>simp[intOf];omega
  ·have hke:k=ln b.hl:=om
   go_wp2
   go_ret;exact⟨aF (by rw[z.oQ];have:=m.out;rw[ltl om]at this;exact this.symm),p⟩
end Go.Proofs.YtoolgmmljacfmaaGreatDoor
namespace Go.Proofs.YtoolgmmljacfmaaGreatDoor
open Go.Shelf
attribute [local go_sem] Oper.semAt_some
variable {a b:Ba}{l:List Hx}
theorem PL:∀a b:List UInt8,Op.bytesLess a b=false->Op.bytesLess b a=false->a=b
 |[],[],_,_=>rfl
 |[],_::_,h,_=>by simp[Op.bytesLess]at h
 |_::_,[],_,h=>by simp[Op.bytesLess]at h
 |x::xs,y::ys,h1,h2=>by
  have d:¬(x.toNat<y.toNat∨(x.toNat=y.toNat/\Op.bytesLess xs ys=true)):=λh=>by rw[(JL x y xs ys).2 h]at h1;cases h1
  have f:¬(y.toNat<x.toNat∨(y.toNat=x.toNat/\Op.bytesLess ys xs=true)):=λh=>by rw[(JL y x ys xs).2 h]at h2;cases h2
  have e:x.toNat=y.toNat:=om;have b1:Op.bytesLess xs ys=false:=by cases h:Op.bytesLess xs ys with|false=>rfl|true=>exact absurd (.inr ⟨e,h⟩) d
  have c:Op.bytesLess ys xs=false:=by cases h:Op.bytesLess ys xs with|false=>rfl|true=>exact absurd (.inr ⟨e.symm,h⟩) f
  rw[UInt8.toNat_inj.1 e,PL xs ys b1 c]
theorem YJ (c:gE a b=false)(d:gE b a=false):a.toList=b.toList:=PL _ _ c d
theorem Y9 (h:gE a b=true):(a.toList==b.toList)=false:=by
 cases e:(a.toList==b.toList)with
 |false=>rfl
 |true=>
  have c:a.toList=b.toList:=by simpa using e
  have:gE a b=false:=by unfold gE;rw[c];exact uM _
  rw[this]at h;cases h
def oW (a b:ByteArray):Int:=if gE a b then-1 else if gE b a then 1 else 0
theorem aAO (a b:Ba)(w:Wd):
 aW 199 #[.string a,.string b] w λe w'=>e=rt (I (oW a b))/\w'=w:=by
 cases h1:gE a b with
 |true=>
  have c:Hid (oW a b=-1):=by rw[Hid,oW,if_pos h1]
  have d:Op.bytesLess a.toList b.toList=true:=h1;clear h1;go_enter func199,ntmps199;go_wp2;go_ret;exact⟨by rw[c.oQ];rfl,rfl⟩
 |false=>
  have d:Op.bytesLess a.toList b.toList=false:=h1;cases h2:gE b a with
  |true=>
   have c:Hid (oW a b=1):=by rw[Hid,oW,if_neg (by simp[h1]),if_pos h2]
   have f:(a.toList==b.toList)=false:=by rw[BEq.comm];exact Y9 h2
   clear h1 h2;go_enter func199,ntmps199;go_wp2;go_ret;exact⟨by rw[c.oQ];rfl,rfl⟩
  |false=>
   have c:Hid (oW a b=0):=by rw[Hid,oW,if_neg (by simp[h1]),if_neg (by simp[h2])]
   have f:(a.toList==b.toList)=true:=by simpa using YJ h1 h2
   clear h1 h2;go_enter func199,ntmps199;go_wp2;go_ret;exact⟨by rw[c.oQ];rfl,rfl⟩
theorem xQ (h:Hx)(nm:Ba)(w:Wd):
 aW 198 #[h.val,.string nm] w λe w'=>e=rt (I (oW h.n nm))/\aG w w':=by
 have a:aG w (w.alloc (ho h)):=aC (br _ _) _;go_enter func198,ntmps198;go_wp2_with (go_at_call 199;refine(aAO _ _ _).mono ?_;rintro e w' ⟨rfl,rfl⟩);go_ret;exact⟨rfl,a⟩
theorem RC:oW a b<0↔gE a b=true:=by
 unfold oW;split;·rename_i h;simp[h]
 ·rename_i h;simp only[h];split<;>simp
theorem V0:oW a b=0↔a.toList=b.toList:=by
 constructor
 ·intro h;unfold oW at h;split at h;·cases h
  ·rename_i c;split at h;·cases h
   ·rename_i d;exact YJ (by simpa using c) (by simpa using d)
 ·intro e;have c:gE a b=false:=by unfold gE;rw[e];exact uM _
  have d:gE b a=false:=by unfold gE;rw[e];exact uM _
  unfold oW;rw[c,d];rfl
structure GX (l:List Hx)(nm:ByteArray)(i:Nat):Prop where
 le:i<=l.length
 lo:∀k (h:k<l.length),k<i->gE l[k].n nm=true
 hi:∀k (h:k<l.length),i<=k->gE l[k].n nm=false
theorem OJ (h:kR Hx.n l=true){i j:Nat}(hi:i<ln l)(hj:j<ln l)(hij:i<j):gE l[i].n l[j].n=true:=by
 have:=CN h (i:=i) (j-i-1) om;have e:i+(j-i-1)+1=j:=om;simpa[e]using this
theorem OU (l:List Hx)(N:Oa)(G:Nat)(nm:Ba)(w:Wd)(O:Xs 3 Hx.cells w N l)(hn:ln l<=64)(ha:kR Hx.n l=true):
 aW 197 #[.slice N (ln l) G,.string nm,.func (.func 198) #[] #[]] w λe w'=>(∃(i:Nat) (f:Bool),e=rt (.tuple #[I i,.bool f])/\GX l nm i/\(f=true↔∃h:i<ln l,l[i].n.toList=nm.toList))/\aG w w':=by
 have M:=aI ha;clear ha
 go_enter func197,ntmps197
 go_wp2
 go_loopw [9,10] (λJ K wr=>∃i j:Nat,i<=j/\j<=ln l/\J=I i/\K=I j/\Hid (∀k (h:k<ln l),k<i->gE l[k].n nm=true)/\Hid (∀k (h:k<ln l),j<=k->gE l[k].n nm=false)/\aG w wr) (λJ K _=>(intOf K).toNat-(intOf J).toNat)
 case atStart=>exact⟨0,ln l,nz _,nlq _,rfl,rfl,λk _ h=>absurd h om,λk h h2=>absurd h om,br _ _⟩
 case round=>
  obtain⟨i,j,hij,x,rfl,rfl,r,q,p⟩:=hrel
  by_cases hlt:i<j
  ·obtain⟨m,P⟩:=bQ ((i+j)/2:Nat)
   have H:i<=m:=om
   have hm2:m<j:=om
   have d:m<ln l:=om
   rcases O with h|⟨Q,L,rfl,s⟩
   ·rw[h]at d;simp at d
   obtain⟨A,B,C⟩:=gN ((s m d).zL p);have y:((i:Int)+(j:Int))/2=(m:Int):=om
   cases hcm:gE l[m].n nm with
   |true=>
    have o:decide (oW l[m].n nm<0)=true:=by simpa using RC.2 hcm
    have F:Hid (∀k (h:k<ln l),k<m+1->gE l[k].n nm=true):=λk h S=>by
     by_cases e:k=m
     ·subst e;exact hcm
     ·exact rP _ _ _ (OJ M.oQ h d om) hcm
    clear hcm s P;go_wp2_with fail
    refine(xQ l[m] nm wr).mono ?_;rintro e w1 ⟨rfl,a⟩;have b:=aE p a;clear p a A B C y r;generalize oW l[m].n nm=cc at o;go_wp2
    go_roundw
    case rel=>exact⟨m+1,j,om,x,gn,rfl,F,q,b⟩
    case measure=>simp[intOf];omega
   |false=>
    have o:decide (oW l[m].n nm<0)=false:=by
     rw[dfi,RC,hcm];simp
    have D:Hid (∀k (h:k<ln l),m<=k->gE l[k].n nm=false):=λk h S=>by
     by_cases e:k=m
     ·subst e;exact hcm
     ·cases g:gE l[k].n nm with
      |false=>rfl
      |true=>
       have:=rP _ _ _ (OJ M.oQ d h om) g;exact this.symm.trans hcm
    clear hcm s P;go_wp2_with fail
    refine(xQ l[m] nm wr).mono ?_;rintro e w1 ⟨rfl,a⟩;have b:=aE p a;clear p a A B C y q;generalize oW l[m].n nm=cc at o;go_wp2
    go_roundw
    case rel=>exact⟨i,m,H,om,rfl,rfl,r,D,b⟩
    case measure=>simp[intOf];omega
  ·have v:i=j:=om
   subst v;have HP:Hid (GX l nm i):=⟨x,r.out,q.out⟩;clear r q
   by_cases c:i<ln l
   ·rcases O with h|⟨Q,L,rfl,s⟩
    ·rw[h]at c;simp at c
    obtain⟨A,B,C⟩:=gN ((s i c).zL p);have z:Hid (oW l[i].n nm=0↔l[i].n.toList=nm.toList):=V0;clear s;go_wp2_with fail
    refine(xQ l[i] nm wr).mono ?_;rintro e w1 ⟨rfl,a⟩;have b:=aE p a;clear p a A B C
    by_cases t:oW l[i].n nm=0
    ·have u:Hid (∃h:i<ln l,l[i].n.toList=nm.toList):=⟨c,z.oQ.1 t⟩
     rw[t];clear z t;go_wp2
     go_ret2
     exact⟨⟨i,true,rfl,HP.oQ,λ_=>u.oQ,λ_=>rfl⟩,b⟩
    ·have u:Hid (¬∃h:i<ln l,l[i].n.toList=nm.toList):=λ⟨_,h⟩=>t (z.oQ.2 h)
     clear z;generalize oW l[i].n nm=cc at t;have R:(cc==0)=false:=by simpa using t
     go_wp2
     go_ret2
     exact⟨⟨i,false,rfl,HP.oQ,(λh=>by cases h),λh=>absurd h u.oQ⟩,b⟩
   ·have u:Hid (¬∃h:i<ln l,l[i].n.toList=nm.toList):=λ⟨h,_⟩=>c h
    have R:decide ((i:Int)<(ln l:Int))=false:=by simp;omega
    go_wp2
    go_ret2
    exact⟨⟨i,false,rfl,HP.oQ,(λh=>by cases h),λh=>absurd h u.oQ⟩,p⟩
theorem EJ (n:Nat)(hn:10<=n)(b:Bk)(nm:Ba)(t:List Bx)(ta:Oa)(k:Nat)(w:Wd)(hh:Xs 3 Hx.cells w b.ha b.hl)(V:ln b.hl<=1048576)(B:∀h∈b.hl,h.In w/\h.Fit)(ht:jG w ta t)(hnt:ln t<=1048576):
 CallsIn Fence.wide n Tryz.prog 162 #[b.val,.string nm,.slice ta (ln t) k] w λe W'=>e=rt (.bool (kC nm t b.hl))/\aG w W':=by
 have h1:1<=n:=om
 refine callsIn_of_wp_marks Tryz.func162 rfl trivial ?_ rfl;simp only[Tryz.ntmps162,lsz,llc,lln,Nat.reduceAdd,Nat.reduceSub,ars,arz,lpt,lap,lna,lca];gi_wp2_with fail
 refine⟨trivial,?_⟩;refine(Y8 (n-1) b nm _).mono ?_;rintro e W0 ⟨L,M,rfl,i,S,T,U⟩
 have O:(((w.alloc (bo b)).alloc (.cells #[.slice ta (ln t) k] 41)).alloc (.cells #[.bool false] 4)).heap[w.heap.size+1]?=some (.cells #[.slice ta (ln t) k] 41):=
  (halq _ _ (w.heap.size+1) sm).trans (by have:=wnq (w.alloc (bo b)) (.cells #[.slice ta (ln t) k] 41);rwa[wsa]at this)
 have J:=Boxed.new ((w.alloc (bo b)).alloc (.cells #[.slice ta (ln t) k] 41)) 4 (.bool false);have o:aG w (((w.alloc (bo b)).alloc (.cells #[.slice ta (ln t) k] 41)).alloc (.cells #[.bool false] 4)):=(((br _ w).alloc (nlq _) _).alloc sm _).alloc so _;have H:(((w.alloc (bo b)).alloc (.cells #[.slice ta (ln t) k] 41)).alloc (.cells #[.bool false] 4)).heap.size=w.heap.size+3:=by simp
 simp only[wsa]at J;gi_wp2_with fail
 obtain⟨Wa,G⟩:=cI (((w.alloc (bo b)).alloc (.cells #[.slice ta (ln t) k] 41)).alloc (.cells #[.bool false] 4));rw[G]at O J o H i U;clear G;have m:aG w W0:=aE o i;have hz0:w.heap.size+3<=W0.heap.size:=by have:=i.size;omega
 have P:=(i.block (w.heap.size+1) om).trans O;have F:Boxed W0 (w.heap.size+1+1) 4 (.bool false):=(i.block (w.heap.size+1+1) om).trans J;clear O J o H i
 refine mX (X:=λ_=>False) rfl h1 (gf:=234) (lb:=#[E L 0,E M 0]) rfl trivial (enters_of Tryz.func234 kr rfl)
  (CW (n-1) om b nm L M w W0 B V (λ_=>False) (λ_ h=>h.elim) id (λ_ _ _=>id) S T (hh.zL m)) (br _ _) (λ_=>rfl)
  (λj W=>(∀x∈j,dD t (x.1.1.pl x.1.2)=false)/\aG W0 W)
  (λc j W=>((c=.ret/\∃x∈j,dD t (x.1.1.pl x.1.2)=true)/\Boxed W (w.heap.size+1+1) 4 (.bool false))/\aG w W)
  (OwnFrom.and (ownFrom_pure _ _) (ownFrom_below (nlq _) (nlq _)))
  (λc=>OwnFrom.and (OwnFrom.and (ownFrom_pure _ _) (Own.from (boxed_own _ _ _) _)) (ownFrom_below (nlq _) om))
  ⟨sm,br _ _⟩
  (λx N _=>N={ tmps:=#[b.val,.string nm,.slice ta (ln t) k,ea w 0,undef,E (w.heap.size+1) 0,E (w.heap.size+1+1) 0,x.1.1.part x.1.2,b.val,.string nm,.func (.func 234) #[] #[E L 0,E M 0],x.1.1.part x.1.2,undef,undef,undef],defers:=[]})
  (λx N=>ownFrom_pure _ _)
  ?assign ?body ?done ?stop
 case assign=>
  rintro lp j x W K hi v;gi_wp2;exact v _ _ ((KeepsOthers.refl _).from _) (bE.refl _ _) hi rfl
 case body=>
  rintro lp j x N W hl' _ ⟨Z,d⟩ rfl hlt';have Q:=(d.block (w.heap.size+1) om).trans P;have l:Boxed W (w.heap.size+1+1) 4 (.bool false):=(d.block (w.heap.size+1+1) om).trans F;have cT:W.cell? (Y (w.heap.size+1) 0)=some (.slice ta (ln t) k):=aB Q rfl;have s:aG w W:=m.trans (d.mono om);have C:=l.cell;have R:=l.frozen;have h1':1<=n-1-1:=om
  obtain⟨u,hu⟩:=cI (dD t (x.1.1.pl x.1.2));gi_wp2_with fail
  refine⟨trivial,?_⟩;refine(CallsIn.inRound lp (cw.2 (vW t (x.1.1.pl x.1.2) _ _ _ _ W (ht.zL s) (x.bxs s) hnt x.len))).mono ?_;rintro e w1 ⟨rfl,f⟩;have za:(t.any λa=>(x.1.1.pl x.1.2).any (dY a))=u:=hu;rw[za];have cR1:=(f.cell (p:=(Y (w.heap.size+1+1) 0)) (aA C)).trans C;have fR1:=(f.frozen (p:=(Y (w.heap.size+1+1) 0)) (aA C)).trans R;have g:Boxed w1 (w.heap.size+1+1) 4 (.bool false):=(f.block _ (aA C)).trans l;clear C R cT
  cases u
  ·gi_wp2
   exact⟨(cA f).from _,bE.of_below f,λz hz=>(lma.1 hz).elim (Z z) (λe=>by simp at e;subst e;exact hu),d.trans (f.mono d.size)⟩
  ·gi_wp2
   exact⟨((cA f).trans (KeepsOthers.setCell _ _ _)).from _,⟨⟨rfl,x,lma.2 (.inr sm),hu⟩,g.set _⟩,(aE s f).setCell (p:=(Y (w.heap.size+1+1) 0)) (by show w.heap.size<=w.heap.size+1+1;omega) _⟩
 case done=>
  rintro D zs W hD rfl ⟨Z,d⟩ v;have g:Boxed W (w.heap.size+1+1) 4 (.bool false):=(d.block _ om).trans F;have C:=g.cell;have R:=g.frozen;gi_wp2;have y:=(KeepsOthers.setCell W (Y (w.heap.size+1+1) 0) (.bool true)).same D _ v rfl;refine⟨sm,.inl ⟨_,_,rfl,rtd y,?_⟩⟩;have A:=cell_kept (g.set (.bool true)).cell (grownBy_putObj' _ D (.deferred none)) (λr e=>by cases e;exact⟨_,y,rfl⟩);refine⟨.bool true,?_,by rw[VU Z],(((m.trans (d.mono om)).setCell (p:=(Y (w.heap.size+1+1) 0)) (by show w.heap.size<=w.heap.size+1+1;omega) _).trans (belowK_b (w:=w) (nlq _) _ D _ _ om y rfl rfl))⟩
  simp[results,Tryz.f162,go_sem,A]
 case stop=>
  rintro D c j W hD ⟨q,hq,rfl⟩ ⟨⟨⟨rfl,x,hx,hy⟩,g⟩,d⟩ v;gi_wp2;refine⟨sm,.inl ⟨_,_,rfl,rtd v,?_⟩⟩;have A:=cell_kept g.cell (grownBy_putObj' _ D (.deferred none)) (λr e=>by cases e;exact⟨_,v,rfl⟩);refine⟨.bool false,?_,by rw[UO hq hx hy],d.trans (belowK_b (w:=w) (nlq _) W D _ _ om v rfl rfl)⟩
  simp[results,Tryz.f162,go_sem,A]
theorem DL (b:Bk)(nm:Ba)(t:List Bx)(ta:Oa)(d:Nat)(w:Wd)(g:Xs 3 Hx.cells w b.ha b.hl)(c:ln b.hl<=1048576)(a:∀h∈b.hl,h.In w/\h.Fit)(i:jG w ta t)(hnt:ln t<=1048576):
 aW 162 #[b.val,.string nm,.slice ta (ln t) d] w λe f=>e=rt (.bool (kC nm t b.hl))/\aG w f:=cw.1 (EJ 10 om b nm t ta d w g c a i hnt)
