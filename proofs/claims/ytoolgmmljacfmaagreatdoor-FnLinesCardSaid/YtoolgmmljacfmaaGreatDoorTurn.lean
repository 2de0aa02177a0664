import Derived.Test.YtoolgmmljacfmaaGreatDoorWi
import Derived.Test.YtoolgmmljacfmaaGreatDoorKeep
set_option maxRecDepth 100000
set_option maxHeartbeats 8000000
open List renaming length → ln
open Go.Proofs.Tryz Go.RowKit
namespace Go.Proofs.YtoolgmmljacfmaaGreatDoor
open Go.Shelf
attribute [local go_sem] Oper.semAt_some
variable {w a Z:Wd}{l:List Hx}{B o:Nat}{n:Array Va}{t:TypeId}{X:Nat → Prop}{c:List Va}
theorem OP (h:Hx)(w:Wd):
 aW 191 #[h.val] w λe w'=>e=rt (.slice h.ta (ln h.tl) h.tc)/\aG w w':=by
 go_enter func191,ntmps191;go_wp2;go_ret;exact⟨rfl,(br _ _).alloc (nlq _) _⟩
theorem OD (h:Hx)(w:Wd):
 aW 192 #[h.val] w λe w'=>e=rt (.slice h.na (ln h.nl) h.nc)/\aG w w':=by
 go_enter func192,ntmps192;go_wp2;go_ret;exact⟨rfl,(br _ _).alloc (nlq _) _⟩
def Hx.pa (h:Hx)(s:Bool):Option Addr:=if s then h.na else h.ta
def Hx.pl (h:Hx)(s:Bool):List Bx:=if s then h.nl else h.tl
def Hx.pc (h:Hx)(s:Bool):Nat:=if s then h.nc else h.tc
abbrev Hx.part (h:Hx)(s:Bool):Value:=.slice (h.pa s) (h.pl s).length (h.pc s)
abbrev HP (w:World):={ x:Hx×Bool//x.1.In w/\x.1.Fit}
def AR:Hx:=⟨ByteArray.empty,none,[],0,none,[],0⟩
theorem PD (h:∀x∈l,x.In w/\x.Fit)(j:Nat):(gB l j).In w/\(gB l j).Fit:=by
 by_cases a:j<ln l;·rw[dB l j a];exact h _ (lgm a)
 ·have e:gB l j=AR:=by simp[gB,AR,Nat.le_of_not_lt a]
  rw[e];exact⟨⟨Or.inl rfl,Or.inl rfl⟩,⟨nz _,nz _,nz _⟩⟩
def eC {w:World}(l:List Hx)(h:∀x∈l,x.In w/\x.Fit)(m:Nat):HP w:=⟨(gB l (m/2),decide (m%2=1)),PD h (m/2)⟩
theorem gK (h:aG w a):w.grownBy a none:=⟨h.os,h.tape,h.output,h.size,λk b _=>h.block k b⟩
structure pS (B:Nat)(A A':World):Prop where
 b:Below B A A'
 c:∀(k:Nat) (o:Obj),A.heap[k]?=some o->o.isCells=true->A'.heap[k]?=some o
theorem pS.trans (h:pS B w a)(g:pS B a Z):pS B w Z:=⟨h.b.trans g.b,λk o e d=>g.c k o (h.c k o e d) d⟩
theorem pS.of_below (h:aG w a)(c:B<=w.heap.size):pS B w a:=⟨h.mono c,λk _ b _=>(h.block k (cE b)).trans b⟩
abbrev Hx.obj (h:Hx):Obj:=.cells #[.string h.n,.slice h.ta h.tl.length h.tc,.slice h.na h.nl.length h.nc] 74
theorem aB {w:Wd}{z j:Nat}{v:Va}(h:w.heap[z]?=some (.cells n t))(b:n[j]?=some v):w.cell? (Y z j)=some v:=by simp[World.cell?,h,b]
theorem vT (h:∀x∈l,x.In w/\x.Fit)(k:Nat):(eC l h (k*2+0)).1=(gB l k,false):=by
 simp only[eC,naz,Nat.mul_div_cancel k (by decide:0<2),Nat.mul_mod_left];rfl
theorem uY (h:∀x∈l,x.In w/\x.Fit)(k:Nat):(eC l h (k*2+1)).1=(gB l k,true):=by
 simp only[eC,show(k*2+1)/2=k by omega,show(k*2+1)%2=1 by omega];rfl
theorem JG (h:bC w B o c)(d:bE X w Z)(hx:¬X B):bC Z B o c:=λj v b=>d.cell (p:=(Y B (o+j))) hx (h j v b)
theorem YQ (w0:Wd)(n:Nat)(lp Bh Bp G y zh:Nat)(X:Nat->Prop)(zj:∀k,X k->k<y)(ao:Oa)(l:List Hx)(a:∀x∈l,x.In w0/\x.Fit)(hlen:ln l<=1048576)(zi:¬X Bp)(hG:¬X G)
 (J Jx:List (HP w0)->Wd->Prop)(W:Wd)(R:y<=W.heap.size)(L:AbidesFrom W.heap.size J)
 (hY:∀f (x:HP w0) W,J f W->ln f<ln l*2->YieldAt Fence.wide (n-1) prog lp #[x.1.1.val,x.1.1.part x.1.2] W λe Z=>
  (e=rt (.bool true)/\J (f++[x]) Z/\bE X W Z)∨(e=rt (.bool false)/\Jx (f++[x]) Z))
 (hBhc:W.cell? (Y Bh 0)=some (.slice ao (ln l) zh))(zc:W.cell? (Y Bp 0)=some (.slice (some (Y G 0)) 2 2))
 (zk:W.cell? (Y G 0)=some (.func (.func 191) #[] #[]))(zl:W.cell? (Y G 1)=some (.func (.func 192) #[] #[]))
 (hX:l=[]∨∃bl U,ao=some (Y bl U)/\¬X bl/\∀j (h:j<ln l),bC W bl (U+j*3) l[j].cells)(h0:J [] W):
 CallsIn Fence.wide n prog 244 #[.func (.yield lp) #[] #[],E Bh 0,E Bp 0] W λe Z=>(∃v,e=rt v)/\
  ((∃ys,ys=cS (eC l a) (ln l*2)/\J ys Z)∨(∃f,(∃k,k<=ln l*2/\f=cS (eC l a) k)/\Jx f Z)):=by
 refine cow func244 rfl trivial ?_ rfl;simp only[ntmps244,lsz,llc,lln,Nat.reduceAdd,Nat.reduceSub,ars,arz,lpt,lap,lna,lca];gi_wp2
 gi_loopw [10] (λi wr=>∃k:Nat,k<=ln l/\i=I k/\J (cS (eC l a) (k*2)) wr/\bE X W wr) (λi _=>ln l-(intOf i).toNat)
 case atStart=>exact⟨0,nz _,rfl,h0,bE.refl _ _⟩
 case round=>
  obtain⟨k,hk,rfl,M,u⟩:=hrel
  by_cases B:k<ln l
  ·obtain⟨bl,U,rfl,hb,hc⟩:=hX.resolve_left (λe=>by rw[e]at B;simp at B)
   have ze:=u.cell (p:=(Y Bp 0)) zi zc;have O:=JG (hc k B) u hb;obtain⟨h,N⟩:=bQ (gB l k);rw[←dB l k B,←N]at O;have HB:=aI N;clear N;obtain⟨c0,c1,c2⟩:=gN O;clear O;have hz:Bp<wr.heap.size:=aA ze;have zm:y<=wr.heap.size:=nlt R u.size;have t:(wr.alloc h.obj).heap[wr.heap.size]?=some h.obj:=wnq wr _;have zd:J (cS (eC l a) (k*2)) (wr.alloc h.obj):=L _ _ _ none M (gK ((br _ _).alloc (nlq _) _)) (λr e=>by cases e);have zb:bE X W (wr.alloc h.obj):=u.trans (bE.of_below ((br _ _).alloc (nlq _) _));gi_wp2;obtain⟨z,zg⟩:=bQ wr.heap.size;have zf:¬X z:=λe=>by have:=zj _ e;omega
   rw[←zg]at t ⊢;clear ze c0 c1 c2 hz M u zg
   gi_loopw [16] (λi V=>∃s:Nat,s<=2/\i=I s/\J (cS (eC l a) (k*2+s)) V/\bE X W V/\V.heap[z]?=some h.obj) (λi _=>2-(intOf i).toNat)
   case atStart=>exact⟨0,om,rfl,zd,zb,t⟩
   case round=>
    clear t zd zb zm;obtain⟨s,zp,rfl,H,b,d⟩:=hrel;have P:=b.cell (p:=(Y G 0)) hG zk;have Q:=b.cell (p:=(Y G 1)) hG zl;have e0:wr.cell? (Y z 0)=some (.string h.n):=aB d rfl;have e1:wr.cell? (Y z 1)=some (ts h):=aB d rfl;have e2:wr.cell? (Y z 2)=some (ns h):=aB d rfl
    rcases(by omega:s=0∨s=1∨s=2)with rfl|rfl|rfl
    ·gi_wp2_with fail
     refine mM 5 kr kr ?_;have HA:Nonempty (cV wr):=⟨⟨wr,br _ _⟩⟩;have f0:=λs:cV wr=>cV.cell e0 s;have f1:=λs:cV wr=>cV.cell e1 s;have f2:=λs:cV wr=>cV.cell e2 s;clear e0 e1 e2 P Q;simp only[lts,List.take_zero,lds,ldz]
     repeat (go_big_quiet_step ((go_at_call 191;exact cV.call _ (OP h _))))
     refine wpQuiet_nil ?_;rintro _ ⟨g,rfl⟩;have S:(eC l a (k*2+0)).1=(h,false):=by rw[HB.oQ];exact vT a k
     have m:J (cS (eC l a) (k*2+0)) g.w:=L _ _ _ none H (gK g.h) (λr e=>by cases e);obtain⟨fn,tmps,A,za,C,hR⟩:=hY _ (eC l a (k*2+0)) g.w m (by rw[eT];omega);rw[S]at C;have D:=hR;have T:g.w.heap[z]?=some h.obj:=(g.h.block z (cE d)).trans d;have F:bE X W g.w:=b.trans (bE.of_below g.h);clear hR hY m f0 f1 f2;simp only[Hx.part,Hx.pa,Hx.pl,Hx.pc,Hx.val,bft,if_false]at C;gi_wp2_with fail
     refine⟨λh=>(by cases h),?_⟩;refine RoundIn.mono D ?_;rintro e W3 (⟨rfl,K,q⟩|⟨rfl,o⟩)
     ·clear D C
      gi_wp2;refine⟨⟨0+1,om,rfl,?_,F.trans q,q.c z _ zf T rfl⟩,by simp[intOf]⟩;have hu:=eQ (eC l a) (k*2+0);rw[show k*2+(0+1)=k*2+0+1 by omega,hu];exact K
     ·clear D C
      gi_wp2;refine bpr (results_none rfl _ _ _) rfl ?_;exact⟨⟨_,rfl⟩,.inr ⟨_,⟨k*2+0+1,om,(eQ _ _).symm⟩,o⟩⟩
    ·gi_wp2_with fail
     refine mM 5 kr kr ?_;have HA:Nonempty (cV wr):=⟨⟨wr,br _ _⟩⟩;have f0:=λs:cV wr=>cV.cell e0 s;have f1:=λs:cV wr=>cV.cell e1 s;have f2:=λs:cV wr=>cV.cell e2 s;clear e0 e1 e2 P Q;simp only[lts,List.take_zero,lds,ldz]
     repeat (go_big_quiet_step ((go_at_call 192;exact cV.call _ (OD h _))))
     refine wpQuiet_nil ?_;rintro _ ⟨g,rfl⟩;have S:(eC l a (k*2+1)).1=(h,true):=by rw[HB.oQ];exact uY a k
     have m:J (cS (eC l a) (k*2+1)) g.w:=L _ _ _ none H (gK g.h) (λr e=>by cases e);obtain⟨fn,tmps,A,za,C,hR⟩:=hY _ (eC l a (k*2+1)) g.w m (by rw[eT];omega);rw[S]at C;have D:=hR;have T:g.w.heap[z]?=some h.obj:=(g.h.block z (cE d)).trans d;have F:bE X W g.w:=b.trans (bE.of_below g.h);clear hR hY m f0 f1 f2;simp only[Hx.part,Hx.pa,Hx.pl,Hx.pc,Hx.val,if_true]at C;gi_wp2_with fail
     refine⟨λh=>(by cases h),?_⟩;refine RoundIn.mono D ?_;rintro e W3 (⟨rfl,K,q⟩|⟨rfl,o⟩)
     ·clear D C
      gi_wp2;refine⟨⟨1+1,om,rfl,?_,F.trans q,q.c z _ zf T rfl⟩,by simp[intOf]⟩;have hu:=eQ (eC l a) (k*2+1);rw[show k*2+(1+1)=k*2+1+1 by omega,hu];exact K
     ·clear D C
      gi_wp2;refine bpr (results_none rfl _ _ _) rfl ?_;exact⟨⟨_,rfl⟩,.inr ⟨_,⟨k*2+1+1,om,(eQ _ _).symm⟩,o⟩⟩
    ·clear e0 e1 e2 P Q
     gi_wp2;refine⟨⟨k+1,om,gn,?_,b⟩,by simp[intOf];omega⟩;rw[show(k+1)*2=k*2+2 by omega];exact H
  ·have zn:k=ln l:=om
   gi_wp2
   go_end0
   exact⟨⟨_,rfl⟩,.inl ⟨_,rfl,by rw[←zn];exact M⟩⟩
variable {n g N:Nat}{F:Fence}{P:Program}{lb:Array Va}
theorem SR (n:Nat)(a b:Oa)(f d k c:Nat)(w:Wd):
 CallsIn Fence.wide n prog 190 #[.slice a f d,.slice b k c] w λe w'=>e=rt (.func (.func 244) #[] #[E w.heap.size 0,E (w.heap.size+1) 0])/\
  w'=(w.alloc (.cells #[.slice a f d] 30)).alloc (.cells #[.slice b k c] 285):=by
 refine cow func190 rfl trivial ?_ rfl;simp only[ntmps190,lsz,llc,lln,Nat.reduceAdd,Nat.reduceSub,ars,arz,lpt,lap,lna,lca];gi_wp2;go_ret;exact⟨sm,rfl⟩
theorem FI (n:Nat)(h1:1<=n)(a:Oa)(c b:Nat)(w:Wd):
 CallsIn Fence.wide n prog 152 #[.slice a c b] w λe w'=>∃h g G,e=rt (.func (.func 244) #[] #[E h 0,E g 0])/\aG w w'/\
  w'.cell? (Y h 0)=some (.slice a c b)/\w'.cell? (Y g 0)=some (.slice (some (Y G 0)) 2 2)/\w'.cell? (Y G 0)=some (.func (.func 191) #[] #[])/\w'.cell? (Y G 1)=some (.func (.func 192) #[] #[])/\w.heap.size<=g/\w.heap.size<=G:=by
 refine cow func152 rfl trivial ?_ rfl;simp only[ntmps152,lsz,llc,lln,Nat.reduceAdd,Nat.reduceSub,ars,arz,lpt,lap,lna,lca];gi_wp2_with fail;refine⟨trivial,?_⟩;refine(SR (n-1) _ _ _ _ _ _ _).mono ?_;rintro e w' ⟨rfl,rfl⟩;have b1:=Boxed.new (w.alloc (.cells #[.func (.func 191) #[] #[],.func (.func 192) #[] #[]] 229)) 30 (.slice a c b);have i:=Boxed.new ((w.alloc (.cells #[.func (.func 191) #[] #[],.func (.func 192) #[] #[]] 229)).alloc (.cells #[.slice a c b] 30)) 285 (sl w.heap.size 0 2 2);have j:(w.alloc (.cells #[.func (.func 191) #[] #[],.func (.func 192) #[] #[]] 229)).heap[w.heap.size]?=some (.cells #[.func (.func 191) #[] #[],.func (.func 192) #[] #[]] 229):=wnq w _
 have k:aG w (((w.alloc (.cells #[.func (.func 191) #[] #[],.func (.func 192) #[] #[]] 229)).alloc (.cells #[.slice a c b] 30)).alloc (.cells #[sl w.heap.size 0 2 2] 285)):=
  (((br _ w).alloc (nlq _) _).alloc sm _).alloc so _
 have f:=b1.alloc (.cells #[sl w.heap.size 0 2 2] 285);have d:=(halq _ (.cells #[sl w.heap.size 0 2 2] 285) w.heap.size so).trans ((halq _ (.cells #[.slice a c b] 30) w.heap.size sm).trans j);simp only[wsa]at f i;gi_wp2;go_ret;exact⟨_,_,w.heap.size,rfl,k,by simpa using f.cell,by simpa using i.cell,aB d rfl,aB d rfl,om,nlq _⟩
theorem BJ (n:Nat)(g:1<=n)(a:Oa)(c b:Nat)(w:Wd):
 CallsIn Fence.wide n prog 152 #[.slice a c b] w λe w'=>∃d f G,e=rt (.func (.func 244) #[] #[E d 0,E f 0])/\aG w w'/\
  w'.cell? (Y d 0)=some (.slice a c b)/\w'.cell? (Y f 0)=some (.slice (some (Y G 0)) 2 2)/\w'.cell? (Y G 0)=some (.func (.func 191) #[] #[])/\w'.cell? (Y G 1)=some (.func (.func 192) #[] #[]):=
 (FI n g a c b w).mono (λ_ _ ⟨d,f,G,g,h,i,j,k,l,_⟩=>⟨d,f,G,g,h,i,j,k,l⟩)
theorem IC (h:B<=w.heap.size)(W:Wd)(l:Nat)(o c:Obj)(i:w.heap.size<=l)(f:W.heap[l]?=some o)(d:o.isCells=false)(j:o.isWalk=false):pS B W (W.putObj l c):=by
 refine⟨belowK_b h W l o c i f d j,λk u a g=>?_⟩;have b:k≠l:=λe=>by subst e;rw[f]at a;cases a;rw[d]at g;cases g
 exact((grownBy_putObj' W l c).block k (cE a) (λe=>b (osi e))).trans a
theorem UL {α:Type}{b:α->Array Va}{Kp e:Wd->Wd->Prop}{S Sp:List α->Prop}(h:SeqStopsK F n P g lb b Kp S Sp N w)(q:∀A B,e A B->Kp A B):SeqStopsK F n P g lb b e S Sp N w:=
 λl J f W m k c o j=>h l J f W m k c (λd x i p s=>(o d x i p s).mono (λ_ _ r=>r.imp (λa=>⟨a.1,a.2.1,q _ _ a.2.2⟩) id)) j
theorem wC (n:Nat)(i f G c:Nat)(g:Oa)(l:List Hx)(w0:Wd)(a:∀x∈l,x.In w0/\x.Fit)(d:ln l<=1048576)(w:Wd)(X:Nat->Prop)(q:∀k,X k->k<w.heap.size)(t:¬X f)(r:¬X G)(s:∀p,g=some p->l≠[]->¬X p.block)
 (m:w.cell? (Y i 0)=some (.slice g (ln l) c))(o:w.cell? (Y f 0)=some (.slice (some (Y G 0)) 2 2))(u:w.cell? (Y G 0)=some (.func (.func 191) #[] #[]))(v:w.cell? (Y G 1)=some (.func (.func 192) #[] #[]))
 (H:Xs 3 Hx.cells w g l):
 SeqStopsK Fence.wide n prog 244 #[E i 0,E f 0] (λx:HP w0=>#[x.1.1.val,x.1.1.part x.1.2]) (bE X) (λN=>N=cS (eC l a) (ln l*2)) (λz=>∃k,k<=ln l*2/\z=cS (eC l a) k) (ln l*2) w:=λM J C W b F _ K D=>by
 refine YQ w0 n M i f G w.heap.size c X q g l a d t r J C W b.size F K (ctq b m) (ctq b o) (ctq b u) (ctq b v) ?_ D
 rcases l with _|⟨x,l⟩
 ·exact .inl rfl
 ·rcases H with h|⟨A,y,e,B⟩
  ·cases h
  ·have L:A<w.heap.size:=aA (gN (B 0 sm)).1
   exact .inr ⟨A,y,e,s _ e sm,λj h=>gS (B j h) b L⟩
theorem rZ (n:Nat)(f g G d:Nat)(i:Oa)(l:List Hx)(w0:Wd)(a:∀x∈l,x.In w0/\x.Fit)(e:ln l<=1048576)(w:Wd)
 (j:w.cell? (Y f 0)=some (.slice i (ln l) d))(m:w.cell? (Y g 0)=some (.slice (some (Y G 0)) 2 2))(p:w.cell? (Y G 0)=some (.func (.func 191) #[] #[]))(q:w.cell? (Y G 1)=some (.func (.func 192) #[] #[]))
 (s:Xs 3 Hx.cells w i l):
 SeqStopsK Fence.wide n prog 244 #[E f 0,E g 0] (λx:HP w0=>#[x.1.1.val,x.1.1.part x.1.2]) (pS w.heap.size) (λv=>v=cS (eC l a) (ln l*2)) (λr=>∃k,k<=ln l*2/\r=cS (eC l a) k) (ln l*2) w:=
 UL (wC n f g G d i l w0 a e w (λ_=>False) (λ_ h=>h.elim) id id (λ_ _ _=>id) j m p q s) (λ_ _ h=>⟨h.b.size,λk o _ t u=>h.c k o t u⟩)
end Go.Proofs.YtoolgmmljacfmaaGreatDoor
namespace Go.Proofs.YtoolgmmljacfmaaGreatDoor
variable {l m:List Hx}
theorem Tryz.info74:(Tryz.prog.info? 74).map (λi=>(i.zero,i.size,i.bytes))=some (some (.agg #[.string ByteArray.empty,ms,ms]),3,64):=kr
theorem aT.fit (h:aT l m)(b:∀x∈l,x.Fit):∀x∈m,x.Fit:=λx hx=>by
 obtain⟨k,c,rfl⟩:=lgo hx;have a:k<ln l:=by rw[←h.len];exact c
 have g:=b l[k] (lgm a);have e:=h.like k a;exact⟨by rw[←e.t];exact g.tn,by rw[←e.x];exact g.nn,by rw[←e.n];exact g.sn⟩
variable {t sz d n k e:Nat}{w:Wd}
theorem gD.setOther {α:Type}{c:α->List Va}{l:List α}(h:gD t sz c w d n l k){a:Addr}(ha:d≠a.block)(v:Va):gD t sz c (w.setCell a v) d n l k:=by
 obtain⟨f,b,e⟩:=h;exact⟨f,b.setOther ha v,e⟩
theorem gD.xs' {α:Type}{c:α->List Va}{l:List α}(h:gD t sz c w e n l k)(m:∀a,ln (c a)=sz)(hk:ln l<=k)(hn:ln l<=n):∀i (h:i<ln l),bC w e (0+i*sz) (c l[i]):=by
 obtain⟨f,b,o⟩:=h;intro i p j v g
 have d:j<sz:=by
  rw[←m l[i]];exact(lgs.1 g).1
 rw[nza,b.cell (IJ sz om d),o i p om j v g]
structure Copied (w:World)(b b':Bk):Prop where
 now:b'.now=b.now
 fl:b'.fl=b.fl
 fc:b'.fc=b.fl.length
 fs:Xs 3 Fx.cells w b'.fa b'.fl
 hs:∃q,b'.ha=some ⟨q,0,none⟩/\∀i (h:i<b'.hl.length),bC w q (0+i*3) b'.hl[i].cells
 likes:aT b.hl b'.hl
 inn:∀h∈b'.hl,h.In w
variable {a o b:Nat}{f:Cx}{n:Yx}{i:Int}
theorem Tryz.info107:(Tryz.prog.info? 107).map (λi=>(i.zero,i.size,i.bytes))=some (some (.agg #[I 0,I 0]),2,16):=kr
theorem Tryz.info89:(Tryz.prog.info? 89).map (λi=>(i.zero,i.size,i.bytes))=some (some (.agg #[ms]),1,24):=kr
theorem Tryz.info3:(Tryz.prog.info? 3).map (λi=>(i.zero,i.size,i.bytes))=some (some (I 0),1,8):=kr
theorem qN (h:bC w a o f.cells):w.cell? (Y a o)=some (I f.x)/\w.cell? (Y a (o+1))=some (I f.y):=
 ⟨h 0 _ rfl,h 1 _ rfl⟩
theorem RI (h:bC w b o n.cells):w.cell? (Y b o)=some (.slice n.a (ln n.l) n.c):=h 0 _ rfl
theorem RM (h:bC w a o (dV i)):w.cell? (Y a o)=some (I i):=h 0 _ rfl
structure I4 (l m:List Yx):Prop where
 len:m.length=l.length
 like:∀k (h:k<l.length),(m[k]'(by omega)).l=l[k].l
end Go.Proofs.YtoolgmmljacfmaaGreatDoor
namespace Go.Proofs.YtoolgmmljacfmaaGreatDoor
open Go.Shelf
attribute [local go_sem] Oper.semAt_some
variable {l:List Cx}{k:Nat}{c b:Cx}{W d:Wd}{w:Option Nat}
abbrev PC:={ p:Cx×Cx//gG p.1=true/\gG p.2=true}
theorem RR (h:l.all gG=true)(j:Nat):gG (lW l j)=true:=by
 by_cases a:j<ln l;·rw[jW l j a];exact lat.1 h _ (lgm a)
 ·simp[lW,Nat.le_of_not_lt a];decide
def pD (l:List Cx)(h:l.all gG=true)(j:Nat):PC:=⟨(lW l j,lW l (j+1)),RR h j,RR h (j+1)⟩
theorem SI (n:Nat) (X D c u m H:Nat) (l:List Cx) (g:l.all gG=true) (P:1<=ln l) (hlen:ln l<=1048576) (V:u<c) (K:D<c)
 (J Q:List PC->Wd->Prop) (W:Wd) (y:AbidesFrom W.heap.size J)
 (U:∀d (x:PC) W,J d W->ln d<ln l-1->YieldAt Fence.wide (n-1) prog X #[x.1.1.val,x.1.2.val] W λe t=>
  (e=rt (.bool true)/\J (d++[x]) t/\Below c W t)∨(e=rt (.bool false)/\Q (d++[x]) t))
 (w:W.cell? (Y D 0)=some (.slice (some (Y u m)) (ln l) H)) (M:∀j (h:j<ln l),bC W u (m+j*2) l[j].cells) (R:J [] W):
 CallsIn Fence.wide n prog 288 #[.func (.yield X) #[] #[],E D 0] W λe t=>(∃v,e=rt v)/\
  ((∃Z,Z=cS (pD l g) (ln l-1)/\J Z t)∨(∃d,(∃k,k<=ln l-1/\d=cS (pD l g) k)/\Q d t)):=by
 refine cow func288 rfl trivial ?_ rfl;simp only[ntmps288,lsz,llc,lln,Nat.reduceAdd,Nat.reduceSub,ars,arz,lpt,lap,lna,lca];gi_wp2
 gi_loopw [3] (λi wr=>∃k:Nat,k+1<=ln l/\i=I ((k:Int)+1)/\J (cS (pD l g) k) wr/\Below c W wr)
  (λi _=>ln l-(intOf i).toNat)
 case atStart=>exact⟨0,P,rfl,R,br _ _⟩
 case round=>
  obtain⟨k,hk,rfl,o,f⟩:=hrel;have hcb:=(f.cell (p:=(Y D 0)) K).trans w
  by_cases B:k+1<ln l
  ·have z:J (cS (pD l g) k) wr.drew:=y _ _ _ none o (pI wr) (λr e=>by cases e)
   obtain⟨fn,tmps,assign,body,C,S⟩:=U _ (pD l g k) wr.drew z (by rw[eT];omega)
   dsimp only[pD]at C
   have T:Below c wr wr.drew:=(br _ _).drew;have q:bC wr u (m+k*2) (lW l k).cells:=by rw[jW l k om];exact gS (M k om) f V
   have s:bC wr u (m+(k+1)*2) (lW l (k+1)).cells:=by rw[jW l (k+1) B];exact gS (M (k+1) B) f V
   generalize lW l k=a at C q;generalize lW l (k+1)=b at C s;obtain⟨c0,c1⟩:=qN q;obtain⟨d0,d1⟩:=qN s;have hi0:(0:Int)<=(k:Int):=om
   have hi1:(k:Int)<(ln l:Int):=om
   have hi2:(k:Int)+1<(ln l:Int):=om
   have hi3:(0:Int)<=(k:Int)+1:=om
   have F:=aI (f.trans T);have G:=S;clear S M w R o z f T U y q s;gi_wp2_with fail
   refine jX 10 kr kr ?_;simp only[lts,List.take_zero,lds,ldz]
   repeat (go_big_quiet_step (fail))
   refine wpQuiet_nil ?_;clear c0 c1 d0 d1;gi_wp2_with fail
   refine⟨λh=>(by cases h),?_⟩;refine RoundIn.mono G ?_;rintro e W3 (⟨rfl,L,N⟩|⟨rfl,A⟩)
   ·clear G C
    gi_wp2
    go_roundw
    case rel=>exact⟨k+1,om,gn,by rw[eQ];exact L,F.oQ.trans N⟩
    case measure=>simp[intOf];omega
   ·clear G C
    gi_wp2;refine bpr (results_none rfl _ _ _) rfl ?_;exact⟨⟨_,rfl⟩,.inr ⟨_,⟨k+1,om,(eQ _ _).symm⟩,A⟩⟩
  ·have O:k=ln l-1:=om
   gi_wp2
   go_end0
   exact⟨⟨_,rfl⟩,.inl ⟨_,rfl,by rw[←O];exact o⟩⟩
theorem WT (F:Fence)(n:Nat)(f:F.fn 286)(d:F.round=none)(a:Oa)(c b:Nat)(w:Wd):
 CallsIn F n prog 286 #[.slice a c b] w λe w'=>e=rt (.func (.func 288) #[] #[E w.heap.size 0])/\w'=w.alloc (.cells #[.slice a c b] 87):=by
 refine cow func286 rfl f ?_ d;simp only[ntmps286,lsz,llc,lln,Nat.reduceAdd,Nat.reduceSub,ars,arz,lpt,lap,lna,lca];gi_wp2;go_ret;exact⟨rfl,rfl⟩
theorem K1 (n:Nat) (c i b d:Nat) (l:List Cx) (a:l.all gG=true) (m:1<=ln l) (g:ln l<=1048576) (w:Wd)
 (f:w.cell? (Y c 0)=some (.slice (some (Y i b)) (ln l) d)) (s:∀j (h:j<ln l),bC w i (b+j*2) l[j].cells):
 SeqStopsK Fence.wide n prog 288 #[E c 0] (λx:PC=>#[x.1.1.val,x.1.2.val]) (Below w.heap.size) (λA=>A=cS (pD l a) (ln l-1)) (λo=>∃k,k<=ln l-1/\o=cS (pD l a) k) (ln l-1) w:=λz J t W q v _ y u=>by
 have r:i<w.heap.size:=aA (qN (s 0 om)).1;have e:c<w.heap.size:=aA f;exact SI n z c w.heap.size i b d l a m g r e J t W v y ((q.cell (p:=(Y c 0)) e).trans f) (λj h=>gS (s j h) q r) u
theorem OV {a:l.all gG=true} (h:∀x∈cS (pD l a) (ln l-1),jL x.1.1 x.1.2=true):iR l=true:=by
 refine(qF l).2 λi b=>?_;have:=h (pD l a i) (by simp only[cS,lmm,lmr];exact⟨i,om,rfl⟩);simp only[pD]at this;rwa[jW l i om,jW l (i+1) b]at this
theorem PP {a:l.all gG=true}(hk:k<=ln l-1){x:PC}(hx:x∈cS (pD l a) k)(h:jL x.1.1 x.1.2=false):iR l=false:=by
 simp only[cS,lmm,lmr]at hx;obtain⟨i,hi,rfl⟩:=hx;simp only[pD]at h;rw[jW l i om,jW l (i+1) om]at h;exact wS l i om h
def zM (w:World)(bl:Nat)(c:Cx):Prop:=w.cell? (Y bl 0)=some (I c.x)/\w.cell? (Y bl 1)=some (I c.y)
theorem zM.zL {w w':Wd}(h:zM w k c)(b:aG w w'):zM w' k c:=⟨ctq b h.1,ctq b h.2⟩
theorem FU (h:zM W k b)(f:W.grownBy d w)(a:∀r,w=some r->∃o:Obj,W.heap[r]?=some o/\o.isCells=false):zM d k b:=
 ⟨cell_kept h.1 f a,cell_kept h.2 f a⟩
theorem KE (W:Wd)(g:Nat)(a:g=W.heap.size)(b:Cx)(t:Nat):zM (W.alloc (.cells #[I b.x,I b.y] t)) g b:=by
 subst a;constructor<;>simp
end Go.Proofs.YtoolgmmljacfmaaGreatDoor
namespace Go.Proofs.YtoolgmmljacfmaaGreatDoor
variable {w:Wd}{v:Va}{l:List Bx}
theorem aN.weak {base base':Nat}(h:aN w base v l)(hb:base'<=base):aN w base' v l:=by
 rcases h with h|⟨g,a,b,h2,c,d⟩;·exact .inl h
 ·exact .inr ⟨g,a,b,om,c,d⟩
abbrev Bk.obj (b:Bk):Obj:=.cells #[I b.now,.slice b.fa b.fl.length b.fc,.slice b.ha b.hl.length b.hc] 32
abbrev ZH (lo hi:Int):Value:=.agg #[I lo,I hi]
theorem pO (b a n:Int)(w:Wd):
 aW 169 #[ZH b a,I n] w λe w'=>e=rt (.bool (fQ n b a))/\aG w w':=by
 go_enter func169,ntmps169
 go_wp2
 all_goals go_ret
 all_goals refine⟨aF ?_,aC (br _ _) _⟩
 all_goals (rw[beii];simp only[fQ,dte,bft,false_iff];omega)
theorem AP (b a:Int)(w:Wd):
 aW 230 #[ZH b a] w λe w'=>e=rt (.bool (decide (a<b)))/\aG w w':=by
 go_enter func230,ntmps230
 go_wp2
 all_goals go_ret
 all_goals refine⟨aF ?_,aC (br _ _) _⟩
 all_goals rfl
theorem yI (n:Int)(w:Wd):
 aW 132 #[I n] w λe w'=>e=rt (ZH 0 n)/\aG w w':=by
 go_enter func132,ntmps132;go_wp2;refine bpr (v:=ZH 0 n) ?_ rfl ⟨rfl,aC (br _ _) _⟩;simp[results,results132,go_sem]
theorem AI (a b c d:Int)(w:Wd):
 aW 252 #[ZH a b,ZH c d] w λe w'=>e=rt (.bool (fQ a c d&&fQ b c d))/\aG w w':=by
 obtain⟨k,j⟩:∃v,fQ a c d=v:=⟨_,rfl⟩;rw[j];have h:aG w ((w.alloc (.cells #[I a,I b] 175)).alloc (.cells #[I c,I d] 175)):=aC (aC (br _ _) _) _;go_enter func252,ntmps252;go_wp2_with fail;refine(pO _ _ _ _).mono ?_;rintro e w1 ⟨rfl,f⟩;rw[j];have k1:w1.cell? (ya w 1)=some (I b):=(f.cell (p:=(ya w 1)) so).trans sm;have k2:w1.cell? (Y (w.heap.size+1) 0)=some (I c):=(f.cell (p:=(Y (w.heap.size+1) 0)) sm).trans sm;have k3:w1.cell? (Y (w.heap.size+1) 1)=some (I d):=(f.cell (p:=(Y (w.heap.size+1) 1)) sm).trans sm;have g:=aE h f;cases k with
 |false=>
  go_wp2;go_ret;exact⟨rfl,g⟩
 |true=>
  go_wp2_with fail;refine(pO _ _ _ _).mono ?_;rintro e w2 ⟨rfl,i⟩;go_wp2;go_ret;exact⟨rfl,aE g i⟩
abbrev UA (q s f b:Int):Value:=.agg #[I q,I s,I f,I b]
abbrev Wx.obj (x:Wx):Obj:=.cells #[.string x.n,I x.q,I x.s,I x.f,I x.b,I x.l,.slice x.wa x.wl.length x.wc,.slice x.la x.ll.length x.lc] 40
def rL (q s f b:Int):Bool:=fQ q 1 50&&fQ s 1 50&&(fQ f 0 10000&&fQ b 0 10000)
def GQ (q s f b:Int):Bool:=!decide (s<q)&&!decide (b<f)
theorem y8 (q s f b:Int)(w:Wd):
 aW 206 #[UA q s f b] w λe w'=>e=rt (.bool (rL q s f b))/\aG w w':=by
 unfold rL;obtain⟨i,h⟩:∃v,(fQ q 1 50&&fQ s 1 50)=v:=⟨_,rfl⟩;rw[h];have d:aG w (w.alloc (.cells #[I q,I s,I f,I b] 238)):=aC (br _ _) _;go_enter func206,ntmps206;go_wp2_with fail;refine(AI _ _ _ _ _).mono ?_;rintro e w1 ⟨rfl,a⟩;rw[h];have k1:w1.cell? (ya w 2)=some (I f):=(a.cell (p:=(ya w 2)) sm).trans sm;have k2:w1.cell? (ya w 3)=some (I b):=(a.cell (p:=(ya w 3)) sm).trans sm;have c:=aE d a;cases i with
 |false=>
  go_wp2;go_ret;exact⟨rfl,c⟩
 |true=>
  go_wp2_with fail;refine(AI _ _ _ _ _).mono ?_;rintro e w2 ⟨rfl,g⟩;go_wp2;go_ret;exact⟨rfl,aE c g⟩
theorem LK (q s f b:Int)(w:Wd):
 aW 207 #[UA q s f b] w λe w'=>e=rt (.bool (GQ q s f b))/\aG w w':=by
 unfold GQ;obtain⟨i,h⟩:∃v,decide (s<q)=v:=⟨_,rfl⟩;rw[h];have d:aG w (w.alloc (.cells #[I q,I s,I f,I b] 238)):=aC (br _ _) _;go_enter func207,ntmps207;go_wp2_with fail;refine(AP _ _ _).mono ?_;rintro e w1 ⟨rfl,a⟩;rw[h];have k1:w1.cell? (ya w 2)=some (I f):=(a.cell (p:=(ya w 2)) sm).trans sm;have k2:w1.cell? (ya w 3)=some (I b):=(a.cell (p:=(ya w 3)) sm).trans sm;have c:=aE d a;cases i with
 |true=>
  go_wp2;go_ret;exact⟨rfl,c⟩
 |false=>
  go_wp2_with fail;refine(AP _ _ _).mono ?_;rintro e w2 ⟨rfl,g⟩;go_wp2;go_ret;exact⟨rfl,aE c g⟩
theorem uI (x:Wx)(w:Wd):
 aW 205 #[x.val] w λe w'=>e=rt (UA x.q x.s x.f x.b)/\aG w w':=by
 go_enter func205,ntmps205;go_wp2;refine bpr (v:=UA x.q x.s x.f x.b) ?_ rfl ⟨rfl,aC (aC (br _ _) _) _⟩;simp[results,results205,go_sem]
theorem PO (x:Wx):oV x=(rL x.q x.s x.f x.b&&GQ x.q x.s x.f x.b):=by
 rw[beii];simp only[oV,rL,GQ,fQ,bat,Bool.not_eq_true',dte,dfi];omega
theorem VV (x:Wx)(w:Wd):
 aW 204 #[x.val] w λe w'=>e=rt (.bool (oV x))/\aG w w':=by
 rw[PO];obtain⟨C,n⟩:∃v,rL x.q x.s x.f x.b=v:=⟨_,rfl⟩;rw[n];have g:aG w (w.alloc x.obj):=aC (br _ _) _;have o:(w.alloc x.obj).heap[w.heap.size]?=some x.obj:=wnq w x.obj;go_enter func204,ntmps204;go_wp2_with fail;refine(uI x _).mono ?_;rintro e w1 ⟨rfl,c⟩;have j:=btq c o;have h:=aE g c;go_wp2_with fail;refine(y8 _ _ _ _ _).mono ?_;rintro e w2 ⟨rfl,d⟩;rw[n];have k:=btq d j;have a:=aE h d;cases C with
 |false=>
  go_wp2;go_ret;exact⟨rfl,a⟩
 |true=>
  obtain⟨p,r,t,u,y,z,A,B⟩:=gT k;go_wp2_with fail;refine(uI x _).mono ?_;rintro e w3 ⟨rfl,l⟩;have i:=aE a l;clear p r t u y z A B;go_wp2_with fail;refine(LK _ _ _ _ _).mono ?_;rintro e w4 ⟨rfl,m⟩;go_wp2;go_ret;exact⟨rfl,aE i m⟩
theorem SF (x:Wx)(w:Wd):
 aW 208 #[x.val] w λe w'=>e=rt (.bool (tR x.l))/\aG w w':=by
 have a:aG w (w.alloc x.obj):=aC (br _ _) _;have c:(w.alloc x.obj).heap[w.heap.size]?=some x.obj:=wnq w x.obj;have d:(w.alloc x.obj).cell? (ya w 5)=some (I x.l):=aB c rfl;have hne:Nonempty (cV (w.alloc x.obj)):=⟨⟨_,br _ _⟩⟩;have f5:=cV.cell d
 go_enter func208,ntmps208
 go_wp2_with fail
 refine aY kr kr ?_
 repeat (go_big_quiet_step (first|(go_at_call 132;exact cV.call _ (yI _ _))|(go_at_call 169;exact cV.call _ (pO _ _ _ _))))
 refine wpQuiet_nil ?_;rintro _ ⟨s,rfl⟩;have b:=s.h;go_wp2
 go_ret;exact⟨aF rfl,aE a b⟩
open Go.BigFrame
variable {l:List Fx}{c:Cx}{k j:Nat}{f:Fx}{w:List Cx}
abbrev Cx.obj (c:Cx):Obj:=.cells #[I c.x,I c.y] 107
def SB (l:List Fx)(c:Cx)(k:Nat):Prop:=(l.take k).any (λf=>rO f c.x c.y)=false
theorem on_no (h:k<ln l)(b:f=l[k])(a:SB l c k)(hx:¬(f.x=c.x/\f.y=c.y)):SB l c (k+1):=by
 unfold SB at*;rw[iH _ l k h,←b,a,show rO f c.x c.y=false from def0 hx];rfl
theorem yZ (l:List Fx)(u:Oa)(q:Nat)(c:Cx)(w:Wd)(B:Xs 3 Fx.cells w u l)(hn:ln l<=1048576):
 aW 137 #[.slice u (ln l) q,c.val] w λe w'=>e=rt (.bool (zS l c.x c.y))/\aG w w':=by
 obtain⟨V,r⟩:=bQ (zS l c.x c.y);rw[←r];have t:=aI r;clear r
 go_enter func137,ntmps137
 go_wp2
 go_loopw [5] (λi wr=>∃k:Nat,k<=ln l/\i=I k/\aG w wr/\wr.heap[w.heap.size]?=some c.obj/\Hid (SB l c k)) (λi _=>ln l-(intOf i).toNat)
 case atStart=>exact⟨0,nz _,rfl,aC (br _ _) _,wnq w _,by simp[Hid,SB]⟩
 case round=>
  obtain⟨k,hk,rfl,o,d,b⟩:=hrel;have a0:wr.cell? (ya w 0)=some (I c.x):=aB d rfl;have a1:wr.cell? (ya w 1)=some (I c.y):=aB d rfl;have s:=aI d;clear d
  by_cases a:k<ln l
  ·rcases B with h|⟨bl,off,rfl,z⟩
   ·subst h;simp at a
   ·have j:=(z k a).zL o
    obtain⟨f,g⟩:=bQ (l[k]);rw[←g]at j;have p:=aI g;clear g z;obtain⟨c0,c1,c2⟩:=kH j;clear j
    by_cases hx:f.x=c.x
    ·by_cases m:f.y=c.y
     ·have v:(f.x==c.x)=true:=by simp[hx]
      have A:(f.y==c.y)=true:=by simp[m]
      have n:Hid (f.x=c.x/\f.y=c.y):=⟨hx,m⟩;clear hx m;go_wp2_with fail
      go_quiet (fail)
      go_wp2
      go_ret;exact⟨aF (by rw[t.oQ];exact(gU _ l k a (by rw[←p.oQ];exact det n.oQ)).symm),(below_drewN o _)⟩
     ·have v:(f.x==c.x)=true:=by simp[hx]
      have A:(f.y==c.y)=false:=by simp[m]
      have n:Hid (¬(f.x=c.x/\f.y=c.y)):=λh=>m h.2;clear hx m;go_wp2_with fail
      go_quiet (fail)
      go_wp2
      go_roundw
      case rel=>exact⟨k+1,om,gn,(below_drewN o _),s.oQ,on_no a p.oQ b.out n.oQ⟩
      case measure=>simp[intOf];omega
    ·have v:(f.x==c.x)=false:=by simp[hx]
     have n:Hid (¬(f.x=c.x/\f.y=c.y)):=λh=>hx h.1;clear hx;go_wp2_with fail
     go_quiet (fail)
     go_wp2
     go_roundw
     case rel=>exact⟨k+1,om,gn,(below_drewN o _),s.oQ,on_no a p.oQ b.out n.oQ⟩
     case measure=>simp[intOf];omega
  ·go_wp2
   go_ret;refine⟨aF ?_,o⟩;unfold SB at b;rw[ltl om]at b;rw[t.oQ];exact b.out.symm
def KA (l:List Cx)(k:Nat):Prop:=(l.take k).all gG=true/\iR (l.take k)=true
theorem y7 (hk:k<ln w)(h:iR (w.take k)=true)(b:∀_:0<k,jL (w[k-1]'om) w[k]=true):iR (w.take (k+1))=true:=by
 rw[qF]at h ⊢;intro i a;simp only[llt]at a;by_cases e:i+1=k
 ·subst e;have:=b om;simpa using this
 ·have:=h i (by simp only[llt];omega);simpa using this
theorem JC (h:(w.take k).all gG=true)(hj:j<k)(hl:j<ln w):gG w[j]=true:=by
 have:=lat.1 h w[j] (by rw[List.mem_iff_getElem];exact⟨j,so,sm⟩);exact this
theorem YO (c:Cx):gG c=(fQ c.x 0 15&&fQ c.y 0 15):=by
 rw[beii];simp only[gG,gW,fQ,bat,dte];omega
theorem V4 (p c:Cx):jL p c=(fQ (c.x-p.x) (-1) 1&&fQ (c.y-p.y) (-1) 1&&!(c.x==p.x&&c.y==p.y)):=by
 rw[beii];simp only[jL,fQ,bat,dte,Bool.not_eq_true',Bool.and_eq_false_iff,bfn,ne_eq];omega
theorem vJ (h:gG c=true):0<=c.x/\c.x<16/\0<=c.y/\c.y<16:=by
 simpa only[gG,gW,dte]using h
theorem VB (g:List Fx)(y:Yx)(af:Oa)(cf:Nat)(w:Wd)(W:Xs 3 Fx.cells w af g)(hy:y.In w)(zb:ln g<=1048576)(hn:ln y.l<=1048576):
 aW 103 #[.slice af (ln g) cf,y.val] w λe w'=>e=rt (.bool (j9 g y.l))/\aG w w':=by
 obtain⟨ao,l,m⟩:=y;simp only at hn ⊢;have hl:Xs 2 Cx.cells w ao l:=hy;clear hy;obtain⟨V,hV⟩:=bQ (j9 g l);rw[←hV];have O:=aI hV;clear hV;obtain⟨v0,h0⟩:∃v,fQ (ln l:Int) 2 40=v:=⟨_,rfl⟩
 have H2:Hid (CS (ln l)=v0):=by
  rw[Hid,←h0,beii];simp only[CS,fQ,dte];omega
 have T:aG w (w.alloc (.cells #[.slice ao (ln l) m] 89)):=aC (br _ _) _
 cases v0 with
 |false=>
  go_enter func103,ntmps103
  go_wp2_with fail
  refine(bO _ _ _ _ h0 _).mono ?_;rintro e w1 ⟨rfl,rfl⟩;go_wp2
  go_ret;exact⟨aF (by rw[O.oQ,j9,H2.oQ];rfl),T⟩
 |true=>
 have zi:2<=ln l:=by have:=H2.oQ;simp only[CS,dte]at this;omega
 have zf:=aI h0;clear h0
 rcases hl with h|⟨bl,B,rfl,U⟩
 · subst h;simp at zi
 go_enter func103,ntmps103
 go_wp2_with fail
 refine(bO _ _ _ _ zf.oQ _).mono ?_;rintro e w1 ⟨rfl,rfl⟩;go_wp2
 go_loopw [6] (λi wr=>∃k:Nat,k<=ln l/\i=I k/\aG w wr/\wr.heap[w.heap.size]?=some (.cells #[sl bl B (ln l) m] 89)/\Hid (KA l k)) (λi _=>ln l-(intOf i).toNat)
 case atStart=>exact⟨0,nz _,rfl,T,wnq w _,by simp[Hid,KA,iR]⟩
 case round=>
  obtain⟨k,hk,rfl,G,A,o⟩:=hrel;have a0:wr.cell? (ya w 0)=some (sl bl B (ln l) m):=aB A rfl
  by_cases n:k<ln l
  · have K:=(U k n).zL G
    have J:=(U (k-1) om).zL G;have Hp:Hid (0<k->gG (l[k-1]'om)=true):=λh=>JC o.out.1 om om;obtain⟨c,H⟩:=bQ (l[k]);obtain⟨p,M⟩:=bQ (l[k-1]'om);rw[←H]at K;rw[←M]at J Hp;have HB:=aI H;have HP:=aI M;clear H M;obtain⟨c0,c1⟩:=qN K;obtain⟨p0,p1⟩:=qN J;clear K J;have t:aG wr (wr.alloc c.obj):=aC (br _ _) _;have b:aG w (wr.alloc c.obj):=aE G t;have q:(wr.alloc c.obj).heap[w.heap.size]?=some (.cells #[sl bl B (ln l) m] 89):=btq t A;have L:(wr.alloc c.obj).heap[wr.heap.size]?=some c.obj:=wnq wr _;have R:Hid _:=q;obtain⟨v1,D⟩:∃v,fQ c.x 0 15=v:=⟨_,rfl⟩;obtain⟨v2,F⟩:∃v,fQ c.y 0 15=v:=⟨_,rfl⟩;have HC:Hid (gG c=(v1&&v2)):=by rw[Hid,YO,D,F]
    have C:Hid (gG c=false->j9 g l=false):=λh=>by
     have:l.all gG=false:=jP _ l k n (by rw[←HB.oQ];exact h);rw[j9,this];simp
    cases v1 with
    |false=>
     go_wp2_with (go_at_call 57;refine(bO _ _ _ _ D _).mono ?_;rintro e w1 ⟨rfl,rfl⟩)
     go_ret;exact⟨aF (by rw[O.oQ];exact(C.oQ HC.oQ).symm),b⟩
    |true=>
    cases v2 with
    |false=>
     go_wp2_with fail
     refine(bO c.x 0 15 true D _).mono ?_;rintro e w1 ⟨rfl,rfl⟩;go_wp2_with fail
     refine(bO c.y 0 15 false F _).mono ?_;rintro e w1 ⟨rfl,rfl⟩;go_wp2_with fail
     go_ret;exact⟨aF (by rw[O.oQ];exact(C.oQ HC.oQ).symm),b⟩
    |true=>
    have zh:=vJ HC.oQ;have S:(wr.alloc c.obj).cell? (ya w 0)=some (sl bl B (ln l) m):=aB q rfl;have e0:(wr.alloc c.obj).cell? (ya wr 0)=some (I c.x):=aB L rfl;have e1:(wr.alloc c.obj).cell? (ya wr 1)=some (I c.y):=aB L rfl;have za:Nonempty (cV (wr.alloc c.obj)):=⟨⟨_,br _ _⟩⟩;have fa:=cV.cell S;have f0:=cV.cell e0;have f1:=cV.cell e1;have g0:=cV.cell (ctq t p0);have P:=cV.cell (ctq t p1);clear S e0 e1 p0 p1 A q L;have d:Hid ((l.take (k+1)).all gG=true):=by rw[Hid,nJ _ l k n,o.out.1,←HB.oQ,HC.oQ];rfl
    have hi1:(k:Int)<(ln l:Int):=om
    have hi0:(0:Int)<=(k:Int):=om
    by_cases X:0<k
    · have zj:=vJ (Hp.oQ X)
      obtain⟨q1,q2,q3,q4⟩:=zh;obtain⟨q5,q6,q7,q8⟩:=zj;have hkn:((k:Int)-1)=((k-1:Nat):Int):=om
      obtain⟨u1,t1⟩:∃v,fQ (c.x-p.x) (-1) 1=v:=⟨_,rfl⟩;obtain⟨u2,t2⟩:∃v,fQ (c.y-p.y) (-1) 1=v:=⟨_,rfl⟩;obtain⟨u3,t3⟩:∃v,(c.x==p.x)=v:=⟨_,rfl⟩;obtain⟨u4,t4⟩:∃v,(c.y==p.y)=v:=⟨_,rfl⟩;have HS:Hid (jL p c=(u1&&u2&&!(u3&&u4))):=by rw[Hid,V4,t1,t2,t3,t4]
      have r:Hid (jL p c=false->j9 g l=false):=λh=>by
       have:iR l=false:=wS l (k-1) om (by
        have e:l[k-1+1]'om=l[k]:=by congr 1;omega
        rw[e,←HB.oQ,←HP.oQ];exact h)
       rw[j9,this];simp
      have Q:Hid (jL p c=true->KA l (k+1)):=λh=>⟨d.oQ,y7 n o.out.2 (λ_=>by rw[←HB.oQ,←HP.oQ];exact h)⟩
      have hu:u1=false∨(u1=true/\u2=false)∨(u1=true/\u2=true/\u3=false)∨(u1=true/\u2=true/\u3=true/\u4=false)∨(u1=true/\u2=true/\u3=true/\u4=true):=by
       cases u1<;>cases u2<;>cases u3<;>cases u4<;>simp
      rcases hu with rfl|⟨rfl,rfl⟩|⟨rfl,rfl,rfl⟩|⟨rfl,rfl,rfl,rfl⟩|⟨rfl,rfl,rfl,rfl⟩
      all_goals
       go_wp2_with fail
       refine(bO c.x 0 15 true D _).mono ?_;rintro e w1 ⟨rfl,rfl⟩;go_wp2_with fail
       refine(bO c.y 0 15 _ F _).mono ?_;rintro e w1 ⟨rfl,rfl⟩;go_wp2_with fail
       refine aY kr kr ?_
       repeat (go_big_quiet_step (fail))
       go_big_quiet_step ((go_at_call 57;exact cV.same _ (bO (c.x-p.x) (-1) 1 _ t1 _)))
       repeat (go_big_quiet_step (fail))
       try go_big_quiet_step ((go_at_call 57;exact cV.same _ (bO (c.y-p.y) (-1) 1 _ t2 _)))
       repeat (go_big_quiet_step (fail))
       refine wpQuiet_nil ?_;rintro _ ⟨s,rfl⟩;have a:=s.h;have j:=aI (btq a R.oQ);have f:=aI (aE b a);generalize s.w=w9 at a j f;clear s a fa f0 f1 g0 P za;go_wp2
       first
       |(go_ret;exact⟨aF (by rw[O.oQ];exact(r.oQ (by rw[HS.oQ];rfl)).symm),f.oQ⟩)
       |(go_roundw;(case rel=>exact⟨k+1,om,gn,f.oQ,j.oQ,Q.oQ (by rw[HS.oQ];rfl)⟩);(case measure=>simp[intOf];omega))
    · have ze:Hid (KA l (k+1)):=⟨d.oQ,y7 n o.out.2 (λh=>absurd h X)⟩
      go_wp2_with fail
      refine(bO c.x 0 15 true D _).mono ?_;rintro e w1 ⟨rfl,rfl⟩;go_wp2_with fail
      refine(bO c.y 0 15 _ F _).mono ?_;rintro e w1 ⟨rfl,rfl⟩;go_wp2_with fail
      refine aY kr kr ?_
      repeat (go_big_quiet_step (fail))
      refine wpQuiet_nil ?_;rintro _ ⟨s,rfl⟩;have a:=s.h;have j:=aI (btq a R.oQ);have f:=aI (aE b a);generalize s.w=w9 at a j f;clear s a fa f0 f1 g0 P za;go_wp2
      go_roundw
      case rel=>exact⟨k+1,om,gn,f.oQ,j.oQ,ze.oQ⟩
      case measure=>simp[intOf];omega
  · have Z:k=ln l:=om
    have HW:Hid (KA l (ln l)):=by rw[←Z];exact o
    clear Z;have u:=(U 0 om).zL G;have z:=(U (ln l-1) om).zL G;have E0:l[0]'om=lW l 0:=(jW l 0 om).symm;have E1:l[ln l-1]'om=lW l (ln l-1):=(jW l (ln l-1) om).symm;rw[E0,Nat.zero_mul,naz]at u;rw[E1]at z;obtain⟨x0,AR⟩:∃x,lW l 0=x:=⟨_,rfl⟩;obtain⟨xn,N⟩:∃x,lW l (ln l-1)=x:=⟨_,rfl⟩;rw[AR]at u;rw[N]at z;obtain⟨c0,c1⟩:=qN u;obtain⟨d0,d1⟩:=qN z;obtain⟨v1,P⟩:∃v,zS g x0.x x0.y=v:=⟨_,rfl⟩;obtain⟨v2,g2⟩:∃v,zS g xn.x xn.y=v:=⟨_,rfl⟩
    have HE:Hid (j9 g l=(v1&&v2)):=by
     have D:=HW.oQ.1;have F:=HW.oQ.2;rw[ltl (nlq _)]at D F;rw[Hid,j9,H2.oQ,D,F,yO,AR,N,P,g2];rfl
    have zc:Hid _:=P;have zd:Hid _:=g2;clear u z E0 E1 AR N U P g2 A;go_wp2_with fail
    refine(yZ g _ _ x0 _ (W.zL G) zb).mono ?_;rintro e w1 ⟨rfl,a⟩;rw[zc.oQ];have a1:=ctq a a0;have d01:=ctq a d0;have d11:=ctq a d1;have b:=aE G a;clear a0 c0 c1 d0 d1 a
    cases v1 with
    |false=>
     go_wp2
     go_ret;exact⟨aF (by rw[O.oQ,HE.oQ];rfl),b⟩
    |true=>
     go_wp2_with fail
     refine(yZ g _ _ xn _ (W.zL b) zb).mono ?_;rintro e w2 ⟨rfl,zg⟩;rw[zd.oQ];go_wp2
     go_ret;exact⟨aF (by rw[O.oQ,HE.oQ];rfl),aE b zg⟩
end Go.Proofs.YtoolgmmljacfmaaGreatDoor
namespace Go.Proofs.YtoolgmmljacfmaaGreatDoor
theorem PN (l:List Fx)(b:Oa)(a:Nat)(v:Bool)(h:bU l=v)(w:Wd)(c:Xs 3 Fx.cells w b l)(d:ln l<=1048576)(g:∀f∈l,f.n.size<=9223372036854775807):
 aW 58 #[.slice b (ln l) a] w λe w'=>e=rt (.bool v)/\aG w w':=by
 subst h;exact rN l b a w c d g
def FR (fl:List Fx)(x:Wx):Bool:=bU fl&&(cO x.n&&(oV x&&(tR x.l&&(pK x.wl.length&&GJ x.ll.length))))
theorem SC (a:List Fx)(x:Wx):eR a x=(FR a x&&((x.wl.all λy=>j9 a y.l)&&x.ll.all zD)):=by
 unfold eR FR n6 jD;cases bU a<;>cases cO x.n<;>cases oV x<;>cases tR x.l<;>cases pK (ln x.wl)<;>cases GJ (ln x.ll)<;>simp
theorem wN (o:List Fx)(x:Wx)(U:Oa)(cf:Nat)(w:Wd)(N:Xs 3 Fx.cells w U o)(R:ln o<=1048576)(ze:∀f∈o,f.n.size<=9223372036854775807)(hi:x.In w)(X:x.Fit):
 aW 61 #[.slice U (ln o) cf,x.val] w λe w'=>e=rt (.bool (eR o x))/\aG w w':=by
 obtain⟨V,hV⟩:=bQ (eR o x);rw[←hV];have HV:Hid (V=(FR o x&&((x.wl.all λy=>j9 o y.l)&&x.ll.all zD))):=by rw[Hid,hV,SC]
 clear hV;have A:aG w (w.alloc x.obj):=aC (br _ _) _;have hO:(w.alloc x.obj).heap[w.heap.size]?=some x.obj:=wnq w x.obj;obtain⟨v1,h1⟩:∃v,bU o=v:=⟨_,rfl⟩;obtain⟨v2,h2⟩:∃v,cO x.n=v:=⟨_,rfl⟩;obtain⟨Z,h3⟩:∃v,fQ x.q 1 x.s=v:=⟨_,rfl⟩;obtain⟨v5,h5⟩:∃v,fQ x.f 0 x.b=v:=⟨_,rfl⟩;obtain⟨v7,h7⟩:∃v,fQ x.l 0 300=v:=⟨_,rfl⟩;obtain⟨v8,h8⟩:∃v,fQ (ln x.wl:Int) 1 3=v:=⟨_,rfl⟩;obtain⟨v9,h9⟩:∃v,fQ (ln x.ll:Int) 1 6=v:=⟨_,rfl⟩;obtain⟨v4,J⟩:∃v,decide (50<x.s)=v:=⟨_,rfl⟩;obtain⟨v6,K⟩:∃v,decide (10000<x.b)=v:=⟨_,rfl⟩
 have z:Hid (FR o x=(v1&&(v2&&((Z&&!v4&&(v5&&!v6))&&(v7&&(v8&&v9)))))):=by
  have e8:pK (ln x.wl)=v8:=by rw[←h8,pK,beii];simp only[fQ,dte];omega
  have e9:GJ (ln x.ll)=v9:=by rw[←h9,GJ,beii];simp only[fQ,dte];omega
  have e7:tR x.l=v7:=by rw[←h7];rfl
  have ek:oV x=(Z&&!v4&&(v5&&!v6)):=by
   rw[←h3,←J,←h5,←K,beii];simp only[oV,fQ,bat,Bool.not_eq_true',dte,dfi];omega
  rw[Hid,FR,h1,h2,e7,e8,e9,ek]
 have hwn:=X.wn;have hln:=X.ln;have g:Hid (FR o x=false->V=false):=λh=>by rw[HV.oQ,h];rfl
 have H1:Hid _:=h1;have H2:Hid _:=h2;have H3:Hid _:=h3;have H5:Hid _:=h5;have H7:Hid _:=h7;have H8:Hid _:=h8;have H9:Hid _:=h9;have H4:Hid _:=J;have H6:Hid _:=K;clear h1 h2 h3 J h5 K h7 h8 h9
 go_enter Tryz.func61,Tryz.ntmps61
 go_wp2_with fail
 refine(PN o U cf v1 H1.oQ _ (N.zL A) R ze).mono ?_;rintro e w1 ⟨rfl,B⟩;have c:=btq B hO;have d:=aE A B;have m:Hid _:=c;obtain⟨k0,k1,k2,k3,k4,k5,T,F⟩:=gT c;clear hO c B A
 cases v1 with
 |false=>
  go_wp2
  go_ret;exact⟨aF (g.oQ (by rw[z.oQ];simp)).symm,d⟩
 |true=>
 go_wp2_with fail
 refine(fE x.n v2 H2.oQ _ X.sn).mono ?_;rintro e w1 ⟨rfl,rfl⟩
 cases v2 with
 |false=>
  go_wp2
  go_ret;exact⟨aF (g.oQ (by rw[z.oQ];simp)).symm,d⟩
 |true=>
 go_wp2_with fail
 refine(bO x.q 1 x.s Z H3.oQ _).mono ?_;rintro e w1 ⟨rfl,rfl⟩
 cases Z with
 |false=>
  go_wp2
  go_ret;exact⟨aF (g.oQ (by rw[z.oQ];simp)).symm,d⟩
 |true=>
 have J:=H4.oQ
 cases v4 with
 |true=>
  go_wp2
  go_ret;exact⟨aF (g.oQ (by rw[z.oQ];simp)).symm,d⟩
 |false=>
 go_wp2_with fail
 refine(bO x.f 0 x.b v5 H5.oQ _).mono ?_;rintro e w1 ⟨rfl,rfl⟩
 cases v5 with
 |false=>
  go_wp2
  go_ret;exact⟨aF (g.oQ (by rw[z.oQ];simp)).symm,d⟩
 |true=>
 have K:=H6.oQ
 cases v6 with
 |true=>
  go_wp2
  go_ret;exact⟨aF (g.oQ (by rw[z.oQ];simp)).symm,d⟩
 |false=>
 go_wp2_with fail
 refine(bO x.l 0 300 v7 H7.oQ _).mono ?_;rintro e w1 ⟨rfl,rfl⟩
 cases v7 with
 |false=>
  go_wp2
  go_ret;exact⟨aF (g.oQ (by rw[z.oQ];simp)).symm,d⟩
 |true=>
 go_wp2_with fail
 refine(bO (ln x.wl) 1 3 v8 H8.oQ _).mono ?_;rintro e w1 ⟨rfl,rfl⟩
 cases v8 with
 |false=>
  go_wp2
  go_ret;exact⟨aF (g.oQ (by rw[z.oQ];simp)).symm,d⟩
 |true=>
 go_wp2_with fail
 refine(bO (ln x.ll) 1 6 v9 H9.oQ _).mono ?_;rintro e w1 ⟨rfl,rfl⟩
 cases v9 with
 |false=>
  go_wp2
  go_ret;exact⟨aF (g.oQ (by rw[z.oQ];simp)).symm,d⟩
 |true=>
 have HT:Hid (V=((x.wl.all λy=>j9 o y.l)&&x.ll.all zD)):=by rw[Hid,HV.oQ,z.oQ];rfl
 clear HV g z H1 H2 H3 H4 H5 H6 H7 H8 H9 J K k0 k1 k2 k3 k4 k5;go_wp2
 go_loopw [5] (λi wr=>∃k:Nat,k<=ln x.wl/\i=I k/\aG w wr/\wr.heap[w.heap.size]?=some x.obj/\Hid ((x.wl.take k).all (λy=>j9 o y.l)=true)) (λi _=>ln x.wl-(intOf i).toNat)
 case atStart=>exact⟨0,nz _,rfl,d,m.oQ,by simp[Hid]⟩
 case round=>
  clear T F m d;obtain⟨k,hk,rfl,d,c,u⟩:=hrel;have m:Hid _:=c;have T:wr.cell? (ya w 6)=some (.slice x.wa (ln x.wl) x.wc):=aB c rfl;have F:wr.cell? (ya w 7)=some (.slice x.la (ln x.ll) x.lc):=aB c rfl;clear c
  by_cases a:k<ln x.wl
  ·rcases hi.ws with h|⟨bl,zd,S,M⟩
   ·rw[h]at a;simp at a
   ·have r:=(M k a).zL d
    have P:=(hi.yn x.wl[k] (lgm a)).zL d;have O:=X.yn x.wl[k] (lgm a);obtain⟨b,p⟩:=bQ (x.wl[k]);rw[←p]at r P O;have G:=aI p;clear p M;have W:=RI r;rw[Nat.mul_one]at W;clear r;rw[S]at T;have zc:(k:Int)<(ln x.wl:Int):=om
    have zb:(0:Int)<=(k:Int):=om
    obtain⟨v,D⟩:=bQ (j9 o b.l);have t:Hid (v=j9 o b.l):=D;clear D S;go_wp2_with fail
    refine(VB o b U cf _ (N.zL d) P R O).mono ?_;rintro e w2 ⟨rfl,C⟩;rw[←t.oQ];have za:=aI (btq C m.oQ);have L:=aE d C;clear W C T F
    cases v with
    |false=>
     go_wp2
     go_ret;exact⟨aF (by rw[HT.oQ,jP _ x.wl k a (by rw[←G.oQ];exact t.oQ.symm)];rfl),L⟩
    |true=>
     go_wp2
     go_roundw
     case rel=>exact⟨k+1,om,gn,L,za.oQ,by rw[Hid,nJ _ x.wl k a,u.out,←G.oQ,←t.oQ];rfl⟩
     case measure=>simp[intOf];omega
  ·have H:Hid (V=x.ll.all zD):=by
    have h:=u.out;rw[ltl om]at h;rw[Hid,HT.oQ,h];rfl
   clear HT u;go_wp2
   go_loopw [6] (λi wr=>∃k:Nat,k<=ln x.ll/\i=I k/\aG w wr/\wr.heap[w.heap.size]?=some x.obj/\Hid ((x.ll.take k).all zD=true)) (λi _=>ln x.ll-(intOf i).toNat)
   case atStart=>exact⟨0,nz _,rfl,d,m.oQ,by simp[Hid]⟩
   case round=>
    clear T F m d;obtain⟨j,hj,rfl,d,c,u⟩:=hrel;have m:Hid _:=c;have F:=aB (j:=7) c rfl;clear c
    by_cases a:j<ln x.ll
    ·rcases hi.ls with h|⟨bl,zd,Q,M⟩
     ·rw[h]at a;simp at a
     ·have r:=(M j a).zL d
      obtain⟨b,p⟩:=bQ (x.ll[j]);rw[←p]at r;have G:=aI p;clear p M;have W:=RM r;rw[Nat.mul_one]at W;clear r;rw[Q]at F;clear Q;have zc:(j:Int)<(ln x.ll:Int):=om
      have zb:(0:Int)<=(j:Int):=om
      obtain⟨v,D⟩:=cI (fQ b 1 6);have t:Hid (zD b=v):=D;have Hv:Hid _:=D;clear D;go_wp2_with fail
      refine(bO b 1 6 v Hv.oQ _).mono ?_;rintro e w2 ⟨rfl,rfl⟩
      cases v with
      |false=>
       go_wp2
       go_ret;exact⟨aF (by rw[H.oQ,jP _ x.ll j a (by rw[←G.oQ];exact t.oQ)]),d⟩
      |true=>
       go_wp2
       go_roundw
       case rel=>exact⟨j+1,om,gn,d,m.oQ,by rw[Hid,nJ _ x.ll j a,u.out,←G.oQ,t.oQ];rfl⟩
       case measure=>simp[intOf];omega
    ·go_wp2
     go_ret;refine⟨aF ?_,d⟩;have h:=u.out;rw[ltl om]at h;rw[H.oQ,h]
