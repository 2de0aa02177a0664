import Derived.Shelf.RegionOpen
import Derived.Test.YtcdbcliaepcpfaaGreatDoorBook2
import Derived.Test.YtcdbcliaepcpfaaGreatDoorKeep
namespace Go.Proofs.YtcdbcliaepcpfaaGreatDoor
set_option maxRecDepth 100000
set_option maxHeartbeats 4000000
open Go.RowKit Go.Shelf
attribute [local go_sem] Oper.semAt_some
theorem LQ (h:Hx)(w:World):
 aY 175 #[h.val] w λe w'=>e=.returned (.slice h.ta h.tl.length h.tc)/\aF w w':=by
 go_enter Tryz.func175,Tryz.ntmps175;go_wp2;go_ret;exact⟨rfl,(br _ _).alloc (nlq _) _⟩
theorem LI (h:Hx)(w:World):
 aY 176 #[h.val] w λe w'=>e=.returned (.slice h.na h.nl.length h.nc)/\aF w w':=by
 go_enter Tryz.func176,Tryz.ntmps176;go_wp2;go_ret;exact⟨rfl,(br _ _).alloc (nlq _) _⟩
def Hx.pa (h:Hx)(s:Bool):Option Addr:=if s then h.na else h.ta
def Hx.pl (h:Hx)(s:Bool):List Bx:=if s then h.nl else h.tl
def Hx.pc (h:Hx)(s:Bool):Nat:=if s then h.nc else h.tc
abbrev Hx.part (h:Hx)(s:Bool):Value:=.slice (h.pa s) (h.pl s).length (h.pc s)
abbrev HP (w:World):={ x:Hx×Bool//x.1.In w/\x.1.Fit}
def N7:Hx:=⟨ByteArray.empty,none,[],0,none,[],0⟩
theorem LJ {w:World}{l:List Hx}(h:∀x∈l,x.In w/\x.Fit)(j:Nat):(fQ l j).In w/\(fQ l j).Fit:=by
 by_cases a:j<l.length;·rw[cQ l j a];exact h _ (lgm a)
 ·have e:fQ l j=N7:=by simp[fQ,N7,Nat.le_of_not_lt a]
  rw[e];exact⟨⟨Or.inl rfl,Or.inl rfl⟩,⟨nz _,nz _,nz _⟩⟩
def dU {w:World}(l:List Hx)(h:∀x∈l,x.In w/\x.Fit)(m:Nat):HP w:=⟨(fQ l (m/2),decide (m%2=1)),LJ h (m/2)⟩
theorem EM {w w':World}{a o B:Nat}{c:List Value}(h:aZ w a o c)(b:Below B w w')(e:a<B):aZ w' a o c:=λj v d=>(b.cell (p:=⟨a,o+j,none⟩) e).trans (h j v d)
theorem gG {W a:World}(h:aF W a):W.grownBy a none:=⟨h.os,h.tape,h.output,h.size,λk b _=>h.block k b⟩
structure oZ (B:Nat)(A A':World):Prop where
 b:Below B A A'
 c:∀(k:Nat) (o:Obj),A.heap[k]?=some o->o.isCells=true->A'.heap[k]?=some o
theorem oZ.trans {B:Nat}{X Y Z:World}(h:oZ B X Y)(g:oZ B Y Z):oZ B X Z:=⟨h.b.trans g.b,λk o d a=>g.c k o (h.c k o d a) a⟩
theorem oZ.of_below {B:Nat}{X Y:World}(h:aF X Y)(b:B<=X.heap.size):oZ B X Y:=⟨h.mono b,λk _ a _=>(h.block k (bU a)).trans a⟩
abbrev Hx.obj (h:Hx):Obj:=.cells #[.string h.n,.slice h.ta h.tl.length h.tc,.slice h.na h.nl.length h.nc] 90
theorem aW {w:World}{z j:Nat}{a:Array Value}{t:TypeId}{v:Value}(h:w.heap[z]?=some (.cells a t))(b:a[j]?=some v):w.cell? ⟨z,j,none⟩=some v:=by simp[World.cell?,h,b]
theorem tN {w:World}{l:List Hx}(h:∀x∈l,x.In w/\x.Fit)(k:Nat):(dU l h (k*2+0)).1=(fQ l k,false):=by
 simp only[dU,Nat.add_zero,Nat.mul_div_cancel k (by decide:0<2),Nat.mul_mod_left];rfl
theorem vF {w:World}{l:List Hx}(h:∀x∈l,x.In w/\x.Fit)(k:Nat):(dU l h (k*2+1)).1=(fQ l k,true):=by
 simp only[dU,show(k*2+1)/2=k by omega,show(k*2+1)%2=1 by omega];rfl
theorem EZ {X:Nat->Prop}{w w':World}{a o:Nat}{c:List Value}(h:aZ w a o c)(d:bF X w w')(hx:¬X a):aZ w' a o c:=λj v b=>d.cell (p:=⟨a,o+j,none⟩) hx (h j v b)
theorem TU (w0:World)(n:Nat)(lp Bh Y G A zh:Nat)(X:Nat->Prop)(zi:∀k,X k->k<A)(ao:Option Addr)(l:List Hx)(a:∀x∈l,x.In w0/\x.Fit)(hlen:l.length<=1048576)(zc:¬X Y)(hG:¬X G)
 (J Jx:List (HP w0)->World->Prop)(W:World)(R:A<=W.heap.size)(L:AbidesFrom W.heap.size J)
 (hY:∀f (x:HP w0) W,J f W->f.length<l.length*2->YieldAt Fence.wide (n-1) Tryz.prog lp #[x.1.1.val,x.1.1.part x.1.2] W λe Z=>
  (e=.returned (.bool true)/\J (f++[x]) Z/\bF X W Z)∨(e=.returned (.bool false)/\Jx (f++[x]) Z))
 (hBhc:W.cell? ⟨Bh,0,none⟩=some (.slice ao l.length zh))(E:W.cell? ⟨Y,0,none⟩=some (.slice (some ⟨G,0,none⟩) 2 2))
 (zj:W.cell? ⟨G,0,none⟩=some (.func (.func 175) #[] #[]))(zk:W.cell? ⟨G,1,none⟩=some (.func (.func 176) #[] #[]))
 (hX:l=[]∨∃bl U,ao=some ⟨bl,U,none⟩/\¬X bl/\∀j (h:j<l.length),aZ W bl (U+j*3) l[j].cells)(h0:J [] W):
 CallsIn Fence.wide n Tryz.prog 228 #[.func (.yield lp) #[] #[],.pointer (some ⟨Bh,0,none⟩),.pointer (some ⟨Y,0,none⟩)] W λe Z=>(∃v,e=.returned v)/\
  ((∃ys,ys=cE (dU l a) (l.length*2)/\J ys Z)∨(∃f,(∃k,k<=l.length*2/\f=cE (dU l a) k)/\Jx f Z)):=by
 refine callsIn_of_wp Tryz.func228 rfl trivial ?_ rfl;simp only[Tryz.ntmps228,lsz,llc,lln,Nat.reduceAdd,Nat.reduceSub,ars,arz,lpt,lap,lna,lca];gi_wp2
 gi_loopw [10] (λi wr=>∃k:Nat,k<=l.length/\i=.int .i64 k/\J (cE (dU l a) (k*2)) wr/\bF X W wr) (λi _=>l.length-(intOf i).toNat)
 case atStart=>exact⟨0,nz _,rfl,h0,bF.refl _ _⟩
 case round=>
  obtain⟨k,hk,rfl,M,y⟩:=hrel
  by_cases C:k<l.length
  ·obtain⟨bl,U,rfl,hb,hc⟩:=hX.resolve_left (λe=>by rw[e]at C;simp at C)
   have ze:=y.cell (p:=⟨Y,0,none⟩) zc E;have O:=EZ (hc k C) y hb;obtain⟨h,N⟩:=bP (fQ l k);rw[←cQ l k C,←N]at O;have HB:=aG N;clear N;obtain⟨c0,c1,c2⟩:=iI O;clear O;have hz:Y<wr.heap.size:=aA ze;have zl:A<=wr.heap.size:=Nat.le_trans R y.size;have u:(wr.alloc h.obj).heap[wr.heap.size]?=some h.obj:=wnq wr _;have zd:J (cE (dU l a) (k*2)) (wr.alloc h.obj):=L _ _ _ none M (gG ((br _ _).alloc (nlq _) _)) (λr e=>by cases e);have zb:bF X W (wr.alloc h.obj):=y.trans (bF.of_below ((br _ _).alloc (nlq _) _));gi_wp2;obtain⟨z,zg⟩:=bP wr.heap.size;have zf:¬X z:=λe=>by have:=zi _ e;omega
   rw[←zg]at u ⊢;clear ze c0 c1 c2 hz M y zg
   gi_loopw [16] (λi V=>∃s:Nat,s<=2/\i=.int .i64 s/\J (cE (dU l a) (k*2+s)) V/\bF X W V/\V.heap[z]?=some h.obj) (λi _=>2-(intOf i).toNat)
   case atStart=>exact⟨0,by omega,rfl,zd,zb,u⟩
   case round=>
    clear u zd zb zl;obtain⟨s,hs,rfl,I,b,d⟩:=hrel;have q:=b.cell (p:=⟨Y,0,none⟩) zc E;have P:=b.cell (p:=⟨G,0,none⟩) hG zj;have Q:=b.cell (p:=⟨G,1,none⟩) hG zk;have e0:wr.cell? ⟨z,0,none⟩=some (.string h.n):=aW d rfl;have e1:wr.cell? ⟨z,1,none⟩=some (.slice h.ta h.tl.length h.tc):=aW d rfl;have e2:wr.cell? ⟨z,2,none⟩=some (.slice h.na h.nl.length h.nc):=aW d rfl
    rcases(by omega:s=0∨s=1∨s=2)with rfl|rfl|rfl
    ·gi_wp2_with fail
     refine lR 5 (by kernel_rfl) (by kernel_rfl) ?_;have HA:Nonempty (cO wr):=⟨⟨wr,br _ _⟩⟩;have f0:=λs:cO wr=>cO.cell e0 s;have f1:=λs:cO wr=>cO.cell e1 s;have f2:=λs:cO wr=>cO.cell e2 s;clear e0 e1 e2 q P Q;simp only[lts,List.take_zero,lds,List.drop_zero]
     repeat (go_big_quiet_step ((go_at_call 175;exact cO.call _ (LQ h _))))
     refine wpQuiet_nil ?_;rintro _ ⟨g,rfl⟩;have S:(dU l a (k*2+0)).1=(h,false):=by rw[HB.oQ];exact tN a k
     have m:J (cE (dU l a) (k*2+0)) g.w:=L _ _ _ none I (gG g.h) (λr e=>by cases e);obtain⟨fn,tmps,B,za,D,hR⟩:=hY _ (dU l a (k*2+0)) g.w m (by rw[eI];omega);rw[S]at D;have F:=hR;have T:g.w.heap[z]?=some h.obj:=(g.h.block z (bU d)).trans d;have H:bF X W g.w:=b.trans (bF.of_below g.h);clear hR hY m f0 f1 f2;simp only[Hx.part,Hx.pa,Hx.pl,Hx.pc,Hx.val,Bool.false_eq_true,if_false]at D;gi_wp2_with fail
     refine⟨λh=>(by cases h),?_⟩;refine RoundIn.mono F ?_;rintro e W3 (⟨rfl,K,t⟩|⟨rfl,o⟩)
     ·clear F D
      gi_wp2;refine⟨⟨0+1,by omega,rfl,?_,H.trans t,t.c z _ zf T rfl⟩,by simp[intOf]⟩;have hu:=eH (dU l a) (k*2+0);rw[show k*2+(0+1)=k*2+0+1 by omega,hu];exact K
     ·clear F D
      gi_wp2;refine bpr (results_none rfl _ _ _) rfl ?_;exact⟨⟨_,rfl⟩,.inr ⟨_,⟨k*2+0+1,by omega,(eH _ _).symm⟩,o⟩⟩
    ·gi_wp2_with fail
     refine lR 5 (by kernel_rfl) (by kernel_rfl) ?_;have HA:Nonempty (cO wr):=⟨⟨wr,br _ _⟩⟩;have f0:=λs:cO wr=>cO.cell e0 s;have f1:=λs:cO wr=>cO.cell e1 s;have f2:=λs:cO wr=>cO.cell e2 s;clear e0 e1 e2 q P Q;simp only[lts,List.take_zero,lds,List.drop_zero]
     repeat (go_big_quiet_step ((go_at_call 176;exact cO.call _ (LI h _))))
     refine wpQuiet_nil ?_;rintro _ ⟨g,rfl⟩;have S:(dU l a (k*2+1)).1=(h,true):=by rw[HB.oQ];exact vF a k
     have m:J (cE (dU l a) (k*2+1)) g.w:=L _ _ _ none I (gG g.h) (λr e=>by cases e);obtain⟨fn,tmps,B,za,D,hR⟩:=hY _ (dU l a (k*2+1)) g.w m (by rw[eI];omega);rw[S]at D;have F:=hR;have T:g.w.heap[z]?=some h.obj:=(g.h.block z (bU d)).trans d;have H:bF X W g.w:=b.trans (bF.of_below g.h);clear hR hY m f0 f1 f2;simp only[Hx.part,Hx.pa,Hx.pl,Hx.pc,Hx.val,if_true]at D;gi_wp2_with fail
     refine⟨λh=>(by cases h),?_⟩;refine RoundIn.mono F ?_;rintro e W3 (⟨rfl,K,t⟩|⟨rfl,o⟩)
     ·clear F D
      gi_wp2;refine⟨⟨1+1,by omega,rfl,?_,H.trans t,t.c z _ zf T rfl⟩,by simp[intOf]⟩;have hu:=eH (dU l a) (k*2+1);rw[show k*2+(1+1)=k*2+1+1 by omega,hu];exact K
     ·clear F D
      gi_wp2;refine bpr (results_none rfl _ _ _) rfl ?_;exact⟨⟨_,rfl⟩,.inr ⟨_,⟨k*2+1+1,by omega,(eH _ _).symm⟩,o⟩⟩
    ·clear e0 e1 e2 P Q q
     gi_wp2;refine⟨⟨k+1,by omega,by go_num,?_,b⟩,by simp[intOf];omega⟩;rw[show(k+1)*2=k*2+2 by omega];exact I
  ·have zm:k=l.length:=by omega
   gi_wp2
   go_end0
   exact⟨⟨_,rfl⟩,.inl ⟨_,rfl,by rw[←zm];exact M⟩⟩
theorem Q6 (n:Nat)(a b:Option Addr)(f d k c:Nat)(w:World):
 CallsIn Fence.wide n Tryz.prog 174 #[.slice a f d,.slice b k c] w λe w'=>e=.returned (.func (.func 228) #[] #[.pointer (some ⟨w.heap.size,0,none⟩),.pointer (some ⟨w.heap.size+1,0,none⟩)])/\
  w'=(w.alloc (.cells #[.slice a f d] 28)).alloc (.cells #[.slice b k c] 268):=by
 refine callsIn_of_wp Tryz.func174 rfl trivial ?_ rfl;simp only[Tryz.ntmps174,lsz,llc,lln,Nat.reduceAdd,Nat.reduceSub,ars,arz,lpt,lap,lna,lca];gi_wp2;go_ret;exact⟨by simp,rfl⟩
theorem ED (n:Nat)(h1:1<=n)(a:Option Addr)(c b:Nat)(w:World):
 CallsIn Fence.wide n Tryz.prog 135 #[.slice a c b] w λe w'=>∃h g G,e=.returned (.func (.func 228) #[] #[.pointer (some ⟨h,0,none⟩),.pointer (some ⟨g,0,none⟩)])/\aF w w'/\
  w'.cell? ⟨h,0,none⟩=some (.slice a c b)/\w'.cell? ⟨g,0,none⟩=some (.slice (some ⟨G,0,none⟩) 2 2)/\w'.cell? ⟨G,0,none⟩=some (.func (.func 175) #[] #[])/\w'.cell? ⟨G,1,none⟩=some (.func (.func 176) #[] #[])/\w.heap.size<=g/\w.heap.size<=G:=by
 refine callsIn_of_wp Tryz.func135 rfl trivial ?_ rfl;simp only[Tryz.ntmps135,lsz,llc,lln,Nat.reduceAdd,Nat.reduceSub,ars,arz,lpt,lap,lna,lca];gi_wp2_with fail;refine⟨trivial,?_⟩;refine(Q6 (n-1) _ _ _ _ _ _ _).mono ?_;rintro e w' ⟨rfl,rfl⟩;have b1:=Boxed.new (w.alloc (.cells #[.func (.func 175) #[] #[],.func (.func 176) #[] #[]] 212)) 28 (.slice a c b);have i:=Boxed.new ((w.alloc (.cells #[.func (.func 175) #[] #[],.func (.func 176) #[] #[]] 212)).alloc (.cells #[.slice a c b] 28)) 268 (.slice (some ⟨w.heap.size,0,none⟩) 2 2);have j:(w.alloc (.cells #[.func (.func 175) #[] #[],.func (.func 176) #[] #[]] 212)).heap[w.heap.size]?=some (.cells #[.func (.func 175) #[] #[],.func (.func 176) #[] #[]] 212):=wnq w _
 have k:aF w (((w.alloc (.cells #[.func (.func 175) #[] #[],.func (.func 176) #[] #[]] 212)).alloc (.cells #[.slice a c b] 28)).alloc (.cells #[.slice (some ⟨w.heap.size,0,none⟩) 2 2] 268)):=
  (((br _ w).alloc (nlq _) _).alloc (by simp) _).alloc (by simp;omega) _
 have f:=b1.alloc (.cells #[.slice (some ⟨w.heap.size,0,none⟩) 2 2] 268);have d:=(halq _ (.cells #[.slice (some ⟨w.heap.size,0,none⟩) 2 2] 268) w.heap.size (by simp;omega)).trans ((halq _ (.cells #[.slice a c b] 28) w.heap.size (by simp)).trans j);simp only[wsa]at f i;gi_wp2;go_ret;exact⟨_,_,w.heap.size,rfl,k,by simpa using f.cell,by simpa using i.cell,aW d rfl,aW d rfl,by omega,nlq _⟩
theorem zV (n:Nat)(g:1<=n)(a:Option Addr)(c b:Nat)(w:World):
 CallsIn Fence.wide n Tryz.prog 135 #[.slice a c b] w λe w'=>∃d f G,e=.returned (.func (.func 228) #[] #[.pointer (some ⟨d,0,none⟩),.pointer (some ⟨f,0,none⟩)])/\aF w w'/\
  w'.cell? ⟨d,0,none⟩=some (.slice a c b)/\w'.cell? ⟨f,0,none⟩=some (.slice (some ⟨G,0,none⟩) 2 2)/\w'.cell? ⟨G,0,none⟩=some (.func (.func 175) #[] #[])/\w'.cell? ⟨G,1,none⟩=some (.func (.func 176) #[] #[]):=
 (ED n g a c b w).mono (λ_ _ ⟨d,f,G,g,h,i,j,k,l,_⟩=>⟨d,f,G,g,h,i,j,k,l⟩)
theorem FC {B:Nat}{X Y Z:World}(h:oZ B X Y)(g:oZ B Y Z):oZ B X Z:=h.trans g
theorem EQ {B:Nat}{w:World}(h:B<=w.heap.size)(W:World)(l:Nat)(o c:Obj)(i:w.heap.size<=l)(f:W.heap[l]?=some o)(d:o.isCells=false)(j:o.isWalk=false):oZ B W (W.putObj l c):=by
 refine⟨belowK_b h W l o c i f d j,λk u a g=>?_⟩;have b:k≠l:=λe=>by subst e;rw[f]at a;cases a;rw[d]at g;cases g
 exact((grownBy_putObj' W l c).block k (bU a) (λe=>b (Option.some.inj e))).trans a
theorem RG {α:Type}{F:Fence}{n:Nat}{P:Program}{g:Nat}{lb:Array Value}{b:α->Array Value}{e f:World->World->Prop}{S Sp:List α->Prop}{N:Nat}{w:World}(h:SeqStopsK F n P g lb b e S Sp N w)(s:∀A B,f A B->e A B):SeqStopsK F n P g lb b f S Sp N w:=
 λl J i W o m c p k=>h l J i W o m c (λd x j q t=>(p d x j q t).mono (λ_ _ r=>r.imp (λa=>⟨a.1,a.2.1,s _ _ a.2.2⟩) id)) k
theorem uP (n:Nat)(r o G c:Nat)(q:Option Addr)(l:List Hx)(w0:World)(a:∀x∈l,x.In w0/\x.Fit)(m:l.length<=1048576)(w:World)(X:Nat->Prop)(s:∀k,X k->k<w.heap.size)(v:¬X o)(t:¬X G)(u:∀p,q=some p->l≠[]->¬X p.block)
 (d:w.cell? ⟨r,0,none⟩=some (.slice q l.length c))(f:w.cell? ⟨o,0,none⟩=some (.slice (some ⟨G,0,none⟩) 2 2))(g:w.cell? ⟨G,0,none⟩=some (.func (.func 175) #[] #[]))(i:w.cell? ⟨G,1,none⟩=some (.func (.func 176) #[] #[]))
 (F:Xs 3 Hx.cells w q l):
 SeqStopsK Fence.wide n Tryz.prog 228 #[.pointer (some ⟨r,0,none⟩),.pointer (some ⟨o,0,none⟩)] (λx:HP w0=>#[x.1.1.val,x.1.1.part x.1.2]) (bF X) (λL=>L=cE (dU l a) (l.length*2)) (λz=>∃k,k<=l.length*2/\z=cE (dU l a) k) (l.length*2) w:=λK J C W b E _ H D=>by
 refine TU w0 n K r o G w.heap.size c X s q l a m v t J C W b.size E H ((b.cell (aA d)).trans d) ((b.cell (aA f)).trans f) ((b.cell (aA g)).trans g) ((b.cell (aA i)).trans i) ?_ D
 rcases l with _|⟨x,l⟩
 ·exact .inl rfl
 ·rcases F with h|⟨A,y,e,B⟩
  ·cases h
  ·have I:A<w.heap.size:=aA (iI (B 0 (by simp))).1
   exact .inr ⟨A,y,e,u _ e (by simp),λj h=>EM (B j h) b I⟩
theorem qG (n:Nat)(f g G d:Nat)(i:Option Addr)(l:List Hx)(w0:World)(a:∀x∈l,x.In w0/\x.Fit)(e:l.length<=1048576)(w:World)
 (j:w.cell? ⟨f,0,none⟩=some (.slice i l.length d))(m:w.cell? ⟨g,0,none⟩=some (.slice (some ⟨G,0,none⟩) 2 2))(p:w.cell? ⟨G,0,none⟩=some (.func (.func 175) #[] #[]))(q:w.cell? ⟨G,1,none⟩=some (.func (.func 176) #[] #[]))
 (s:Xs 3 Hx.cells w i l):
 SeqStopsK Fence.wide n Tryz.prog 228 #[.pointer (some ⟨f,0,none⟩),.pointer (some ⟨g,0,none⟩)] (λx:HP w0=>#[x.1.1.val,x.1.1.part x.1.2]) (oZ w.heap.size) (λv=>v=cE (dU l a) (l.length*2)) (λr=>∃k,k<=l.length*2/\r=cE (dU l a) k) (l.length*2) w:=
 RG (uP n f g G d i l w0 a e w (λ_=>False) (λ_ h=>h.elim) id id (λ_ _ _=>id) j m p q s) (λ_ _ h=>⟨h.b.size,λk o _ t u=>h.c k o t u⟩)
end Go.Proofs.YtcdbcliaepcpfaaGreatDoor
namespace Go.Proofs.YtcdbcliaepcpfaaGreatDoor
set_option maxRecDepth 100000
open Go.RowKit
theorem Tryz.info90:(Tryz.prog.info? 90).map (λi=>(i.zero,i.size,i.bytes))=some (some (.agg #[.string ByteArray.empty,.slice none 0 0,.slice none 0 0]),3,64):=by kernel_rfl
theorem aU.fit {l m:List Hx}(h:aU l m)(b:∀x∈l,x.Fit):∀x∈m,x.Fit:=λx hx=>by
 obtain⟨k,c,rfl⟩:=lgo hx;have a:k<l.length:=by rw[←h.len];exact c
 have g:=b l[k] (lgm a);have e:=h.like k a;exact⟨by rw[←e.t];exact g.tn,by rw[←e.x];exact g.nn,by rw[←e.n];exact g.sn⟩
theorem fP.setOther {α:Type}{t sz:Nat}{c:α->List Value}{w:World}{d n k:Nat}{l:List α}(h:fP t sz c w d n l k){a:Addr}(ha:d≠a.block)(v:Value):fP t sz c (w.setCell a v) d n l k:=by
 obtain⟨f,b,e⟩:=h;exact⟨f,b.setOther ha v,e⟩
theorem fP.xs' {α:Type}{t sz:Nat}{c:α->List Value}{w:World}{e n k:Nat}{l:List α}(h:fP t sz c w e n l k)(m:∀a,(c a).length=sz)(hk:l.length<=k)(hn:l.length<=n):∀i (h:i<l.length),aZ w e (0+i*sz) (c l[i]):=by
 obtain⟨f,b,o⟩:=h;intro i p j v g
 have d:j<sz:=by
  rw[←m l[i]];exact(lgs.1 g).1
 rw[Nat.zero_add,b.cell (EI sz (by omega) d),o i p (by omega) j v g]
end Go.Proofs.YtcdbcliaepcpfaaGreatDoor
