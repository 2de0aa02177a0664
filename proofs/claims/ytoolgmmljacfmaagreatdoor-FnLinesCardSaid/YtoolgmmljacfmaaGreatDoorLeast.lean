import Derived.Test.YtoolgmmljacfmaaGreatDoorSpanLeaf
import Derived.Test.YtoolgmmljacfmaaGreatDoorImplTube
import Derived.Test.YtoolgmmljacfmaaGreatDoorMarkB
set_option maxRecDepth 100000
set_option maxHeartbeats 8000000
open List renaming length → ln
open Go.Proofs.Tryz Go.RowKit
namespace Go.Proofs.YtoolgmmljacfmaaGreatDoor
variable {l p:List Sp}{s:Sp}{d:Int}
def dO (t:List Bx):Sp:=⟨10000-(mV t (t.length-1)).o+1,300⟩
theorem OB (t:List Bx)(ta:Oa)(p:Nat)(w:Wd)(n:jG w ta t)(m:1<=ln t)(h2:ln t<=40)(f:t.all aK=true):
 aW 172 #[.slice ta (ln t) p] w λe w'=>e=rt (dO t).val/\aG w w':=by
 rcases n with h|⟨k,off,rfl,i⟩;·subst h;simp at m
 have c:=i (ln t-1) om;obtain⟨b,a⟩:=bQ (mV t (ln t-1));rw[←gM t (ln t-1) om,←a]at c;have d:aK b=true:=by rw[a];exact tD f _
 have g:0<=b.o/\b.o<=10000:=by simp only[aK,dte]at d;omega
 obtain⟨o1,o2⟩:=g;have j:=aI a;clear a i;obtain⟨l,c1,c2,c3,c4,c5⟩:=c;have hbz:k<w.heap.size:=aA l;have e1:(ln t:Int)-1=((ln t-1:Nat):Int):=om;have hq1:(0:Int)<=((ln t-1:Nat):Int):=om;have hq2:((ln t-1:Nat):Int)<(ln t:Int):=om;go_enter func172,ntmps172;go_wp2;refine bpr (v:=(dO t).val) ?_ rfl ⟨rfl,aC (aC (br _ _) _) _⟩;rw[dO,←j.oQ];simp[results,results172,go_sem]
def eF:Option Int->Value
 |some d=>.tuple #[I d,.bool true]
 |none=>.tuple #[I 0,.bool false]
theorem NR (l:List Sp):J2 l [] 0:=⟨ilr _,λe h1 h2=>by omega,sC _⟩
theorem J2.pass (h:J2 l p d)(b:¬(s.lo<=d/\d<=s.hi)):J2 l (p++[s]) d:=
 ⟨h.lo,h.all,λa=>by rw[eS,nT]at a;exact a.elim h.no b⟩
theorem J2.skip (h:J2 l p d)(j:s.lo<=d/\d<=s.hi)(i:s∈l)(c:∀a∈p,lD a s):J2 l (p++[s]) (s.hi+1):=by
 refine⟨by have:=h.lo;omega,λe b h2=>?_,λg=>?_⟩
 ·by_cases f:e<d;·exact h.all e b f
  ·exact⟨s,i,om,om⟩
 ·rw[eS,nT]at g;rcases g with⟨a,ha,g⟩|g;·have:=c a ha;unfold lD at this;omega
  ·omega
theorem TY (f:Int)(M:0<=f)(N:f<=300)(l:List Sp)(S:Oa)(G:Nat)(w:Wd)(hl:Xs 2 Sp.cells w S l)(K:DM f l):
 aW 131 #[.slice S (ln l) G,Sp.val ⟨0,f⟩] w λe w'=>(∃o,e=rt (eF o)/\EE f (i8 l) o)/\aG w w':=by
 have hn:ln l<=301:=K.len N;have P:=wnq w (Sp.obj ⟨0,f⟩);have j:aG w (w.alloc (Sp.obj ⟨0,f⟩)):=aC (br _ _) _
 go_enter func131,ntmps131
 go_wp2
 obtain⟨W0,x⟩:=cI (w.alloc (Sp.obj ⟨0,f⟩));rw[x]at P j ⊢;clear x
 go_loopw [6,13] (λlv i wr=>∃(k:Nat) (d:Int),k<=ln l/\i=I k/\lv=I d/\d<=f/\aG W0 wr/\Hid (J2 l (l.take k) d)) (λ_ i _=>ln l-(intOf i).toNat)
 case atStart=>exact⟨0,0,nz _,rfl,rfl,M,br _ _,NR l⟩
 case round=>
  obtain⟨k,d,hk,rfl,rfl,V,H,p⟩:=hrel;have T:aG w wr:=j.trans (H.mono j.size);have Q:=btq H P
  by_cases g:k<ln l
  ·rcases hl with h|⟨bl,off,rfl,U⟩
   ·subst h;simp at g
   have q:=(U k g).zL T;have z:=K.b l[k] (lgm g);have t:=lgm g
   have r:∀a∈l.take k,lD a l[k]:=by
    have:=K.c.sep.sublist (List.take_sublist (k+1) l);rw[tsa g]at this;exact λa ha=>(List.pairwise_append.1 this).2.2 a ha _ sm
   have F:=aI (tsa g);obtain⟨s,A⟩:=bQ (l[k]);rw[←A]at q z t r F;have D:Hid (s∈l/\∀a∈l.take k,lD a s):=⟨t,r⟩;clear A U t r;obtain⟨Z,c1⟩:=JP q;obtain⟨sb0,sb1⟩:=z;clear q;have R:=wnq wr s.obj;have y:aG wr (wr.alloc s.obj):=aC (br _ _) _;obtain⟨v1,u⟩:∃v,kI s d=v:=⟨_,rfl⟩;go_wp2_with fail
   refine(sW s d _).mono ?_;rintro e w1 ⟨rfl,m⟩;rw[u];have X:=btq m R;have m:=aE y m;have W:=btq m Q;have n:=bI H (nlq _) m;have J:aG w w1:=j.trans (n.mono j.size);clear Z c1 R y Q
   cases v1 with
   |false=>
    have O:¬(s.lo<=d/\d<=s.hi):=by simpa only[kI,dfi]using u
    go_wp2
    go_roundw
    case rel=>exact⟨k+1,d,om,gn,rfl,V,n,by rw[Hid,F.oQ];exact p.out.pass O⟩
    case measure=>simp[intOf];omega
   |true=>
    have B:s.lo<=d/\d<=s.hi:=by simpa only[kI,dte]using u
    have s1:w1.cell? (ya wr 1)=some (I s.hi):=cB X rfl;have m1:w1.cell? (ya w 1)=some (I f):=cB W rfl
    by_cases hge:f<=s.hi
    ·have C:Hid (EE f (i8 l) none):=λe u h2=>by
      by_cases he:e<d
      ·exact p.out.all e u he
      ·exact⟨s,D.oQ.1,om,om⟩
     go_wp2
     refine bpr (v:=eF none) ?_ rfl ⟨⟨none,rfl,C.oQ⟩,J⟩
     simp[results,results131,go_sem,eF]
    ·go_wp2
     go_roundw
     case rel=>exact⟨k+1,s.hi+1,om,gn,gn,om,n,by rw[Hid,F.oQ];exact p.out.skip B D.oQ.1 D.oQ.2⟩
     case measure=>simp[intOf];omega
  ·have L:l.take k=l:=ltl om
   rw[L]at p;have C:Hid (EE f (i8 l) (some d)):=⟨p.out.lo,V,p.out.no,p.out.all⟩;go_wp2
   refine bpr (v:=eF (some d)) ?_ rfl ⟨⟨some d,rfl,C.oQ⟩,T⟩
   simp[results,results131,go_sem,eF]
def dE (b:Bk)(t:List Bx)(most:Int):Bool:=decide (0<=most/\most<=300)&&(aO b&&aQ b.fl t)
theorem tL (b:Bk)(t:List Bx)(ta:Oa)(G:Nat)(a:Int)(w:Wd)(ha:rA w b t ta):
 aW 129 #[b.val,.slice ta (ln t) G,I a] w λe w'=>e=rt (.bool (dE b t a))/\aG w w':=by
 obtain⟨V,p⟩:=bQ (dE b t a);rw[←p];have n:=aI p;clear p;have j:aG w (w.alloc (bo b)):=aC (br _ _) _;have r:=wnq w (bo b);obtain⟨A,y⟩:∃v,kI ⟨0,300⟩ a=v:=⟨_,rfl⟩;have c:decide (0<=a/\a<=300)=A:=y;go_enter func129,ntmps129;go_wp2_with fail;refine(nN 300 _).mono ?_;rintro e w1 ⟨rfl,d⟩;have x:aG w w1:=aE j d;have s:=btq d r;clear r d j;go_wp2_with fail;refine(sW ⟨0,300⟩ a _).mono ?_;rintro e m ⟨rfl,f⟩;rw[y];have l:aG w m:=aE x f;have h:=btq f s;clear s f x;cases A with
 |false=>
  go_wp2_with fail;go_ret;exact⟨aF (by rw[n.oQ,dE,c];rfl),l⟩
 |true=>
 have D:m.cell? (ya w 0)=some (I b.now):=aB h rfl;have q:m.cell? (ya w 1)=some (fs b):=aB h rfl;have F:m.cell? (ya w 2)=some (hs b):=aB h rfl;go_wp2_with fail;obtain⟨H,o⟩:∃v,aO b=v:=⟨_,rfl⟩;refine(vC (ha.zL l) _ o).mono ?_;rintro e B ⟨rfl,g⟩;have i:aG w B:=aE l g;have u:=btq g h;clear D q F h g l;cases H with
 |false=>
  go_wp2_with fail;go_ret;exact⟨aF (by rw[n.oQ,dE,c,o];rfl),i⟩
 |true=>
 have q:B.cell? (ya w 1)=some (fs b):=aB u rfl;go_wp2_with fail;obtain⟨v2,z⟩:∃v,aQ b.fl t=v:=⟨_,rfl⟩;refine(I1 _ _ _ z _ _ _ _ _ (ha.hf.zL i) (ha.ht.zL i) ha.hnf ha.hnt).mono ?_;rintro e J ⟨rfl,k⟩;have C:aG w J:=aE i k;clear q u k i;go_wp2_with fail;go_ret;exact⟨aF (by rw[n.oQ,dE,c,o,z];rfl),C⟩
end Go.Proofs.YtoolgmmljacfmaaGreatDoor
namespace Go.Proofs.YtoolgmmljacfmaaGreatDoor
open Go.Shelf
attribute [local go_sem] Oper.semAt_some
variable {b lb:List Bx}{X:Nat → Prop}{w w':Wd}{a o:Nat}{n:Bx}
def kG (la lb:List Bx)(m:Nat):Bx×Bx:=(mV la (m/lb.length),mV lb (m%lb.length))
theorem EW (k s:Nat)(a:s<ln lb):kG b lb (k*ln lb+s)=(mV b k,mV lb s):=by
 have c:(k*ln lb+s)/ln lb=k:=by rw[Nat.add_comm,Nat.add_mul_div_right _ _ om,Nat.div_eq_of_lt a,nza]
 have d:(k*ln lb+s)%ln lb=s:=by rw[Nat.add_comm,Nat.add_mul_mod_self_right,Nat.mod_eq_of_lt a]
 simp only[kG,c,d]
theorem yW (h:fX w a o n)(c:bE X w w')(hx:¬X a):fX w' a o n:=by
 obtain⟨d,e,f,g,i,j⟩:=h;exact⟨c.cell (p:=(Y a _)) hx d,c.cell (p:=(Y a _)) hx e,c.cell (p:=(Y a _)) hx f,c.cell (p:=(Y a _)) hx g,c.cell (p:=(Y a _)) hx i,c.cell (p:=(Y a _)) hx j⟩
theorem VI (n:Nat)(lp B1 H u c1 c2:Nat)(X:Nat->Prop)(zf:∀k,X k->k<u)(aa ab:Oa)(d lb:List Bx)(hla:ln d<=1048576)(hlb:ln lb<=1048576)(K:¬X H)
 (J Jx:List (Bx×Bx)->Wd->Prop)(W:Wd)(D:u<=W.heap.size)(M:AbidesFrom W.heap.size J)
 (hY:∀g (x:Bx×Bx) W,J g W->ln g<ln d*ln lb->YieldAt Fence.wide (n-1) prog lp #[x.1.val,x.2.val] W λe G=>
  (e=rt (.bool true)/\J (g++[x]) G/\bE X W G)∨(e=rt (.bool false)/\Jx (g++[x]) G))
 (hB1:W.cell? (Y B1 0)=some (.slice aa (ln d) c1))(zb:W.cell? (Y H 0)=some (.slice ab (ln lb) c2))
 (hA:d=[]∨∃w l,aa=some (Y w l)/\¬X w/\∀j (h:j<ln d),fX W w (l+j*6) d[j])
 (zc:lb=[]∨∃w l,ab=some (Y w l)/\¬X w/\∀j (h:j<ln lb),fX W w (l+j*6) lb[j])(h0:J [] W):
 CallsIn Fence.wide n prog 235 #[.func (.yield lp) #[] #[],E B1 0,E H 0] W λe G=>(∃v,e=rt v)/\
  ((∃ys,ys=cS (kG d lb) (ln d*ln lb)/\J ys G)∨(∃g,(∃k,k<=ln d*ln lb/\g=cS (kG d lb) k)/\Jx g G)):=by
 refine cow func235 rfl trivial ?_ rfl;simp only[ntmps235,lsz,llc,lln,Nat.reduceAdd,Nat.reduceSub,ars,arz,lpt,lap,lna,lca];gi_wp2
 gi_loopw [10] (λi wr=>∃k:Nat,k<=ln d/\i=I k/\J (cS (kG d lb) (k*ln lb)) wr/\bE X W wr) (λi _=>ln d-(intOf i).toNat)
 case atStart=>exact⟨0,nz _,rfl,by rw[Nat.zero_mul];exact h0,bE.refl _ _⟩
 case round=>
  obtain⟨k,hk,rfl,A,q⟩:=hrel
  by_cases m:k<ln d
  ·obtain⟨w,l,rfl,zg,hc⟩:=hA.resolve_left (λe=>by rw[e]at m;simp at m)
   have R:=q.cell (p:=(Y H 0)) K zb;have S:=yW (hc k m) q zg;obtain⟨a,B⟩:=bQ (mV d k);rw[←gM d k m,←B]at S;have HA:=aI B;clear B;obtain⟨q0,q1,q2,q3,q4,q5⟩:=S;have hz:H<wr.heap.size:=aA R;have zi:u<=wr.heap.size:=nlt D q.size;have o:(wr.alloc a.obj).heap[wr.heap.size]?=some a.obj:=wnq wr _;have O:J (cS (kG d lb) (k*ln lb)) (wr.alloc a.obj):=M _ _ _ none A (gK ((br _ _).alloc (nlq _) _)) (λr e=>by cases e);have L:bE X W (wr.alloc a.obj):=q.trans (bE.of_below ((br _ _).alloc (nlq _) _));gi_wp2;obtain⟨z,Z⟩:=bQ wr.heap.size;have zm:¬X z:=λe=>by have:=zf _ e;omega
   rw[←Z]at o ⊢;clear R q0 q1 q2 q3 q4 q5 hz A q Z
   gi_loopw [16] (λi F=>∃s:Nat,s<=ln lb/\i=I s/\J (cS (kG d lb) (k*ln lb+s)) F/\bE X W F/\F.heap[z]?=some a.obj) (λi _=>ln lb-(intOf i).toNat)
   case atStart=>exact⟨0,nz _,rfl,O,L,o⟩
   case round=>
    clear o O L zi;obtain⟨s,zq,rfl,y,t,za⟩:=hrel
    by_cases f:s<ln lb
    ·obtain⟨bl2,off2,rfl,Q,zh⟩:=zc.resolve_left (λe=>by rw[e]at f;simp at f)
     have T:=yW (zh s f) t Q;obtain⟨b,C⟩:=bQ (mV lb s);rw[←gM lb s f,←C]at T;have HB:=aI C;clear C;obtain⟨p0,p1,p2,p3,p4,p5⟩:=T;obtain⟨q0,q1,q2,q3,q4,q5⟩:=AT za;rw[nza]at q1 q2 q3 q4 q5;have zn:z<wr.heap.size:=aA q0;have N:J (cS (kG d lb) (k*ln lb+s)) (wr.alloc b.obj):=M _ _ _ none y (gK ((br _ _).alloc (nlq _) _)) (λr e=>by cases e)
     have zk:k*ln lb+s<ln d*ln lb:=by
      have:(k+1)*ln lb<=ln d*ln lb:=Nat.mul_le_mul_right _ m;rw[Nat.add_mul]at this;omega
     have zl:kG d lb (k*ln lb+s)=(a,b):=by rw[HA.oQ,HB.oQ];exact EW k s f
     obtain⟨fn,tmps,assign,body,hy,hR⟩:=hY _ (kG d lb (k*ln lb+s)) (wr.alloc b.obj) N (by rw[eT];exact zk);rw[zl]at hy;have HR:=hR;have zp:(wr.alloc b.obj).heap[z]?=some a.obj:=(halq wr b.obj z zn).trans za;have zd:bE X W (wr.alloc b.obj):=t.trans (bE.of_below ((br _ _).alloc (nlq _) _));clear hR hY N;gi_wp2_with fail
     refine⟨λh=>(by cases h),?_⟩;refine RoundIn.mono HR ?_;rintro e W3 (⟨rfl,ze,U⟩|⟨rfl,P⟩)
     ·clear HR hy p0 p1 p2 p3 p4 p5 q0 q1 q2 q3 q4 q5
      gi_wp2;refine⟨⟨s+1,om,gn,?_,zd.trans U,U.c z _ zm zp rfl⟩,by simp[intOf];omega⟩;rw[show k*ln lb+(s+1)=k*ln lb+s+1 by omega,eQ];exact ze
     ·clear HR hy p0 p1 p2 p3 p4 p5 q0 q1 q2 q3 q4 q5
      gi_wp2;refine bpr (results_none rfl _ _ _) rfl ?_;exact⟨⟨_,rfl⟩,.inr ⟨_,⟨k*ln lb+s+1,om,(eQ _ _).symm⟩,P⟩⟩
    ·have V:s=ln lb:=om
     gi_wp2;refine⟨⟨k+1,om,gn,?_,t⟩,by simp[intOf];omega⟩;rw[Nat.add_mul,Nat.one_mul,←V];rw[←V]at y;exact y
  ·have zj:k=ln d:=om
   gi_wp2
   go_end0
   exact⟨⟨_,rfl⟩,.inl ⟨_,rfl,by rw[←zj];exact A⟩⟩
theorem LR (n:Nat)(q i C D:Nat)(X:Nat->Prop)(c d:Oa)(a lb:List Bx)(z:ln a<=1048576)(A:ln lb<=1048576)(w:Wd)(u:∀k,X k->k<w.heap.size)(g:¬X i)
 (v:∀p,c=some p->a≠[]->¬X p.block)(y:∀p,d=some p->lb≠[]->¬X p.block)
 (r:w.cell? (Y q 0)=some (.slice c (ln a) C))(s:w.cell? (Y i 0)=some (.slice d (ln lb) D))(H:jG w c a)(t:jG w d lb):
 SeqStopsK Fence.wide n prog 235 #[E q 0,E i 0] (λx:Bx×Bx=>#[x.1.val,x.2.val]) (bE X) (λP=>P=cS (kG a lb) (ln a*ln lb)) (λB=>∃k,k<=ln a*ln lb/\B=cS (kG a lb) k) (ln a*ln lb) w:=λO J F W o K _ L G=>by
 have go:∀(m:Oa) (l:List Bx),jG w m l->(∀p,m=some p->l≠[]->¬X p.block)->l=[]∨∃f b,m=some (Y f b)/\¬X f/\∀j (h:j<ln l),fX W f (b+j*6) l[j]:=λm l N hx=>by
  rcases l with _|⟨x,l⟩
  ·exact .inl rfl
  ·rcases N with h|⟨f,b,e,M⟩
   ·cases h
   ·exact .inr ⟨f,b,e,hx _ e sm,λj h=>(M j h).zL o⟩
 exact VI n O q i w.heap.size C D X u c d a lb z A g J F W o.size K L (ctq o r) (ctq o s) (go c a H v) (go d lb t y) G
theorem WY (n:Nat)(a b:Oa)(f c lb d:Nat)(w:Wd):
 CallsIn Fence.wide n prog 175 #[.slice a f c,.slice b lb d] w λe w'=>∃h g,e=rt (.func (.func 235) #[] #[E h 0,E g 0])/\aG w w'/\
  w'.cell? (Y h 0)=some (.slice a f c)/\w'.cell? (Y g 0)=some (.slice b lb d)/\w.heap.size<=g:=by
 refine cow func175 rfl trivial ?_ rfl;simp only[ntmps175,lsz,llc,lln,Nat.reduceAdd,Nat.reduceSub,ars,arz,lpt,lap,lna,lca];gi_wp2;go_ret;have b1:=(Boxed.new w 41 (.slice a f c)).alloc (.cells #[.slice b lb d] 41);have i:=Boxed.new (w.alloc (.cells #[.slice a f c] 41)) 41 (.slice b lb d);simp only[wsa]at i;exact⟨w.heap.size,w.heap.size+1,rfl,aC (aC (br _ _) _) _,b1.cell,i.cell,om⟩
variable {a k:Int}{P:Int → Prop}{v:Va}{sz n c:Nat}{W d:Wd}{f s m i:Oa}{w b:Option Nat}{l:List Sp}{t q:List Bx}
def kS (most:Int)(P:Int->Prop)(v:Value)(w:World):Prop:=∃ao cap l,v=.slice ao (List.length l) cap/\PB w ao l/\DM most l/\∀d,0<=d->d<=most->(i8 l d↔P d)
theorem kS.zL {w w':Wd}(h:kS a P v w)(i:aG w w'):kS a P v w':=by
 obtain⟨c,b,l,d,e,f,g⟩:=h;exact⟨c,b,l,d,e.zL i,f,g⟩
theorem KJ (a:Int)(hmost:a<=300)(m:Sp)(P:Int->Prop)(v:Va)(w:Wd)(h:kS a P v w)(g:0<=m.lo)(i:m.hi<=a):
 aW 171 #[v,m.val] w λe w'=>(∃j,e=rt j/\kS a (λd=>P d∨(m.lo<=d/\d<=m.hi)) j w')/\aG w w':=by
 obtain⟨k,f,l,rfl,p,q,r⟩:=h;refine(M6 a om l m k f w p q g i).mono ?_;rintro e w' ⟨⟨c,b,y,rfl,t,u,x⟩,s⟩;exact⟨⟨_,rfl,c,b,y,rfl,t,u,λd n o=>by rw[x,r d n o]⟩,s⟩
theorem aAB (b:Int)(a:Oa)(c:Nat)(w:Wd):kS b (λ_=>False) (.slice a 0 c) w:=⟨a,c,[],rfl,⟨Or.inl rfl,Or.inl rfl⟩,YF b,λd _ _=>⟨λh=>absurd h (sC d),False.elim⟩⟩
theorem ZO {α:Type}{c:α->List Va}{l:List α}(h:Xs sz c W f l)(j:W.grownBy d w)(n:∀r,w=some r->∃o:Obj,W.heap[r]?=some o/\o.isCells=false):Xs sz c d f l:=by
 rcases h with h|⟨g,b,e,i⟩;·exact .inl h
 ·exact .inr ⟨g,b,e,λk m=>fH (i k m) j n⟩
theorem LQ (h:PB W f l)(k:W.grownBy d w)(m:∀r,w=some r->∃o:Obj,W.heap[r]?=some o/\o.isCells=false):PB d f l:=by
 refine⟨ZO h.1 k m,?_⟩;rcases h.2 with e|⟨i,c,n,e,b⟩;·exact .inl e
 ·exact .inr ⟨i,c,n,e,(k.block _ (cE b) (λg=>by obtain⟨o,j,p⟩:=m i g.symm;rw[b]at j;cases j;cases p)).trans b⟩
def xN (most:Int)(P:Int->Prop)(z:Nat)(w:World):Prop:=∃ao cap l,Boxed w z 173 (.slice ao (List.length l) cap)/\PB w ao l/\DM most l/\∀d,0<=d->d<=most->(i8 l d↔P d)
theorem xN.zL {w w':Wd}(h:xN a P sz w)(d:aG w w'):xN a P sz w':=by
 obtain⟨e,b,l,c,f,g,i⟩:=h;exact⟨e,b,l,(d.block sz c.lt).trans c,f.zL d,g,i⟩
theorem xN.kept (h:xN a P sz W)(f:W.grownBy w' b)(i:∀r,b=some r->∃o:Obj,W.heap[r]?=some o/\o.isCells=false):xN a P sz w':=by
 obtain⟨j,c,l,d,k,m,n⟩:=h;exact⟨j,c,l,d.kept f (λe=>by obtain⟨o,g,p⟩:=i sz e.symm;rw[show W.heap[sz]?=_ from d]at g;cases g;cases p),LQ k f i,m,n⟩
theorem xs_off (q:Boxed W sz 173 (.slice s n c))(h:Xs 2 Sp.cells W m l)(u:Va):Xs 2 Sp.cells (W.setCell (Y sz 0) u) m l:=by
 rcases h with h|⟨d,b,e,o⟩;·exact .inl h
 ·refine .inr ⟨d,b,e,λk p j v r=>?_⟩
  have i:d≠sz:=λe=>by
   subst e;have g:=(JP (o k p)).1;have:W.heap[d]?=some (.cells #[.slice s n c] 173):=q;simp only[World.cell?,this]at g;have f:(b+k*2)=0∨0<b+k*2:=om;rcases f with f|f;·rw[f]at g;simp at g
   ·simp[Array.getElem?_eq_none (by simp;omega:(#[Value.slice s n c]:Array Va).size<=b+k*2)]at g
  exact(by simp only[World.cell?,bhs W (Y sz 0) u d i]:(W.setCell (Y sz 0) u).cell? (Y d (b+k*2+j))=W.cell? (Y d (b+k*2+j))).trans (o k p j v r)
theorem aAM (j:Boxed W sz 173 (.slice s n c))(h:PB W i l)(u:Va):PB (W.setCell (Y sz 0) u) i l:=by
 refine⟨xs_off j h.1 u,?_⟩;rcases h.2 with e|⟨b,f,k,e,d⟩;·exact .inl e
 ·refine .inr ⟨b,f,k,e,(bhs W (Y sz 0) u b (λg=>?_)).trans d⟩;have m:W.heap[sz]?=some (.cells #[.slice s n c] 173):=j;rw[show b=sz from g,m]at d;cases d
theorem xN.store (e:Boxed W sz 173 (.slice s n c))(h:kS k P v W):xN k P sz (W.setCell (Y sz 0) v):=by
 obtain⟨f,d,l,rfl,g,i,j⟩:=h;exact⟨f,d,l,e.set _,aAM e g _,i,j⟩
def EC (t q:List Bx)(d:Int):Prop:=∃m∈t,∃o∈q,(gZ m o).lo<=d/\d<=(gZ m o).hi
theorem IZ (m o:Bx)(w:Wd):aW 176 #[m.val,o.val] w λe w'=>(∃s:Sp,e=rt s.val/\(aK m=true/\aK o=true->s=gZ m o))/\aG w w':=by
 by_cases h:aK m=true/\aK o=true;·exact(KX m o w h.1 h.2).mono λe w' ⟨b,a⟩=>⟨⟨_,b,λ_=>rfl⟩,a⟩
 ·exact(I6 m o w).mono λe w' ⟨⟨s,b⟩,a⟩=>⟨⟨s,b,λg=>absurd g h⟩,a⟩
theorem WD (t q:List Bx)(d:Int):(∃p∈cS (kG t q) (ln t*ln q),(gZ p.1 p.2).lo<=d/\d<=(gZ p.1 p.2).hi)↔EC t q d:=by
 constructor
 ·rintro⟨p,g,h⟩;simp only[cS,lmm,lmr]at g;obtain⟨i,c,rfl⟩:=g
  have r:0<ln q:=by
   rcases Nat.eq_zero_or_pos (ln q)with e|e;·rw[e,Nat.mul_zero]at c;omega
   ·exact e
  have a:i/ln q<ln t:=Nat.div_lt_of_lt_mul (by rw[Nat.mul_comm];exact c);have b:i%ln q<ln q:=Nat.mod_lt _ r;refine⟨mV t (i/ln q),?_,mV q (i%ln q),?_,h⟩;·rw[gM t _ a];exact lgm a
  ·rw[gM q _ b];exact lgm b
 ·rintro⟨m,l,o,n,h⟩;obtain⟨k,f,rfl⟩:=lgo l;obtain⟨s,j,rfl⟩:=lgo n;refine⟨kG t q (k*ln q+s),?_,?_⟩
  ·simp only[cS,lmm,lmr];refine⟨_,?_,rfl⟩;have:(k+1)*ln q<=ln t*ln q:=Nat.mul_le_mul_right _ f;rw[Nat.add_mul]at this;omega
  ·rw[EW k s j,gM t k f,gM q s j];exact h
theorem aAF (c:t.all aK=true)(b:q.all aK=true):∀p∈cS (kG t q) (ln t*ln q),aK p.1=true/\aK p.2=true:=by
 intro p a;simp only[cS,lmm,lmr]at a;obtain⟨i,_,rfl⟩:=a;exact⟨tD c _,tD b _⟩
def PIn (most:Int)(z:Nat)(P:Int->Prop)(pre:List (Bx×Bx))(W:World):Prop:=
 ∃P',xN most P' z W/\((∀p∈pre,aK p.1=true/\aK p.2=true)->∀d,0<=d->d<=most->(P' d↔(P d∨∃p∈pre,(gZ p.1 p.2).lo<=d/\d<=(gZ p.1 p.2).hi)))
def PrB (p:Bx×Bx)(ao:Option Addr)(len cap:Nat)(most:Int)(P:Int->Prop):Nat->Value->World->Prop
 |0,v,_=>v=.slice ao len cap
 |1,v,_=>v=p.1.val
 |2,v,_=>v=p.2.val
 |3,v,_=>∃s:Sp,v=s.val/\(aK p.1=true/\aK p.2=true->s=gZ p.1 p.2)
 |4,v,_=>v=I most
 |5,v,_=>v=Sp.val ⟨0,most⟩
 |6,v,_=>∃s:Sp,v=(cW s ⟨0,most⟩).val/\(aK p.1=true/\aK p.2=true->s=gZ p.1 p.2)
 |7,v,w=>∃s:Sp,kS most (λd=>P d∨((cW s ⟨0,most⟩).lo<=d/\d<=(cW s ⟨0,most⟩).hi)) v w/\(aK p.1=true/\aK p.2=true->s=gZ p.1 p.2)
 |_,_,_=>True
theorem PrB.zL {p:Bx×Bx}:∀(j:Nat) (v:Va) (w w':Wd),PrB p f c sz a P j v w->aG w w'->PrB p f c sz a P j v w'
 |0,_,_,_,h,_=>h
 |1,_,_,_,h,_=>h
 |2,_,_,_,h,_=>h
 |3,_,_,_,h,_=>h
 |4,_,_,_,h,_=>h
 |5,_,_,_,h,_=>h
 |6,_,_,_,h,_=>h
 |7,_,_,_,⟨s,h,e⟩,hb=>⟨s,kS.zL h hb,e⟩
 |_+8,_,_,_,_,_=>trivial
def PrA (ta:Option Addr)(t:List Bx)(tc:Nat)(most:Int)(z0:Nat):Nat->Value->World->Prop
 |0,v,_=>∃p,v=.slice p 0 0
 |1,v,_=>v=.slice ta t.length tc
 |2,v,_=>v=(dO t).val
 |3,v,_=>v=I most
 |4,v,_=>v=Sp.val ⟨0,most⟩
 |5,v,_=>v=(cW (dO t) ⟨0,most⟩).val
 |6,v,w=>kS most (λd=>False∨((cW (dO t) ⟨0,most⟩).lo<=d/\d<=(cW (dO t) ⟨0,most⟩).hi)) v w
 |7,v,w=>∃z,v=(E z 0)/\z0<=z/\Boxed w z 173 (ms)
 |_,_,_=>True
theorem PrA.zL:∀(j:Nat) (v:Va) (w w':Wd),PrA f t sz a n j v w->aG w w'->PrA f t sz a n j v w'
 |0,_,_,_,h,_=>h
 |1,_,_,_,h,_=>h
 |2,_,_,_,h,_=>h
 |3,_,_,_,h,_=>h
 |4,_,_,_,h,_=>h
 |5,_,_,_,h,_=>h
 |6,_,_,_,h,hb=>kS.zL h hb
 |7,_,_,_,⟨z,e,hz,hB⟩,hb=>⟨z,e,hz,(hb.block z hB.lt).trans hB⟩
 |_+8,_,_,_,_,_=>trivial
theorem VA (n:Nat)(hn:16<=n)(b:Bk)(nm:Ba)(t:List Bx)(ta:Oa)(L:Nat)(f:Int)(hm0:0<=f)(yj:f<=300)(w:Wd)(ha:rA w b t ta)(yg:∀x∈iG b.hl ha.hgood,(x.1.1.pl x.1.2).all aK=true)(yo:aQ b.fl t=true):
 CallsIn Fence.wide n prog 130 #[b.val,.string nm,.slice ta (ln t) L,I f] w λe B=>(∃v,e=rt v/\kS f (λd=>(False∨((cW (dO t) ⟨0,f⟩).lo<=d/\d<=(cW (dO t) ⟨0,f⟩).hi))∨∃x∈(iG b.hl ha.hgood).filter (qY nm),EC t (x.1.1.pl x.1.2) d) v B)/\aG w B:=by
 have h1:1<=n:=om
 have zh:=yo;simp only[aQ,bat,oO,dte]at zh;obtain⟨yn,ym,_⟩:=zh;refine callsIn_of_wp_marks func130 rfl trivial ?_ rfl;simp only[ntmps130,lsz,llc,lln,Nat.reduceAdd,Nat.reduceSub,ars,arz,lpt,lap,lna,lca];have A0:=(halq ((w.alloc (bo b)).alloc (.cells #[.slice ta (ln t) L] 41)) (.cells #[I f] 3) w.heap.size so).trans ((halq (w.alloc (bo b)) (.cells #[.slice ta (ln t) L] 41) w.heap.size sm).trans (wnq w _));have zq:=wnq (w.alloc (bo b)) (.cells #[.slice ta (ln t) L] 41);rw[wsa]at zq;have T0:=(halq ((w.alloc (bo b)).alloc (.cells #[.slice ta (ln t) L] 41)) (.cells #[I f] 3) (w.heap.size+1) sm).trans zq;have M0:=wnq ((w.alloc (bo b)).alloc (.cells #[.slice ta (ln t) L] 41)) (.cells #[I f] 3);rw[wsa,wsa]at M0;have zk:aG w (((w.alloc (bo b)).alloc (.cells #[.slice ta (ln t) L] 41)).alloc (.cells #[I f] 3)):=aC (aC (aC (br _ _) _) _) _;clear zq;gi_wp2_with fail
 obtain⟨Wa,yd⟩:=cI (((w.alloc (bo b)).alloc (.cells #[.slice ta (ln t) L] 41)).alloc (.cells #[I f] 3));rw[yd]at A0 T0 M0 zk ⊢;clear yd
 refine j6 kr 8 rfl (λj=>{ tmps:=#[b.val,.string nm,.slice ta (ln t) L,I f,ea w 0,undef,E (w.heap.size+1) 0,E (w.heap.size+1+1) 0,ms,j 7,undef,undef,undef,j 0,j 1,j 2,j 3,j 4,j 5,j 6,undef,undef,undef,undef,undef,undef,undef,undef,undef,undef,undef,undef,undef,undef,undef,undef,undef,undef],defers:=[]}) (λ_=>undef)
  (PrA ta t L f Wa.heap.size) PrA.zL (GN kr) (zQ kr) ?step ?fin
 case step=>
  intro i o j w' hi G hB F;have A1:=btq hB A0;have T1:=btq hB T0;have M1:=btq hB M0;have hN:aG w w':=aE zk hB
  match i,hi with
  |0,_=>
   cases G
   gi_wp2;exact⟨_,⟨rfl,rfl,rfl,rfl,rfl,rfl,rfl,rfl⟩,⟨_,rfl⟩,aC (br _ _) _⟩
  |1,_=>
   cases G
   have c:w'.cell? (Y (w.heap.size+1) 0)=some (.slice ta (ln t) L):=aB T1 rfl;gi_wp2;exact⟨_,⟨rfl,rfl,rfl,rfl,rfl,rfl,rfl,rfl⟩,rfl,br _ _⟩
  |2,_=>
   cases G
   have V:j 1=_:=Zq F 1;rw[V];gi_wp2_with fail
   refine⟨trivial,?_⟩;refine(cw.2 (OB t ta L w' (ha.ht.zL hN) yn.1 yn.2 ym)).mono ?_;rintro e S ⟨rfl,J⟩;gi_wp2;exact⟨_,by simp[aH,V],rfl,J⟩
  |3,_=>
   cases G
   have c:w'.cell? (Y (w.heap.size+1+1) 0)=some (I f):=aB M1 rfl;gi_wp2;exact⟨_,⟨rfl,rfl,rfl,rfl,rfl,rfl,rfl,rfl⟩,rfl,br _ _⟩
  |4,_=>
   cases G
   have d3:j 3=_:=Zq F 3;rw[d3];gi_wp2_with fail
   refine⟨trivial,?_⟩;refine(cw.2 (nN f w')).mono ?_;rintro e S ⟨rfl,J⟩;gi_wp2;exact⟨_,by simp[aH,d3],rfl,J⟩
  |5,_=>
   cases G
   have d2:j 2=_:=Zq F 2;have d4:j 4=_:=Zq F 4;rw[d2,d4];gi_wp2_with fail
   refine⟨trivial,?_⟩;refine(cw.2 (BU (dO t) ⟨0,f⟩ w')).mono ?_;rintro e S ⟨rfl,J⟩;gi_wp2;exact⟨_,by simp[aH,d2,d4],rfl,J⟩
  |6,_=>
   cases G
   obtain⟨p,U⟩:∃p,j 0=.slice p 0 0:=Zq F 0;have d5:j 5=_:=Zq F 5;rw[U,d5];gi_wp2_with fail
   refine⟨trivial,?_⟩;refine(cw.2 (KJ f yj (cW (dO t) ⟨0,f⟩) (λ_=>False) _ w' (aAB f p 0 w') (by show 0<=max (dO t).lo 0;omega) (by show min (dO t).hi f<=f;omega))).mono ?_;rintro e S ⟨⟨v,rfl,hv⟩,J⟩;gi_wp2;exact⟨v,by simp[aH,U,d5],hv,J⟩
  |7,_=>
   cases G
   gi_wp2;exact⟨_,⟨rfl,rfl,rfl,rfl,rfl,rfl,rfl,rfl⟩,⟨_,rfl,hB.size,Boxed.new w' 173 _⟩,aC (br _ _) _⟩
 case fin=>
  intro o j w' G hB F
  cases G
  have A1:=btq hB A0;have T1:=btq hB T0;have M1:=btq hB M0;obtain⟨z,d7,hz,bZ⟩:∃z,j 7=(E z 0)/\Wa.heap.size<=z/\Boxed w' z 173 (ms):=F 7 om;have d6:kS f _ (j 6) w':=F 6 om;rw[d7];clear F d7;generalize j 0=u0,j 1=u1,j 2=u2,j 3=u3,j 4=u4,j 5=u5;obtain⟨q,m,l6,e6,x6,b6,q6⟩:=d6;rw[e6];clear e6;have cZ:=bZ.cell;have fZ:=bZ.frozen;have hzw:w.heap.size+3<=z:=by have:=(cE M0);omega
  have As:=(bhs w' (Y z 0) (.slice q (ln l6) m) w.heap.size (by show w.heap.size≠z;omega)).trans A1;have Ts:=(bhs w' (Y z 0) (.slice q (ln l6) m) (w.heap.size+1) (by show w.heap.size+1≠z;omega)).trans T1;have Ms:=(bhs w' (Y z 0) (.slice q (ln l6) m) (w.heap.size+1+1) (by show w.heap.size+1+1≠z;omega)).trans M1;have zl:xN f (λd=>False∨((cW (dO t) ⟨0,f⟩).lo<=d/\d<=(cW (dO t) ⟨0,f⟩).hi)) z (w'.setCell (Y z 0) (.slice q (ln l6) m)):=xN.store bZ ⟨q,m,l6,rfl,x6,b6,q6⟩;have yb:aG w (w'.setCell (Y z 0) (.slice q (ln l6) m)):=(aE zk hB).setCell (p:=(Y z 0)) (by show w.heap.size<=z;omega) _;have k0:(w'.setCell (Y z 0) (.slice q (ln l6) m)).cell? (ya w 0)=some (I b.now):=aB As rfl;have k1:(w'.setCell (Y z 0) (.slice q (ln l6) m)).cell? (ya w 1)=some (fs b):=aB As rfl;have k2:(w'.setCell (Y z 0) (.slice q (ln l6) m)).cell? (ya w 2)=some (hs b):=aB As rfl;gi_wp2_with fail
  obtain⟨Ws,ye⟩:=cI (w'.setCell (Y z 0) (.slice q (ln l6) m));rw[ye]at As Ts Ms zl yb ⊢;clear ye cZ fZ A1 T1 M1 bZ x6 q6 b6 hB k0 k1 k2 A0 T0 M0 zk;refine⟨trivial,?_⟩;refine(Y8 (n-1) b nm _).mono ?_;rintro e W0 ⟨Bb,Bn,rfl,za,yv,yw,hnb⟩;have zu:aG w W0:=aE yb za;have yh:=zl.zL za;have Ts:=btq za Ts;have Ms:=btq za Ms;have cT:W0.cell? (Y (w.heap.size+1) 0)=some (.slice ta (ln t) L):=aB Ts rfl;have cM:W0.cell? (Y (w.heap.size+1+1) 0)=some (I f):=aB Ms rfl;have xf:z<Ws.heap.size:=by obtain⟨_,_,_,h,_⟩:=zl;exact h.lt
  have yp:z<W0.heap.size:=nll xf za.size;clear zl As Ts Ms za;gi_wp2_with fail
  refine mX (X:=λk=>k=z) rfl h1 (gf:=234) (lb:=#[E Bb 0,E Bn 0]) rfl trivial (enters_of func234 kr rfl)
   (CW (n-1) om b nm Bb Bn w W0 ha.hgood ha.hnh (λk=>k=z) (λk e=>by rw[e];exact yp) (λe=>by omega) (λp e R=>λez=>by
    rcases ha.hh with h|⟨bl,yq,e2,hc⟩
    ·exact R h
    ·rw[e]at e2;cases e2
     have ze:0<ln b.hl:=by rcases zd:b.hl with _|⟨x,r⟩;exact absurd zd R;simp
     have:=aA (gN (hc 0 ze)).1;simp only at ez this
     omega) yv yw (ha.hh.zL zu)) (br _ _) (λ_=>rfl)
   (λzi W=>(∃P,xN f P z W/\((∀x∈zi,(x.1.1.pl x.1.2).all aK=true)->∀d,0<=d->d<=f->(P d↔((False∨((cW (dO t) ⟨0,f⟩).lo<=d/\d<=(cW (dO t) ⟨0,f⟩).hi))∨∃x∈zi,EC t (x.1.1.pl x.1.2) d))))/\(aG w W/\bE (λk=>k=z) W0 W))
   (λ_ _ _=>False)
   (OwnFrom.and (λs A A' yr ⟨P,J,hq⟩ hg hr=>⟨P,J.kept hg (λr e=>(hr r e).2),hq⟩) (OwnFrom.and (ownFrom_below (nlq _) (by have:=zu.size;omega)) mF))
   (λc=>ownFrom_pure _ _)
   ⟨⟨_,yh,λ_ d _ _=>⟨.inl,λh=>h.elim id (λ⟨x,hx,_⟩=>by cases hx)⟩⟩,zu,bE.refl _ _⟩
   (λx a' _=>a'={ tmps:=#[b.val,.string nm,.slice ta (ln t) L,I f,ea w 0,undef,E (w.heap.size+1) 0,E (w.heap.size+1+1) 0,ms,E z 0,x.1.1.part x.1.2,undef,undef,u0,u1,u2,u3,u4,u5,.slice q (ln l6) m,b.val,.string nm,.func (.func 234) #[] #[E Bb 0,E Bn 0],x.1.1.part x.1.2,undef,undef,undef,undef,undef,undef,undef,undef,undef,undef,undef,undef,undef,undef],defers:=[]})
   (λx a'=>ownFrom_pure _ _)
   ?assign ?body ?done ?stop
  case assign=>
   rintro lp zi x W K hi hK;gi_wp2;exact hK _ _ ((KeepsOthers.refl _).from _) (bE.refl _ _) hi rfl
  case body=>
   rintro lp zi x a' W hl' ⟨r,hr⟩ ⟨⟨P,zm,hq⟩,zj,zv⟩ rfl hlt';have yt:=zv.cell (p:=(Y (w.heap.size+1) 0)) (by show¬(w.heap.size+1=z);omega) cT;have yu:1<=n-1-1:=om
   gi_wp2_with fail
   refine⟨trivial,?_⟩;refine(CallsIn.inRound lp (WY (n-1-1-1) _ _ _ _ _ _ _)).mono ?_;rintro e W1 ⟨Q1,Q2,rfl,O,yy,yz,yk⟩;have zc:aG w W1:=aE zj O;have xc:W1.heap[lp]?=some (.loop r):=(O.block lp (cE hr)).trans hr;have yi:=zm.zL O;have xa:z<W.heap.size:=by obtain⟨_,_,_,h,_⟩:=zm;exact h.lt
   have yf:z<W1.heap.size:=nll xa O.size;have yc:bE (λk=>k=z) W0 W1:=zv.trans (bE.of_below O);have xe:=O.size;have hBWz:=zj.size;have xb:=x.bxs zc;have zd:=x.len;clear yt;gi_wp2_with fail
   refine wpIn_rangeFunc_ownN (l₀:=lp) (r₀:=r) rfl xc yu (gf:=235) (lb:=#[E Q1 0,E Q2 0]) rfl trivial (enters_of func235 kr rfl)
    ((LR (n-1-1-1) Q1 Q2 L (x.1.1.pc x.1.2) (λk=>k=z) ta (x.1.1.pa x.1.2) t (x.1.1.pl x.1.2) ha.hnt zd W1 (λk e=>by rw[e];exact yf) (by show¬(Q2=z);omega)
     (λp e R ez=>by
      rcases ha.ht with h|⟨bl,yq,e2,hc⟩
      ·exact R h
      ·rw[e]at e2;cases e2
       have ze:0<ln t:=om
       have:=aA (hc 0 ze).1;simp only at ez this
       omega)
     (λp e R ez=>by
      rcases x.bxs (br w.heap.size w)with h|⟨bl,yq,e2,hc⟩
      ·exact R h
      ·rw[e]at e2;cases e2
       have ze:0<ln (x.1.1.pl x.1.2):=by rcases zd:x.1.1.pl x.1.2 with _|⟨x,r⟩;exact absurd zd R;simp
       have:=aA (hc 0 ze).1;simp only at ez this
       omega)
     yy yz (ha.ht.zL zc) xb).inRound lp) QV QZ (br _ _) (λ_=>rfl)
    (λQ B=>PIn f z P Q B/\((aG w B/\bE (λk=>k=z) W1 B)/\KeepsFrom W0.heap.size W B))
    (λ_ _ _=>False)
    (OwnFrom.and (λs A A' yr ⟨P,J,hq⟩ hg hr=>⟨P,J.kept hg (λr e=>(hr r e).2),hq⟩) (OwnFrom.and (OwnFrom.and (ownFrom_below (nlq _) om) mF) (ownFrom_keepsFrom xe)))
    (λc=>ownFrom_pure _ _)
    ⟨⟨_,yi,λ_ d _ _=>⟨.inl,λh=>h.elim id (λ⟨p,hp,_⟩=>by cases hp)⟩⟩,⟨zc,bE.refl _ _⟩,(cA O).from _⟩
    (λy zr B=>∃B3 B4,fX B B3 0 y.1/\fX B B4 0 y.2/\(B3≠z/\B4≠z)/\zr={ tmps:=#[b.val,.string nm,.slice ta (ln t) L,I f,ea w 0,undef,E (w.heap.size+1) 0,E (w.heap.size+1+1) 0,ms,E z 0,x.1.1.part x.1.2,E B3 0,E B4 0,u0,u1,u2,u3,u4,u5,.slice q (ln l6) m,b.val,.string nm,.func (.func 234) #[] #[E Bb 0,E Bn 0],x.1.1.part x.1.2,.slice ta (ln t) L,x.1.1.part x.1.2,.func (.func 235) #[] #[E Q1 0,E Q2 0],y.1.val,y.2.val,undef,undef,undef,undef,undef,undef,undef,undef,undef],defers:=[]})
    (λy zr _ X a yr zn hg hr=>by obtain⟨B3,B4,e1,e2,e3⟩:=zn;exact⟨B3,B4,pM e1 hg (λr e=>(hr r e).2),pM e2 hg (λr e=>(hr r e).2),e3⟩)
    ?assign2 ?body2 ?done2 ?stop2
   case assign2=>
    rintro l2 Q y B K ⟨⟨P',H,zg⟩,⟨M,C⟩,N⟩ hK;gi_wp2;have zb:aG B ((B.alloc y.1.obj).alloc y.2.obj):=aC (aC (br _ _) _) _;have o1:=(halq (B.alloc y.1.obj) y.2.obj B.heap.size sm).trans (wnq B y.1.obj);have o2:=wnq (B.alloc y.1.obj) y.2.obj;rw[wsa]at o2;have hzW:z<B.heap.size:=by obtain⟨_,_,_,h,_⟩:=H;exact h.lt
    exact hK _ _ ((cA zb).from _) (bE.of_below zb) ⟨⟨P',H.zL zb,zg⟩,⟨aE M zb,C.trans (bE.of_below zb)⟩,N.trans ((cA zb).from _)⟩ ⟨B.heap.size,B.heap.size+1,AT o1,AT o2,⟨om,om⟩,rfl⟩
   case body2=>
    rintro l2 Q y zr B hl2 _ ⟨⟨P',H,zg⟩,⟨M,C⟩,N⟩ ⟨B3,B4,e1,e2,⟨n3,n4⟩,rfl⟩ hlt2;obtain⟨ao,T,l,Z,zx,zt,zw⟩:=H;have zy:=(yc.trans C).cell (p:=(Y (w.heap.size+1+1) 0)) (by show¬(w.heap.size+1+1=z);omega) cM;have h2':1<=n-1-1-1-1:=om
    gi_wp2_with fail
    refine j6 kr 8 rfl (λj=>{ tmps:=#[b.val,.string nm,.slice ta (ln t) L,I f,ea w 0,undef,E (w.heap.size+1) 0,E (w.heap.size+1+1) 0,ms,E z 0,x.1.1.part x.1.2,E B3 0,E B4 0,u0,u1,u2,u3,u4,u5,.slice q (ln l6) m,b.val,.string nm,.func (.func 234) #[] #[E Bb 0,E Bn 0],x.1.1.part x.1.2,.slice ta (ln t) L,x.1.1.part x.1.2,.func (.func 235) #[] #[E Q1 0,E Q2 0],y.1.val,y.2.val,j 0,j 1,j 2,j 3,j 4,j 5,j 6,j 7,undef],defers:=[]}) (λ_=>undef)
     (PrB y ao (ln l) T f P') PrB.zL (GN kr) (zQ kr) ?step2 ?fin2
    case step2=>
     intro i o j S hi G u F
     match i,hi with
     |0,_=>
      cases G
      have bz:Boxed S z 173 (.slice ao (ln l) T):=(u.block z Z.lt).trans Z;have c:=bz.cell;gi_wp2;exact⟨_,⟨rfl,rfl,rfl,rfl,rfl,rfl,rfl,rfl⟩,rfl,br _ _⟩
     |1,_=>
      cases G
      obtain⟨c0,c1,c2,c3,c4,c5⟩:=e1.zL u;rw[nza]at c1 c2 c3 c4 c5;gi_wp2;exact⟨_,⟨rfl,rfl,rfl,rfl,rfl,rfl,rfl,rfl⟩,rfl,br _ _⟩
     |2,_=>
      cases G
      obtain⟨c0,c1,c2,c3,c4,c5⟩:=e2.zL u;rw[nza]at c1 c2 c3 c4 c5;gi_wp2;exact⟨_,⟨rfl,rfl,rfl,rfl,rfl,rfl,rfl,rfl⟩,rfl,br _ _⟩
     |3,_=>
      cases G
      have V:j 1=_:=Zq F 1;have d2:j 2=_:=Zq F 2;rw[V,d2];gi_wp2_with fail
      refine⟨trivial,?_⟩;refine(CallsIn.inRound l2 (CallsIn.inRound lp (cw.2 (IZ y.1 y.2 S)))).mono ?_;rintro e w3 ⟨⟨s,rfl,zn⟩,J⟩;gi_wp2;exact⟨_,by simp[aH,V,d2],⟨s,rfl,zn⟩,J⟩
     |4,_=>
      cases G
      have c:=(u.cell (p:=(Y (w.heap.size+1+1) 0)) (aA zy)).trans zy;gi_wp2;exact⟨_,⟨rfl,rfl,rfl,rfl,rfl,rfl,rfl,rfl⟩,rfl,br _ _⟩
     |5,_=>
      cases G
      have d4:j 4=_:=Zq F 4;rw[d4];gi_wp2_with fail
      refine⟨trivial,?_⟩;refine(CallsIn.inRound l2 (CallsIn.inRound lp (cw.2 (nN f S)))).mono ?_;rintro e w3 ⟨rfl,J⟩;gi_wp2;exact⟨_,by simp[aH,d4],rfl,J⟩
     |6,_=>
      cases G
      obtain⟨s,d3,zn⟩:∃s:Sp,j 3=s.val/\(aK y.1=true/\aK y.2=true->s=gZ y.1 y.2):=Zq F 3;have d5:j 5=_:=Zq F 5;rw[d3,d5];gi_wp2_with fail
      refine⟨trivial,?_⟩;refine(CallsIn.inRound l2 (CallsIn.inRound lp (cw.2 (BU s ⟨0,f⟩ S)))).mono ?_;rintro e w3 ⟨rfl,J⟩;gi_wp2;exact⟨_,by simp[aH,d3,d5],⟨s,rfl,zn⟩,J⟩
     |7,_=>
      cases G
      obtain⟨s,d6,zn⟩:∃s:Sp,j 6=(cW s ⟨0,f⟩).val/\(aK y.1=true/\aK y.2=true->s=gZ y.1 y.2):=Zq F 6;have U:j 0=_:=Zq F 0;rw[U,d6];gi_wp2_with fail
      refine⟨trivial,?_⟩;refine(CallsIn.inRound l2 (CallsIn.inRound lp (cw.2 (KJ f yj (cW s ⟨0,f⟩) P' _ S ⟨ao,T,l,rfl,zx.zL u,zt,zw⟩ (by show 0<=max s.lo 0;omega) (by show min s.hi f<=f;omega))))).mono ?_;rintro e w3 ⟨⟨v,rfl,hv⟩,J⟩;gi_wp2;exact⟨v,by simp[aH,U,d6],⟨s,hv,zn⟩,J⟩
    case fin2=>
     intro o j S G u F
     cases G
     have bz:Boxed S z 173 (.slice ao (ln l) T):=(u.block z Z.lt).trans Z;obtain⟨s,yl,zn⟩:∃s:Sp,kS f (λd=>P' d∨((cW s ⟨0,f⟩).lo<=d/\d<=(cW s ⟨0,f⟩).hi)) (j 7) S/\(aK y.1=true/\aK y.2=true->s=gZ y.1 y.2):=F 7 om;clear F;have zp:=yl;obtain⟨ys,zz,l7,e7,x7,b7,q7⟩:=yl;rw[e7]at zp ⊢;have cZ:=bz.cell;have fZ:=bz.frozen
     have yx:PIn f z P (Q++[y]) (S.setCell (Y z 0) (.slice ys (ln l7) zz)):=by
      refine⟨_,xN.store bz zp,λzf d U V=>?_⟩;have hy:=zf y sm;have xd:=zn hy;subst xd;have yk:=zg (λp hp=>zf p (by simp[hp])) d U V
      have hw:((cW (gZ y.1 y.2) ⟨0,f⟩).lo<=d/\d<=(cW (gZ y.1 y.2) ⟨0,f⟩).hi)↔((gZ y.1 y.2).lo<=d/\d<=(gZ y.1 y.2).hi):=by
       show(max (gZ y.1 y.2).lo 0<=d/\d<=min (gZ y.1 y.2).hi f)↔_
       omega
      show(P' d∨_)↔_
      rw[hw,yk]
      constructor
      ·rintro((g|⟨p,hp,g⟩)|g)
       ·exact .inl g
       ·exact .inr ⟨p,by simp[hp],g⟩
       ·exact .inr ⟨y,sm,g⟩
      ·rintro(g|⟨p,hp,g⟩)
       ·exact .inl (.inl g)
       ·rcases lma.1 hp with hp|hp
        ·exact .inl (.inr ⟨p,hp,g⟩)
        ·simp at hp;subst hp;exact .inr g
     gi_wp2;exact⟨((cA u).trans (KeepsOthers.setCell _ _ _)).from _,(bE.of_below u).trans (bE.setCell S z 0 _ rfl),yx,⟨(aE M u).setCell (p:=(Y z 0)) (by show w.heap.size<=z;omega) _,(C.trans (bE.of_below u)).trans (bE.setCell S z 0 _ rfl)⟩,N.trans (((cA u).trans (KeepsOthers.setCell _ _ _)).from _)⟩
   case done2=>
    rintro ys' B rfl ⟨⟨P',H,zg⟩,⟨M,C⟩,N⟩;gi_wp2;refine⟨N,(bE.of_below O).trans C,⟨P',H,λzf d U V=>?_⟩,M,yc.trans C⟩;have hx:=zf x sm;rw[zg (aAF ym hx) d U V,hq (λy hy=>zf y (by simp[hy])) d U V,WD]
    constructor
    ·rintro((g|⟨y,hy,g⟩)|g)
     ·exact .inl g
     ·exact .inr ⟨y,by simp[hy],g⟩
     ·exact .inr ⟨x,sm,g⟩
    ·rintro(g|⟨y,hy,g⟩)
     ·exact .inl (.inl g)
     ·rcases lma.1 hy with hy|hy
      ·exact .inl (.inr ⟨y,hy,g⟩)
      ·simp at hy;subst hy;exact .inr g
   case stop2=>
    rintro c Q B _ h;exact h.elim
  case done=>
   rintro D zs W hD rfl ⟨⟨P,zm,hq⟩,zj,zv⟩ hK;obtain⟨ao,T,l,Z,zx,zt,zw⟩:=zm;have c:=Z.cell;gi_wp2;refine⟨sm,.inl ⟨_,_,rfl,rtd hK,?_⟩⟩;refine⟨_,results_tmp rfl _ _ _,⟨_,rfl,ao,T,l,rfl,LQ zx (grownBy_putObj' _ D (.deferred none)) (λr e=>by cases e;exact⟨_,hK,rfl⟩),zt,λd U V=>?_⟩,zj.trans (belowK_b (w:=w) (nlq _) W D _ _ om hK rfl rfl)⟩;rw[zw d U V,hq (λx hx=>yg x (List.mem_filter.1 hx).1) d U V]
  case stop=>
   rintro D c zi W _ _ h _;exact h.elim
end Go.Proofs.YtoolgmmljacfmaaGreatDoor
namespace Go.Proofs.YtoolgmmljacfmaaGreatDoor
variable {t q:List Bx}{c:List Fx}{d a:Int}{b:Bk}{h:Hx}{w:Wd}{nm:Ba}
def dK (d:Int)(b:Bx):Bx:={ b with i:=b.i+d,o:=b.o+d}
def dG (d:Int)(t:List Bx):List Bx:=t.map (dK d)
theorem dZ (d:Int)(t:List Bx):ln (dG d t)=ln t:=by simp[dG]
theorem iQ (d:Int)(t:List Bx)(i:Nat)(h:i<ln (dG d t)):(dG d t)[i]=dK d (t[i]'(by simpa[dG]using h)):=by simp[dG]
def EF (b:Bk)(nm:ByteArray)(t:List Bx)(d:Int):Bool:=aQ b.fl (dG d t)&&kC nm (dG d t) b.hl
def lF (b:Bk)(nm:ByteArray)(t:List Bx)(d:Int):Prop:=(dO t).lo<=d∨∃h∈b.hl,tW nm h.n=true/\(EC t h.tl d∨EC t h.nl d)
theorem YS (a:fJ t=true):∀(k i:Nat) (h:i+k<ln t),(t[i]'om).o<=t[i+k].o
 |0,i,h=>ilr _
 |k+1,i,h=>by
  have h1:=YS a k i om;have b:=(fO t).1 a (i+k) om;simp only[dW,dte]at b;have c:t[i+(k+1)]=t[i+k+1]:=rfl;rw[c];omega
theorem JN (h:aQ c t=true)(hd:0<=d):aQ c (dG d t)=decide (¬(dO t).lo<=d):=by
 simp only[aQ,bat]at h;obtain⟨k,s,l,m⟩:=h;have hl:1<=ln t:=by simp only[oO,dte]at k;omega
 have b:mV t (ln t-1)=t[ln t-1]'om:=gM t _ om;have f:(dO t).lo=10000-(t[ln t-1]'om).o+1:=by rw[dO,b]
 rw[f];by_cases hc:(t[ln t-1]'om).o+d<=10000
 ·rw[det om];have n:oO (ln (dG d t))=true:=by rw[dZ];exact k
  have p:(dG d t).all aK=true:=by
   rw[lat];intro x hx;obtain⟨i,g,rfl⟩:=lgo hx;have a:i<ln t:=by simpa[dG]using g
   rw[iQ];have u:=lat.1 s _ (lgm a);have v:=YS l (ln t-1-i) i om
   have ho':t[i].o<=(t[ln t-1]'om).o:=by
    have e:i+(ln t-1-i)=ln t-1:=om;simpa only[e]using v
   simp only[aK,dte]at u ⊢;simp only[dK];omega
  have q:fJ (dG d t)=true:=(fO _).2 λi g=>by
   have a:i+1<ln t:=by simpa[dG]using g
   have:=(fO t).1 l i a;rw[iQ,iQ];simp only[dW,dte]at this ⊢;simp only[dK];omega
  have r:lT c (dG d t)=true:=by
   rw[l9 c t om]at m;rw[l9 c (dG d t) (by rw[dZ];omega),iQ];simp only[dZ];exact m
  rw[aQ,n,p,q,r];rfl
 ·rw[def0 om]
  have:(dG d t).all aK=false:=by
   rw[befq];intro ha;have j:ln t-1<ln (dG d t):=by rw[dZ];omega
   have:=lat.1 ha _ (lgm j);rw[iQ]at this;simp only[aK,dte]at this;simp only[dK]at this;omega
  rw[aQ,this];simp
theorem pR (s:(dG d t).all aK=true)(r:q.all aK=true):dD (dG d t) q=true↔EC t q d:=by
 simp only[dD,List.any_eq_true,EC];constructor
 ·rintro⟨x,hx,o,e,h⟩;obtain⟨m,k,rfl⟩:=lmm.1 hx;refine⟨m,k,o,e,?_⟩;simp only[dY,bat]at h;obtain⟨⟨⟨⟨_,_⟩,a⟩,p⟩,c⟩:=h;have f:lV m o=true:=a;have i:kJ m o=true:=p;simp only[qT,dte]at c;simp only[dK]at c;rw[gZ,i,f];simp only[Bool.and_self,if_true];omega
 ·rintro⟨m,k,o,e,h⟩;have b:dK d m∈dG d t:=lmm.2 ⟨m,k,rfl⟩;refine⟨dK d m,b,o,e,?_⟩;cases a:(kJ m o&&lV m o)with
  |false=>rw[gZ,a]at h;simp at h;omega
  |true=>
   rw[gZ,a]at h;simp only[if_true]at h;simp only[bat]at a;have l:=lat.1 s _ b;have n:=lat.1 r _ e;have c:qT (dK d m) o=true:=by simp only[qT,dte];simp only[dK];omega
   have g:lV (dK d m) o=true:=a.2;have j:kJ (dK d m) o=true:=a.1;rw[dY,l,n,g,j,c];rfl
theorem uD (d:aO b=true)(f:h∈b.hl):h.tl.all aK=true/\h.nl.all aK=true:=by
 simp only[aO,dU,bat]at d;have e:=lat.1 d.2.2.2.2.1 h f;simp only[cK,bat,bot]at e;obtain⟨c,_,a⟩:=e;simp only[aQ,bat]at c a;refine⟨c.2.1,?_⟩;rcases a with a|a;·rw[List.isEmpty_iff.1 a];rfl
 ·exact a.1.2.1
theorem WQ (a:aO b=true)(c:∀x∈b.hl,x.In w/\x.Fit):∀x∈iG b.hl c,(x.1.1.pl x.1.2).all aK=true:=by
 intro x hx;have:=uD a (pE hx);obtain⟨⟨h,s⟩,_⟩:=x;cases s;·exact this.1
 ·exact this.2
theorem zY {nm:Ba}(k:aO b=true)(n:aQ b.fl t=true)(l:0<=d):lF b nm t d↔EF b nm t d=false:=by
 by_cases i:(dO t).lo<=d
 ·rw[EF,JN n l];simp[lF,i]
 ·have e:aQ b.fl (dG d t)=true:=by rw[JN n l];simp[i]
  have a:(dG d t).all aK=true:=by simp only[aQ,bat]at e;exact e.2.1
  rw[EF,e,Bool.true_and,YH];constructor
  ·rintro(g|⟨h,m,o,g⟩);·exact absurd g i
   ·rw[befq];intro ha;have:=lat.1 ha h m;rw[jB,o]at this;have c:=uD k m;rcases g with g|g;·rw[(pR a c.1).2 g]at this;cases this
    ·rw[(pR a c.2).2 g]at this;simp at this
  ·intro h;right
   have:¬∀x∈b.hl,jB nm (dG d t) x=true:=λg=>by
    rw[lat.2 g]at h;cases h
   have:∃x∈b.hl,jB nm (dG d t) x=false:=by
    apply Classical.byContradiction;intro j
    exact this λx hx=>by
     cases f:jB nm (dG d t) x with
     |true=>rfl
     |false=>exact absurd ⟨x,hx,f⟩ j
   obtain⟨x,hx,f⟩:=this;have c:=uD k hx;refine⟨x,hx,?_⟩;simp only[jB,Bool.not_eq_false',bat,bot]at f;refine⟨f.1,?_⟩;rcases f.2 with g|g;·exact .inl ((pR a c.1).1 g)
   ·exact .inr ((pR a c.2).1 g)
theorem UP (e:∀x∈b.hl,x.In w/\x.Fit)(f:a<=300)(h0:0<=d)(h1:d<=a):
 ((False∨((cW (dO t) ⟨0,a⟩).lo<=d/\d<=(cW (dO t) ⟨0,a⟩).hi))∨∃x∈(iG b.hl e).filter (qY nm),EC t (x.1.1.pl x.1.2) d)↔lF b nm t d:=by
 have l:((cW (dO t) ⟨0,a⟩).lo<=d/\d<=(cW (dO t) ⟨0,a⟩).hi)↔(dO t).lo<=d:=by
  show(max (dO t).lo 0<=d/\d<=min 300 a)↔_;omega
 rw[l];unfold lF;constructor
 ·rintro((g|g)|⟨x,hx,g⟩);·exact g.elim
  ·exact .inl g
  ·obtain⟨i,j⟩:=List.mem_filter.1 hx;right;refine⟨x.1.1,pE i,j,?_⟩;obtain⟨⟨h,s⟩,_⟩:=x;cases s;·exact .inl g
   ·exact .inr g
 ·rintro(g|⟨h,f,k,g⟩);·exact .inl (.inr g)
  ·right;rcases g with g|g
   ·obtain⟨x,hx,c⟩:=rY e f false;exact⟨x,List.mem_filter.2 ⟨hx,by rw[qY,c];exact k⟩,by rw[c];exact g⟩
   ·obtain⟨x,hx,c⟩:=rY e f true;exact⟨x,List.mem_filter.2 ⟨hx,by rw[qY,c];exact k⟩,by rw[c];exact g⟩
theorem tX (b:Bk)(nm:Ba)(t:List Bx)(ta:Oa)(k:Nat)(a:Int)(h:0<=a)(c:a<=300)(w:Wd)(ha:rA w b t ta)(s:aO b=true)(u:aQ b.fl t=true):
 aW 130 #[b.val,.string nm,.slice ta (ln t) k,I a] w λe f=>(∃v,e=rt v/\kS a (lF b nm t) v f)/\aG w f:=by
 refine(cw.1 (VA 16 om b nm t ta k a h c w ha (WQ s ha.hgood) u)).mono ?_;rintro e f ⟨⟨v,rfl,m,g,l,n,o,p,q⟩,r⟩;exact⟨⟨v,rfl,m,g,l,n,o,p,λd i j=>(q d i j).trans (UP ha.hgood c i j)⟩,r⟩
variable {c o:Nat}{b:Bx}{n:Bk}
theorem CX (l:List Bx):∀u∈fG l,u.oneCell'=true:=by
 induction l with
 |nil=>simp[fG]
 |cons a r ih=>
  intro u b;rcases lma.1 b with h|h;·exact m9 a u h
  ·exact ih u h
theorem ZT (h:fX w c o b)(j:Nat)(u:Va)(a:(aR b)[j]?=some u):w.cell? (Y c (o+j))=some u:=by
 obtain⟨d,e,f,g,i,k⟩:=h;match j,a with
 |0,a=>simp[aR]at a;subst a;exact d
 |1,a=>simp[aR]at a;subst a;exact e
 |2,a=>simp[aR]at a;subst a;exact f
 |3,a=>simp[aR]at a;subst a;exact g
 |4,a=>simp[aR]at a;subst a;exact i
 |5,a=>simp[aR]at a;subst a;exact k
 |n+6,a=>simp[aR]at a
theorem CM (f:∀k (h:k<ln t),fX w c (o+k*6) t[k]):∀j u,(fG t)[j]?=some u->w.cell? (((Y c o):Addr).add j)=some u:=by
 intro j u b;have g:j<ln (fG t):=(lgs.1 b).1;rw[mR]at g;have d:j/6<ln t:=om;have e:j=j/6*6+j%6:=om;rw[e,AF t _ d _ om]at b;rw[aal];have:=ZT (f _ d) _ u b;rw[show o+j=o+j/6*6+j%6 by omega];exact this
theorem PK (t:List Bx)(j b r:Nat)(w:Wd)(v:∀k (h:k<ln t),fX w j (b+k*6) t[k])(p:1<=ln t)(hn:ln t<=1048576):
 aW 49 #[.slice (some (Y j b)) (ln t) r] w λe w'=>(∃g a,e=rt (.slice (some (Y g 0)) (ln t) a)/\w.heap.size<=g/\(ln t)<=a/\AU w' g a t (ln t))/\aG w w':=by
 obtain⟨A,y,m,n,o⟩:=info_parts Tryz.info91
 go_enter func49,ntmps49
 have i:(w.alloc (.cells #[] 91)).ownsRow w.heap.size 91 6 (sl w.heap.size 0 0 0) 0 []:=by simpa using World.ownsRow_lit (base:=w.heap.size) (e:=91) (size:=6) w #[] 0 (nlq _) (nz _) rfl
 have l:∀k (h:k<ln t),fX (w.alloc (.cells #[] 91)) j (b+k*6) t[k]:=λk h=>(v k h).zL (aC (br _ _) _)
 go_wp2_with (at_builtin;refine wpList_append_own_at _ rfl (.tmp 3) (.tmp 4) 41 rfl w.heap.size 91 A _ 6 48 underlying41 y m n o rfl dz _ _ _ rfl i (Y j b) (ln t) r (fG t) rfl (mR t) (CM l) (CX t) ?qc3 ?qc4 ?qc5 ?_)
 case qc3=>unfold maxLen;omega
 case qc4=>omega
 case qc5=>simp
 intro v' w1 d c _ _;have s:aG w w1:=(aC (br _ _) _).grown c sm (λq z=>by simp[Value.ownBlock]at z;omega)
 rcases aN.of_owns d with⟨_,e⟩|⟨g,a,rfl,x,f,u⟩
 ·rw[e]at p;simp at p
 go_wp2
 go_ret;exact⟨⟨g,a,rfl,x,f,u⟩,s⟩
def KD (d:Int)(t:List Bx)(k:Nat)(i:Nat):Bx:=if i<k then dK d (mV t i)else mV t i
theorem K7 (t:List Bx)(d:Int)(A n K:Nat)(w:Wd)(S:∀k (h:k<ln t),fX w A (n+k*6) t[k])(Q:1<=ln t)(T:ln t<=1048576)(D:t.all aK=true)(hd0:0<=d)(hd1:d<=300):
 aW 178 #[.slice (some (Y A n)) (ln t) K,I d] w λe w'=>(∃g j,e=rt (.slice (some (Y g 0)) (ln (dG d t)) j)/\jG w' (some (Y g 0)) (dG d t))/\aG w w':=by
 go_enter func178,ntmps178
 go_wp2_with fail
 refine(PK t A n K w S Q T).mono ?_;rintro e w1 ⟨⟨g,j,rfl,J,hcap,f,a,q⟩,r⟩;go_wp2
 go_loopw [6] (λi wr=>∃k:Nat,k<=ln t/\i=I k/\(∃f,wr.rowIs g 91 (j*6) f/\Hid (∀i,i<ln t->RowB f i (KD d t k i)))/\aG w wr) (λi _=>ln t-(intOf i).toNat)
 case atStart=>exact⟨0,nz _,rfl,⟨f,a,λi l=>by rw[KD,if_neg om,gM t i l];exact q i l l⟩,r⟩
 case round=>
  clear a q r f;obtain⟨k,hk,rfl,⟨f,a,q⟩,H⟩:=hrel
  by_cases C:k<ln t
  ·have c:=q.out k C
   have s:aK (mV t k)=true:=tD D k;rw[KD,if_neg om]at c;obtain⟨b,m⟩:=bQ (mV t k);rw[←m]at c s;have L:=aI m;clear m;have B:0<=b.i/\b.i<=10000/\0<=b.o/\b.o<=10000:=by simp only[aK,dte]at s;omega
   obtain⟨o1,o2,o3,o4⟩:=B;have N:=a.cell (i:=k*6+4) om;have O:=a.cell (i:=k*6+5) om;rw[c.2.2.2.2.1]at N;rw[c.2.2.2.2.2]at O;have M:=aI c;clear c;have hfr:=λi=>a.frozen i;go_wp2
   go_roundw
   case rel=>
    refine⟨k+1,om,gn,⟨_,(a.set _ _).set _ _,λi l=>?_⟩,(H.setCell (p:=(Y g _)) J _).setCell (p:=(Y g _)) J _⟩
    by_cases e:i=k
    ·subst e
     rw[KD,if_pos om,←L.oQ];obtain⟨x,q1,y,z,F,G⟩:=M.oQ;refine⟨?_,?_,?_,?_,?_,?_⟩<;>simp[x,q1,y,z,dK]
    ·have v:=q.out i l
     have P:KD d t (k+1) i=KD d t k i:=by
      unfold KD
      by_cases h:i<k
      ·rw[if_pos om,if_pos h]
      ·rw[if_neg om,if_neg h]
     rw[P];obtain⟨x,q1,y,z,F,G⟩:=v;refine⟨?_,?_,?_,?_,?_,?_⟩<;>dsimp only<;>repeat rw[if_neg om]
     all_goals assumption
   case measure=>simp[intOf];omega
  ·have hke:k=ln t:=om
   have R:jG wr (some (Y g 0)) (dG d t):=by
    refine Or.inr ⟨g,0,rfl,λi l=>?_⟩;have u:i<ln t:=by rw[dZ]at l;exact l
    have v:=q.out i u;rw[KD,if_pos om,gM t i u]at v;rw[iQ,nza];obtain⟨x,q1,y,z,F,G⟩:=v;exact⟨by rw[a.cell om,x],by rw[a.cell om,q1],by rw[a.cell om,y],by rw[a.cell om,z],by rw[a.cell om,F],by rw[a.cell om,G]⟩
   go_wp2
   go_ret;exact⟨⟨g,j,by rw[dZ];rfl,R⟩,H⟩
theorem FW (b:Bk)(nm:Ba)(t:List Bx)(ta:Oa)(K:Nat)(d:Int)(w:Wd)(ha:rA w b t ta)(ht:aQ b.fl t=true)(u:0<=d)(y:d<=300):
 aW 135 #[b.val,.string nm,.slice ta (ln t) K,I d] w λe w'=>e=rt (.bool (EF b nm t d))/\aG w w':=by
 obtain⟨V,q⟩:=bQ (EF b nm t d);rw[←q];have F:=aI q;clear q;simp only[aQ,bat,oO,dte]at ht;obtain⟨j,z,_⟩:=ht;rcases ha.ht with h|⟨M,C,rfl,N⟩;·rw[h]at j;simp at j
 have f:aG w (w.alloc (bo b)):=aC (br _ _) _;have D:=wnq w (bo b);go_enter func135,ntmps135;go_wp2_with fail;refine(K7 t d M C K _ (λk h=>(N k h).zL f) j.1 ha.hnt z u y).mono ?_;rintro e w1 ⟨⟨g,cap,rfl,J⟩,i⟩;have o:aG w w1:=aE f i;have n:=btq i D;clear D i f;have B:w1.cell? (ya w 1)=some (fs b):=aB n rfl;obtain⟨x,hx⟩:=bQ (dG d t);have A:ln x<=1048576:=by rw[hx,dZ];exact ha.hnt
 have a:rA w1 b x (some (Y g 0)):={ ha.zL o with ht:=by rw[hx];exact J,hnt:=A};have G:=aI hx;rw[←hx];clear hx J;go_wp2_with fail;obtain⟨Q,p⟩:∃v,aQ b.fl x=v:=⟨_,rfl⟩;refine(nC _ _ _ p _ _ _ _ _ a.hf a.ht a.hnf a.hnt).mono ?_;rintro e m ⟨rfl,c⟩;have H:aG w m:=aE o c;have l:=btq c n;have r:=a.zL c;clear B n c o a;cases Q with
 |false=>
  go_wp2_with fail;go_ret;exact⟨aF (by rw[F.oQ,EF,←G.oQ,p];rfl),H⟩
 |true=>
 have O:m.cell? (ya w 0)=some (I b.now):=aB l rfl;have B:m.cell? (ya w 1)=some (fs b):=aB l rfl;have P:m.cell? (ya w 2)=some (hs b):=aB l rfl;go_wp2_with fail;refine(uA b nm x _ _ _ r).mono ?_;rintro e R ⟨rfl,s⟩;have L:aG w R:=aE H s;clear O B P l;go_wp2_with fail;go_ret;exact⟨aF (by rw[F.oQ,EF,←G.oQ,p];rfl),L⟩
theorem tE (b:Bk)(t:List Bx)(ta:Oa)(q:Nat)(a:Int)(w:Wd)(ha:rA w b t ta):
 aW 134 #[b.val,.slice ta (ln t) q,I a] w λe w'=>e=rt (.bool (dE b t a))/\aG w w':=by
 obtain⟨V,k⟩:=bQ (dE b t a);rw[←k];have i:=aI k;clear k;have c:aG w (w.alloc (bo b)):=aC (br _ _) _;have l:=wnq w (bo b);go_enter func134,ntmps134;go_wp2_with fail;obtain⟨r,h⟩:∃v,aO b=v:=⟨_,rfl⟩;refine(vZ (ha.zL c) _ h).mono ?_;rintro e o ⟨rfl,d⟩;have f:aG w o:=aE c d;have m:=btq d l;clear l d c;cases r with
 |false=>
  go_wp2_with fail;go_ret;exact⟨aF (by rw[i.oQ,dE,h];simp),f⟩
 |true=>
 have p:o.cell? (ya w 1)=some (fs b):=aB m rfl;go_wp2_with fail;obtain⟨s,j⟩:∃v,aQ b.fl t=v:=⟨_,rfl⟩;refine(nC _ _ _ j _ _ _ _ _ (ha.hf.zL f) (ha.ht.zL f) ha.hnf ha.hnt).mono ?_;rintro e u ⟨rfl,g⟩;have n:aG w u:=aE f g;clear p m g f;cases s with
 |false=>
  go_wp2_with fail;go_ret;exact⟨aF (by rw[i.oQ,dE,h,j];simp),n⟩
 |true=>
 go_wp2_with fail;refine(eM _ _ _ _).mono ?_;rintro e w5 ⟨rfl,rfl⟩;go_wp2_with fail;go_ret;exact⟨aF (by rw[i.oQ,dE,h,j];simp[fQ]),n⟩
def eG (b:Bk)(nm:ByteArray)(t:List Bx)(most:Int)(o:Option Int):Prop:=(dE b t most=true->EE most (lF b nm t) o)/\(dE b t most=false->o=none)
theorem eG.no (h:dE n t a=false):eG n nm t a none:=⟨(λg=>by rw[h]at g;cases g),λ_=>rfl⟩
theorem eG.yes {o:Option Int}(h:dE n t a=true)(c:EE a (lF n nm t) o):eG n nm t a o:=⟨λ_=>c,λg=>by rw[h]at g;cases g⟩
theorem eG.uniq {o c:Option Int}(h:eG n nm t a o)(g:eG n nm t a c):o=c:=by
 cases e:dE n t a with
 |true=>exact SV (λ_ _ _=>Iff.rfl) (h.1 e) (g.1 e)
 |false=>rw[h.2 e,g.2 e]
theorem xD (b:Bk)(nm:Ba)(t:List Bx)(ta:Oa)(D:Nat)(a:Int)(w:Wd)(ha:rA w b t ta):
 aW 95 #[b.val,.string nm,.slice ta (ln t) D,I a] w λe w'=>(∃o,e=rt (eF o)/\eG b nm t a o)/\aG w w':=by
 have c:aG w (w.alloc (bo b)):=aC (br _ _) _;have F:=wnq w (bo b);obtain⟨M,k⟩:∃v,dE b t a=v:=⟨_,rfl⟩;go_enter func95,ntmps95;go_wp2_with fail;refine(tE b t ta D a _ (ha.zL c)).mono ?_;rintro e w1 ⟨rfl,f⟩;rw[k];cases M with
 |false=>
  go_wp2;refine bpr (v:=eF none) ?_ rfl ⟨⟨none,rfl,eG.no k⟩,aE c f⟩;simp[results,results95,go_sem,eF]
 |true=>
 have G:=aI k;simp only[dE,bat,dte]at k;obtain⟨⟨m0,m1⟩,p,j⟩:=k;go_wp2;obtain⟨W0,m⟩:=cI (w.alloc (bo b));rw[m]at F c f;clear m;go_loopw [10] (λi wr=>∃d:Int,0<=d/\d<=a+1/\i=I d/\aG W0 wr/\Hid (∀e,0<=e->e<d->lF b nm t e)) (λi _=>(a+1-intOf i).toNat);case atStart=>exact⟨0,ilr _,om,rfl,f,λe k l=>by omega⟩
 case round=>
  clear f;obtain⟨d,g,hd1,rfl,u,y⟩:=hrel;have z:aG w wr:=c.trans (u.mono c.size);have q:=btq u F;by_cases C:d<=a
  ·have J:wr.cell? (ya w 0)=some (I b.now):=aB q rfl;have K:wr.cell? (ya w 1)=some (fs b):=aB q rfl;have L:wr.cell? (ya w 2)=some (hs b):=aB q rfl;obtain⟨N,l⟩:∃v,EF b nm t d=v:=⟨_,rfl⟩;go_wp2_with fail;refine(FW b nm t ta D d _ (ha.zL z) j g om).mono ?_;rintro e w2 ⟨rfl,n⟩;rw[l];have x:=bI u (nlq _) n;have A:=aE z n;clear J K L;cases N with
   |true=>
    have r:Hid (EE a (lF b nm t) (some d)):=⟨g,C,(λh=>by have:=(zY p j g).1 h;rw[this]at l;exact absurd l sm),y.out⟩;go_wp2;refine bpr (v:=eF (some d)) ?_ rfl ⟨⟨some d,rfl,eG.yes G.oQ r.oQ⟩,A⟩;simp[results,results95,go_sem,eF]
   |false=>
    have B:lF b nm t d:=(zY p j g).2 l;go_wp2;go_roundw
    case rel=>exact⟨d+1,om,om,gn,x,λe s H=>by
     by_cases h:e=d;·rw[h];exact B
     ·exact y.out e s om⟩
    case measure=>simp[intOf];omega
  ·have r:Hid (EE a (lF b nm t) none):=λe s H=>y.out e s om;go_wp2;refine bpr (v:=eF none) ?_ rfl ⟨⟨none,rfl,eG.yes G.oQ r.oQ⟩,z⟩;simp[results,results95,go_sem,eF]
theorem yC (b:Bk)(nm:Ba)(t:List Bx)(ta:Oa)(C:Nat)(a:Int)(w:Wd)(ha:rA w b t ta):
 aW 87 #[b.val,.string nm,.slice ta (ln t) C,I a] w λe w'=>(∃o,e=rt (eF o)/\eG b nm t a o)/\aG w w':=by
 have f:aG w (w.alloc (bo b)):=aC (br _ _) _;have D:=wnq w (bo b);obtain⟨R,j⟩:∃v,dE b t a=v:=⟨_,rfl⟩;go_enter func87,ntmps87;go_wp2_with fail;refine(tL b t ta C a _ (ha.zL f)).mono ?_;rintro e w1 ⟨rfl,g⟩;rw[j];have p:=aE f g;have m:=btq g D;clear D f g;cases R with
 |false=>
  go_wp2;refine bpr (v:=eF none) ?_ rfl ⟨⟨none,rfl,eG.no j⟩,p⟩;simp[results,results87,go_sem,eF]
 |true=>
 have F:=aI j;simp only[dE,bat,dte]at j;obtain⟨⟨J,K⟩,A,B⟩:=j;have O:w1.cell? (ya w 0)=some (I b.now):=aB m rfl;have P:w1.cell? (ya w 1)=some (fs b):=aB m rfl;have Q:w1.cell? (ya w 2)=some (hs b):=aB m rfl;go_wp2_with fail;refine(tX b nm t ta C a J K _ (ha.zL p) A B).mono ?_;rintro e w2 ⟨⟨v,rfl,N,q,l,rfl,u,r,s⟩,y⟩;have u:=u.1;have L:=aE p y;clear O P Q m;go_wp2_with fail;refine(nN a _).mono ?_;rintro e w3 ⟨rfl,k⟩;have M:=aE L k;have x:=u.zL k;go_wp2_with fail;refine(TY a J K l N q _ x r).mono ?_;rintro e w4 ⟨⟨o,rfl,c⟩,z⟩;have H:=aE M z
 have G:Hid (EE a (lF b nm t) o):=by
  cases o with
  |none=>exact λe i n=>(s e i n).1 (c e i n)
  |some d=>exact⟨c.1,c.2.1,λh=>c.2.2.1 ((s d c.1 c.2.1).2 h),λe i n=>(s e i (by have:=c.2.1;omega)).1 (c.2.2.2 e i n)⟩
 cases o with
 |none=>
  unfold eF;go_wp2;refine bpr (v:=eF none) ?_ rfl ⟨⟨none,rfl,eG.yes F.oQ G.oQ⟩,H⟩;simp[results,results87,go_sem,eF]
 |some d=>
  unfold eF;go_wp2;refine bpr (v:=eF (some d)) ?_ rfl ⟨⟨some d,rfl,eG.yes F.oQ G.oQ⟩,H⟩;simp[results,results87,go_sem,eF]
variable {s m n:Nat}{v:Va}{l j:List Sp}{b:Bk}{e:TypeId}{i:List Va}{P:Int → Prop}{q:Sp}
theorem Tryz.info134:(Tryz.prog.info? 134).map (λi=>(i.zero,i.size,i.bytes))=some (some (.agg #[I 0,I 0]),2,16):=kr
def lI (w:World)(base:Nat)(v:Value)(l:List Sp):Prop:=
 (v=ms/\l=[])∨∃g cap,v=.slice (some (Y g 0)) l.length cap/\base<=g/\l.length<=cap/\gD 134 2 Sp.cells w g cap l l.length
theorem lI.of_owns {l:List Sp} (h:w.ownsRow s 134 2 v (ln l) (eX l)):lI w s v l:=by
 obtain⟨_,⟨n,q⟩|⟨g,d,a,n,o,p,k,_,m,r⟩⟩:=h;·exact Or.inl ⟨n,enl q⟩
 ·refine Or.inr ⟨g,d,n,o,k,λi=>a.getD i undef,⟨a,p,m,λi e=>by simp[m,e]⟩,λi e _ j u c=>?_⟩;have f:j<2:=(lgs.1 c).1;rw[←xI l i e j f,←r,ltg om,Array.getElem?_toList]at c;have b:i*2+j<a.size:=by rw[m];omega
  simp only[age b,Option.some.injEq]at c;simp[b,c]
theorem lI.zL {w w':Wd}(h:lI w s v l)(f:aG w w'):lI w' s v l:=by
 rcases h with h|⟨g,a,b,c,d,e⟩;·exact Or.inl h
 ·exact Or.inr ⟨g,a,b,c,d,e.zL f⟩
theorem lI.weak {base base':Nat}(h:lI w base v l)(f:base'<=base):lI w base' v l:=by
 rcases h with h|⟨g,a,b,c,d,e⟩;·exact Or.inl h
 ·exact Or.inr ⟨g,a,b,nlt f c,d,e⟩
theorem lI.xs (h:lI w s v l):∃b a,v=.slice b (ln l) a/\Xs 2 Sp.cells w b l:=by
 rcases h with⟨h,rfl⟩|⟨g,a,c,h2,d,e⟩;·exact⟨none,0,h,Or.inl rfl⟩
 ·exact⟨_,a,c,e.xs (λ_=>rfl) (nlq _) d⟩
def eV (b:Bk)(nm:ByteArray)(t:List Bx)(most:Int)(l:List Sp):Prop:=(dE b t most=true->DM most l/\∀d,0<=d->d<=most->(i8 l d↔lF b nm t d))/\(dE b t most=false->l=[])
theorem eV.uniq (h:eV b nm t a l)(g:eV b nm t a j):l=j:=by
 cases e:dE b t a with
 |false=>rw[h.2 e,g.2 e]
 |true=>
  obtain⟨n,p⟩:=h.1 e;obtain⟨m,o⟩:=g.1 e;refine DO l j n.c m.c λd=>?_;by_cases f:0<=d/\d<=a;·rw[p d f.1 f.2,o d f.1 f.2]
  ·constructor;·rintro⟨s,i,k⟩;have:=n.b s i;omega
   ·rintro⟨s,i,k⟩;have:=m.b s i;omega
theorem eV.no (h:dE b t a=false):eV b nm t a []:=⟨(λg=>by rw[h]at g;cases g),λ_=>rfl⟩
theorem eV.yes (h:dE b t a=true)(c:DM a l)(e:∀d,0<=d->d<=a->(i8 l d↔lF b nm t d)):eV b nm t a l:=⟨λ_=>⟨c,e⟩,λg=>by rw[h]at g;cases g⟩
theorem eV.len (h:eV b nm t a l):ln l<=301:=by
 cases e:dE b t a with
 |false=>rw[h.2 e];simp
 |true=>
  have:=(h.1 e).1;simp only[dE,bat,dte]at e;exact this.len e.1.2
abbrev Sp.obj2 (s:Sp):Obj:=.cells #[I s.lo,I s.hi] 134
theorem I3 (W:Wd)(g:Nat)(b:g=W.heap.size)(s:Sp):∀j u,(s.cells)[j]?=some u->(W.alloc s.obj2).cell? (((Y g 0):Addr).add j)=some u:=by
 subst b;intro j u a;match j,a with
 |0,a=>simp[Sp.cells]at a;subst a;simp[Addr.add]
 |1,a=>simp[Sp.cells]at a;subst a;simp[Addr.add]
 |n+2,a=>simp[Sp.cells]at a
theorem vR (h:w.ownsRow s e m v n i):∀k,v.ownBlock=some k->s<=k:=λk a=>(h.lt k a).1
theorem GT (b:Bk)(nm:Ba)(t:List Bx)(ta:Oa)(P:Nat)(c:Int)(w:Wd)(ha:rA w b t ta):
 aW 85 #[b.val,.string nm,.slice ta (ln t) P,I c] w λe w'=>(∃v l,e=rt v/\lI w' w.heap.size v l/\eV b nm t c l)/\aG w w':=by
 obtain⟨i0,hi,M,N,O⟩:=info_parts Tryz.info134;have g:aG w (w.alloc (bo b)):=aC (br _ _) _;have Q:=wnq w (bo b);obtain⟨v1,q⟩:∃v,dE b t c=v:=⟨_,rfl⟩
 go_enter Tryz.func85,Tryz.ntmps85
 go_wp2_with fail
 refine(tL b t ta P c _ (ha.zL g)).mono ?_;rintro e w1 ⟨rfl,j⟩;rw[q];have B:=aE g j;have A:=btq j Q;clear Q g j
 cases v1 with
 |false=>
  go_wp2
  go_ret;exact⟨⟨_,[],rfl,.inl ⟨rfl,rfl⟩,eV.no q⟩,B⟩
 |true=>
 have W:=aI q;simp only[dE,bat,dte]at q;obtain⟨⟨m0,U⟩,H,L⟩:=q;have k0:w1.cell? (ya w 0)=some (I b.now):=aB A rfl;have k1:w1.cell? (ya w 1)=some (fs b):=aB A rfl;have k2:w1.cell? (ya w 2)=some (hs b):=aB A rfl;go_wp2_with fail
 refine(tX b nm t ta P c m0 U _ (ha.zL B) H L).mono ?_;rintro e p ⟨⟨v,rfl,ao,cap,l,rfl,D,y,Z⟩,G⟩;have D:=D.1;have R:=aE B G;have hln:ln l<=301:=y.len U;clear k0 k1 k2 A;go_wp2
 go_loopw [9,23] (λv i wr=>∃k:Nat,k<=ln l/\i=I k/\wr.ownsRow p.heap.size 134 2 v (ln (l.take k)) (eX (l.take k))/\aG p wr) (λ_ i _=>ln l-(intOf i).toNat)
 case atStart=>exact⟨0,nz _,rfl,won _ _ _ _,br _ _⟩
 case round=>
  obtain⟨k,hk,rfl,a,r⟩:=hrel
  by_cases m:k<ln l
  ·rcases D with h|⟨bl,off,rfl,S⟩
   ·subst h;simp at m
   have z:=(S k m).zL r;have K:ln (l.take k)=k:=by simp;omega
   obtain⟨s,o⟩:=bQ (l[k]);rw[←o]at z;have X:Hid (l.take (k+1)=l.take k++[s]):=by rw[Hid,tsa m,o]
   clear o S;obtain⟨c0,c1⟩:=JP z;have hwz:=r.size;have x:aG p ((wr.alloc s.obj).alloc s.obj2):=aC (aC r _) _
   go_wp2_with (at_builtin;refine wpList_append_own_at _ rfl (.tmp 27) (.tmp 29) 131 rfl p.heap.size 134 i0 _ 2 16 Tryz.underlying131 hi M N O rfl dz _ _ _ rfl ((a.alloc _).alloc _) (Y (wr.heap.size+1) 0) 1 1 s.cells rfl rfl ?qc1 ?qc2 ?qc3 ?qc4 ?qc5 ?_)
   case qc1=>first|exact λ_ _ h=>h|exact I3 _ _ sm s
   case qc2=>intro u T;simp[Sp.cells]at T;rcases T with rfl|rfl<;>rfl
   case qc3=>unfold maxLen;omega
   case qc4=>omega
   case qc5=>simp;omega
   intro v' V f d _ F;have C:aG p V:=x.grown d so (vR a);have n:V.ownsRow p.heap.size 134 2 v' (ln (l.take (k+1))) (eX (l.take (k+1))):=by rw[X.oQ,fI,lla,K];simpa[eX]using f
   clear a f d F r x;go_wp2
   go_roundw
   case rel=>exact⟨k+1,om,gn,n,C⟩
   case measure=>simp[intOf];omega
  ·have J:l.take k=l:=ltl om
   rw[J]at a;go_wp2
   go_ret;exact⟨⟨_,l,rfl,(lI.of_owns a).weak R.size,eV.yes W.oQ y Z⟩,aE R r⟩
structure tU (P:Int->Prop)(l:List Sp)(d:Int):Prop where
 c:kZ l
 b:∀s∈l,0<=s.lo/\s.hi<d
 m:∀e,0<=e->e<d->(i8 l e↔P e)
theorem YI (P:Int->Prop):tU P [] 0:=⟨tC,sm,λe h1 h2=>by omega⟩
theorem tU.pass (h:tU P l d)(i:¬P d):tU P l (d+1):=
 ⟨h.c,λs a=>by have:=h.b s a;omega,λe f h2=>by
  by_cases j:e=d
  ·subst j;exact⟨λ⟨s,a,g⟩=>by have:=h.b s a;omega,λg=>absurd g i⟩
  ·exact h.m e f om⟩
theorem tU.new (h:tU P l d)(a:0<=d)(i:P d)(k:∀s∈l,s.hi+1<d):tU P (l++[⟨d,d⟩]) (d+1):=by
 refine⟨h.c.add (ilr _) k,λs n=>?_,λe f h2=>?_⟩
 ·rcases lma.1 n with g|g;·have:=h.b s g;omega
  ·simp at g;subst g;exact⟨a,by show d<d+1;omega⟩
 ·rw[eS,nT];by_cases j:e=d;·subst j;exact⟨λ_=>i,λ_=>.inr ⟨ilr _,ilr _⟩⟩
  ·rw[h.m e f om];constructor
   ·rintro(g|g);·exact g
    ·have g1:d<=e:=g.1;omega
   ·exact .inl
theorem tU.grow (h:tU P (l++[q]) d)(p:q.hi=d-1)(n:P d):tU P (l++[⟨q.lo,d⟩]) (d+1):=by
 obtain⟨k,hn,ha⟩:=h.c.snoc;have f:=h.b q sm;refine⟨k.add (by show q.lo<=d;omega) (λa m=>by have:=ha a m;unfold lD at*;exact this),λx hx=>?_,λe j h2=>?_⟩
 ·rcases lma.1 hx with g|g;·have:=h.b x (by simp[g]);omega
  ·simp at g;subst g;exact⟨f.1,by show d<d+1;omega⟩
 ·rw[eS,nT];by_cases o:e=d;·subst o;exact⟨λ_=>n,λ_=>.inr ⟨by show q.lo<=e;omega,ilr _⟩⟩
  ·have:=h.m e j om;rw[eS,nT]at this;rw[←this];show(i8 l e∨(q.lo<=e/\e<=d))↔_;have i:(q.lo<=e/\e<=d)↔(q.lo<=e/\e<=q.hi):=om;rw[i]
theorem tU.len (h:tU P l d)(hd:d<=301):ln l<=301:=by
 have:=kV l 0 300 h.c (λs a=>by have:=h.b s a;omega);omega
end Go.Proofs.YtoolgmmljacfmaaGreatDoor
namespace Go.Proofs.YtoolgmmljacfmaaGreatDoor
open Go.Shelf
attribute [local go_sem] Oper.semAt_some
variable {t sz n:Nat}{v:Va}{w:Wd}{e:TypeId}{xs:List Va}
def bW {α:Type}(t sz:Nat)(c:α->List Value)(w:World)(base:Nat)(v:Value)(l:List α):Prop:=
 (v=ms/\l=[])∨∃g cap,v=.slice (some (Y g 0)) l.length cap/\base<=g/\l.length<=cap/\gD t sz c w g cap l l.length
theorem bW.zL {α:Type}{c:α->List Va}{w w':Wd}{l:List α}(h:bW t sz c w n v l)(i:aG w w'):bW t sz c w' n v l:=by
 rcases h with h|⟨g,a,b,d,e,f⟩;·exact Or.inl h
 ·exact Or.inr ⟨g,a,b,d,e,f.zL i⟩
theorem bW.slice {α:Type}{c:α->List Va}{l:List α}(h:bW t sz c w n v l):∃b a,v=.slice b (ln l) a:=by
 rcases h with⟨h,rfl⟩|⟨g,a,d,h2,h3,h4⟩;·exact⟨none,0,h⟩
 ·exact⟨_,_,d⟩
theorem iP {α:Type}{c:α->List Va}(h:∀a,∀u∈c a,u.oneCell'=true)(l:List α):∀u∈aJ c l,u.oneCell'=true:=by
 intro u b;obtain⟨a,_,ha⟩:=List.mem_flatMap.1 b;exact h a u ha
theorem oK (f:Fx):∀u∈f.cells,u.oneCell'=true:=by
 intro u a;simp[Fx.cells]at a;rcases a with rfl|rfl|rfl<;>rfl
theorem lQ (f:Hx):∀u∈f.cells,u.oneCell'=true:=by
 intro u a;simp[Hx.cells]at a;rcases a with rfl|rfl|rfl<;>rfl
theorem uL (l:List Bx)(g:Oa)(f:Nat)(w:Wd)(o:jG w g l)(hn:ln l<=1048576):
 aW 163 #[.slice g (ln l) f] w λe w'=>(∃v,e=rt v/\aN w' w.heap.size v l)/\aG w w':=by
 obtain⟨A,x,i,k,m⟩:=info_parts Tryz.info91
 cases g with
 |none=>
  have y:l=[]:=by
   rcases o with h|⟨r,n,e,_⟩
   ·exact h
   ·cases e
  subst y
  go_enter func163,ntmps163
  go_wp2
  go_ret;exact⟨⟨_,rfl,.inl ⟨rfl,rfl⟩⟩,br _ _⟩
 |some ad=>
  have d:∀j u,(fG l)[j]?=some u->w.cell? (ad.add j)=some u:=by
   rcases o with h|⟨r,n,e,t⟩
   ·rw[h];intro j u h;simp[fG]at h
   ·cases e;exact CM t
  have c:w.ownsRow w.heap.size 91 6 (ms) 0 []:=won w w.heap.size 91 6
  go_enter func163,ntmps163
  go_wp2_with (at_builtin;refine wpList_append_own _ rfl (.const (ms)) (.tmp 3) 41 rfl w.heap.size 91 A _ 6 48 underlying41 x i k m rfl dz _ _ _ rfl c ad (ln l) f (fG l) rfl (mR l) d (CX l) ?qc3 ?qc4 ?qc5 ?_)
  case qc3=>unfold maxLen;omega
  case qc4=>omega
  case qc5=>simp
  intro B w1 b a _;have s:aG w w1:=(br w.heap.size w).grown a (nlq _) (λq z=>by simp[Value.ownBlock]at z);have p:Hid (aN w1 w.heap.size B l):=aN.of_owns (by simpa using b);clear b a c;go_wp2
  go_ret;exact⟨⟨_,rfl,p.oQ⟩,s⟩
def nQ (v:Value):Prop:=∀a n c,v=.slice a n c->c<=maxLen
theorem FD:nQ (ms):=λa n c e=>by cases e;unfold maxLen;omega
theorem jY (h:w.ownsRow t e sz v n xs):nQ v:=λa m c e=>by
 obtain⟨_,⟨rfl,_⟩|⟨g,cap,cur,rfl,_,_,_,b,_⟩⟩:=h;·cases e;unfold maxLen;omega
 ·cases e;exact b
theorem AJ (l:List Fx)(i:Oa)(f:Nat)(w:Wd)(p:Xs 3 Fx.cells w i l)(hn:ln l<=1048576):
 aW 74 #[.slice i (ln l) f] w λe w'=>(∃v,e=rt v/\bW 34 3 Fx.cells w' w.heap.size v l/\nQ v)/\aG w w':=by
 obtain⟨B,y,k,m,n⟩:=info_parts Tryz.info34
 cases i with
 |none=>
  have z:l=[]:=by
   rcases p with h|⟨s,o,e,_⟩
   ·exact h
   ·cases e
  subst z
  go_enter func74,ntmps74
  go_wp2
  go_ret;exact⟨⟨_,rfl,.inl ⟨rfl,rfl⟩,FD⟩,br _ _⟩
 |some ad=>
  have d:∀j u,(aJ Fx.cells l)[j]?=some u->w.cell? (ad.add j)=some u:=by
   rcases p with h|⟨s,o,e,x⟩
   ·rw[h];intro j u h;simp[aJ]at h
   ·cases e;exact nA Fx.cells_length dz x
  have c:w.ownsRow w.heap.size 34 3 (ms) 0 []:=won w w.heap.size 34 3
  go_enter func74,ntmps74
  go_wp2_with (at_builtin;refine wpList_append_own _ rfl (.const (ms)) (.tmp 3) 28 rfl w.heap.size 34 B _ 3 32 underlying28 y k m n rfl dz _ _ _ rfl c ad (ln l) f (aJ Fx.cells l) rfl (cP Fx.cells_length l) d (iP oK l) ?qc3 ?qc4 ?qc5 ?_)
  case qc3=>unfold maxLen;omega
  case qc4=>omega
  case qc5=>simp
  intro C w1 a b _;have t:aG w w1:=(br w.heap.size w).grown b (nlq _) (λq A=>by simp[Value.ownBlock]at A);have g:=aI (jY a);have r:Hid (bW 34 3 Fx.cells w1 w.heap.size C l):=iV Fx.cells_length (by simpa using a);clear a b c;go_wp2
  go_ret;exact⟨⟨_,rfl,r.oQ,g.oQ⟩,t⟩
theorem PR (l:List Hx)(i:Oa)(f:Nat)(w:Wd)(p:Xs 3 Hx.cells w i l)(hn:ln l<=1048576):
 aW 251 #[.slice i (ln l) f] w λe w'=>(∃v,e=rt v/\bW 74 3 Hx.cells w' w.heap.size v l/\nQ v)/\aG w w':=by
 obtain⟨B,y,k,m,n⟩:=info_parts Tryz.info74
 cases i with
 |none=>
  have z:l=[]:=by
   rcases p with h|⟨s,o,e,_⟩
   ·exact h
   ·cases e
  subst z
  go_enter func251,ntmps251
  go_wp2
  go_ret;exact⟨⟨_,rfl,.inl ⟨rfl,rfl⟩,FD⟩,br _ _⟩
 |some ad=>
  have d:∀j u,(aJ Hx.cells l)[j]?=some u->w.cell? (ad.add j)=some u:=by
   rcases p with h|⟨s,o,e,x⟩
   ·rw[h];intro j u h;simp[aJ]at h
   ·cases e;exact nA Hx.cells_length dz x
  have c:w.ownsRow w.heap.size 74 3 (ms) 0 []:=won w w.heap.size 74 3
  go_enter func251,ntmps251
  go_wp2_with (at_builtin;refine wpList_append_own _ rfl (.const (ms)) (.tmp 3) 30 rfl w.heap.size 74 B _ 3 64 underlying30 y k m n rfl dz _ _ _ rfl c ad (ln l) f (aJ Hx.cells l) rfl (cP Hx.cells_length l) d (iP lQ l) ?qc3 ?qc4 ?qc5 ?_)
  case qc3=>unfold maxLen;omega
  case qc4=>omega
  case qc5=>simp
  intro C w1 a b _;have t:aG w w1:=(br w.heap.size w).grown b (nlq _) (λq A=>by simp[Value.ownBlock]at A);have g:=aI (jY a);have r:Hid (bW 74 3 Hx.cells w1 w.heap.size C l):=iV Hx.cells_length (by simpa using a);clear a b c;go_wp2
  go_ret;exact⟨⟨_,rfl,r.oQ,g.oQ⟩,t⟩
end Go.Proofs.YtoolgmmljacfmaaGreatDoor
namespace Go.Proofs.YtoolgmmljacfmaaGreatDoor
variable {l m:List Hx}{a b c d:Hx}
theorem aT.map {β:Type}(h:aT l m)(f:Hx->β)(d:∀a b:Hx,a.Like b->f a=f b):l.map f=m.map f:=
 List.ext_getElem (by simp[h.len]) (λi c h2=>by simp only[List.getElem_map];exact d _ _ (h.like i (by simpa using c)))
theorem BA {α:Type}(nm:α->Ba):∀l:List α,kR nm l=kR (λx=>x) (l.map nm)
 |[]=>rfl
 |[_]=>rfl
 |a::b::r=>by simp only[kR,List.map_cons];rw[BA nm (b::r)];rfl
theorem KC (h:aT l m):bX Hx.n l=bX Hx.n m:=by
 have e:=h.map Hx.n (λ_ _ g=>g.n);have b:=h.map (λx=>cO x.n) (λ_ _ g=>by rw[g.n]);rw[bX,bX,BA,BA Hx.n m,e];congr 1;have a:∀l:List Hx,(l.all λx=>cO x.n)=(l.map (λx=>cO x.n)).all (λx=>x):=λl=>by rw[List.all_map];rfl
 rw[a l,a m,b]
theorem QT (h:aT l m)(b:List Fx)(a:Int):l.all (cK b a)=m.all (cK b a):=by
 have e:=h.map (cK b a) (λ_ _ g=>by rw[cK,cK,g.t,g.x]);have c:∀l:List Hx,l.all (cK b a)=(l.map (cK b a)).all (λx=>x):=λl=>by rw[List.all_map];rfl
 rw[c l,c m,e]
theorem BF (h:a.Like b)(g:c.Like d):cJ a c=cJ b d:=by rw[cJ,cJ,h.t,h.x,g.t,g.x]
theorem QO (h:aT l m):gO l (ln l)=gO m (ln m):=by
 rw[beii,sQ l _ (nlq _),sQ m _ (nlq _)];have hl:=h.len;constructor
 ·intro g i j b c a;rw[←BF (h.like i om) (h.like j om)];exact g i j om om a
 ·intro g i j b c a;rw[BF (h.like i om) (h.like j om)];exact g i j om om a
theorem aT.trans {l m n:List Hx}(h:aT l m)(g:aT m n):aT l n:=⟨g.len.trans h.len,λk b=>by
 have a:=h.like k b;have c:=g.like k (by have:=h.len;omega);exact⟨a.n.trans c.n,a.t.trans c.t,a.x.trans c.x⟩⟩
variable {w w':Wd}{k:Nat}{o:Obj}
def E8 (b b2:Bk)(j:Nat)(v:Value)(w:World):Prop:=
 match j with
 |0=>v=b2.val
 |1=>v=b.val
 |2=>∃b3:Bk,v=b3.val/\Copied w b b3
 |3=>v=.bool true
 |_=>True
theorem bJ (h:w.heap[k]?=some o)(a:aG w w'):w'.heap[k]?=some o:=btq a h
theorem bF {S:Nat->Prop}(h:w.heap[k]?=some o)(a:aU S w w')(b:¬S k):w'.heap[k]?=some o:=(a.block _ (cE h) b).trans h
end Go.Proofs.YtoolgmmljacfmaaGreatDoor
namespace Go.Proofs.YtoolgmmljacfmaaGreatDoor
open Go.Shelf
attribute [local go_sem] Oper.semAt_some
variable {w w0:Wd}{b c d j k sz n y t z t' D:Nat}{f g:Nat → Va}{a:Array Va}{o:Obj}{v A B:Va}{l u C:Bk}{m x:List Bx}{i e W T:Oa}{h r s F:Hx}{p q L:List Hx}{H:Int}{J:List Fx}{S:Nat → Prop}
theorem lB (h:w.rowIs b c j f)(i:w.rowIs b d k g):c=d:=by
 obtain⟨c1,e,_⟩:=h;obtain⟨c2,a,_⟩:=i;rw[e]at a;cases a;rfl
theorem aP (h:w.heap[b]?=some (.cells a c))(j:Nat)(y:Va):(w.setCell (Y b j) y).heap[b]?=some (.cells (a.setIfInBounds j y) c):=by
 show(w.heap.modify _ _)[b]?=_;rw[Array.getElem?_modify,if_pos rfl,h];rfl
theorem bM (h:w.heap[k]?=some o){p:Addr}(a:k≠p.block)(y:Va):(w.setCell p y).heap[k]?=some o:=(bhs w p y k a).trans h
theorem bW.weak {α:Type}{c:α->List Va}{base base':Nat}{l:List α}(h:bW j k c w base v l)(hb:base'<=base):bW j k c w base' v l:=by
 rcases h with h|⟨g,a,b,h2,d⟩;·exact .inl h
 ·exact .inr ⟨g,a,b,om,d⟩
theorem bW.other {α:Type}{c:α->List Va}{l:List α}(h:bW k sz c w n v l){g:Nat}(hg:g<n)(o:Nat)(u:Va):bW k sz c (w.setCell (Y g o) u) n v l:=by
 rcases h with h|⟨d,b,e,f,i,j⟩;·exact .inl h
 ·exact .inr ⟨d,b,e,f,i,j.setOther (a:=(Y g o)) (by show d≠g;omega) u⟩
def C1 (B:Nat)(b:Bk)(Z:Nat)(j:Nat)(v:Value)(w:World):Prop:=
 match j with
 |0=>v=(E B 1)
 |1=>v=.slice b.fa b.fl.length b.fc
 |2=>bW 34 3 Fx.cells w Z v b.fl/\nQ v
 |3=>v=(E B 2)
 |4=>v=.slice b.ha b.hl.length b.hc
 |5=>bW 74 3 Hx.cells w Z v b.hl/\nQ v
 |6=>v=(E B 1)
 |_=>True
theorem C1.zL (j:Nat)(v:Va)(w w':Wd)(h:C1 c l d j v w)(a:aG w w'):C1 c l d j v w':=by
 unfold C1 at h ⊢;split
 all_goals first
  |exact h
  |exact bW.zL h a
  |exact⟨bW.zL h.1 a,h.2⟩
  |trivial
theorem aN.blkLt (h:aN w c v m){q:Nat}(a:v.ownBlock=some q):q<w.heap.size:=by
 rcases h with⟨rfl,_⟩|⟨g,cap,rfl,h2,h3,f,b,_⟩;·simp[Value.ownBlock]at a
 ·simp[Value.ownBlock]at a;rw[←a];exact b.lt
theorem aN.blkGe (h:aN w c v m){q:Nat}(a:v.ownBlock=some q):c<=q:=by
 rcases h with⟨rfl,_⟩|⟨g,cap,rfl,b,h3,f,hr,_⟩;·simp[Value.ownBlock]at a
 ·simp[Value.ownBlock]at a;rw[←a];exact b
theorem aN.adr (h:aN w b (.slice i n c) m):(Value.slice i n c).ownBlock=i.map Addr.block:=by
 rcases h with⟨e,_⟩|⟨g,cap,e,_⟩;·cases e;rfl
 ·cases e;rfl
theorem aN.setRow (h:aN w sz v x)(q:w.rowIs y t n f)(r:t≠91)(o:Nat)(u:Va):aN (w.setCell (Y y o) u) sz v x:=by
 rcases h with h|⟨d,c,k,m,p,j,b,s⟩;·exact .inl h
 ·refine .inr ⟨d,c,k,m,p,j,b.setOther (a:=(Y y o)) (λe=>r ?_) u,s⟩;have i:d=y:=e;subst i;exact lB q b
theorem fF.setRow (a:fF d w h)(b:w.rowIs j t n f)(c:t≠91)(o:Nat)(u:Va):fF d (w.setCell (Y j o) u) h:=⟨a.t.setRow b c o u,a.n.setRow b c o u⟩
theorem bW.setRow {α:Type}{c:α->List Va}{l:List α}(h:bW t sz c w y v l)(r:w.rowIs z t' n f)(s:t'≠t)(o:Nat)(u:Va):bW t sz c (w.setCell (Y z o) u) y v l:=by
 rcases h with h|⟨i,d,m,p,q,k,b,x⟩;·exact .inl h
 ·refine .inr ⟨i,d,m,p,q,k,b.setOther (a:=(Y z o)) (λe=>s ?_) u,x⟩;have j:i=z:=e;subst j;exact lB r b
theorem fF.bs_in (b:fF z w h):∀q∈h.bs,z<=q/\q<w.heap.size:=by
 intro q c;simp only[Hx.bs,lma,Option.mem_toList,Option.map_eq_some_iff]at c;rcases c with⟨a,ha,rfl⟩|⟨a,ha,rfl⟩
 ·have e:(Value.slice h.ta (ln h.tl) h.tc).ownBlock=some a.block:=by rw[b.t.adr,ha];rfl
  exact⟨b.t.blkGe e,b.t.blkLt e⟩
 ·have e:(Value.slice h.na (ln h.nl) h.nc).ownBlock=some a.block:=by rw[b.n.adr,ha];rfl
  exact⟨b.n.blkGe e,b.n.blkLt e⟩
theorem aT.snoc (h:aT p q)(g:r.Like s):aT (p++[r]) (q++[s]):=by
 refine⟨by simp[h.len],λk d=>?_⟩;by_cases e:k<ln p
 ·rw[List.getElem_append_left e,List.getElem_append_left (by rw[h.len];exact e)];exact h.like k e
 ·have c:k=ln p:=by simp at d;omega
  subst c;rw[List.getElem_append_right (nlq _),List.getElem_append_right (by rw[h.len];exact nlq _)];simpa[h.len]using g
theorem gD.lists {h h':Hx} (m:w.rowIs sz 74 (k*3) (λi=>if i=j*3+2 then B else if i=j*3+1 then A else f i))
 (o:∀i (h:i<ln L),i<y->∀sz v,(L[i].cells)[sz]?=some v->f (i*3+sz)=v) (u:L[j]?=some h) (e:h'.cells=[.string h.n,A,B]):
 gD 74 3 Hx.cells w sz k (L.set j h') y:=by
 refine⟨_,m,λi t p c v d=>?_⟩;have g:i<ln L:=by simpa using t
 by_cases l:j=i
 ·subst l;rw[List.getElem_set_self,e]at d;have s:L[j]=h:=by have:=u;rw[lge g]at this;exact osi this
  match c,d with
  |0,d=>rw[if_neg om,if_neg om];exact o j g p 0 v (by rw[s];simpa[Hx.cells]using d)
  |1,d=>rw[if_neg om,if_pos rfl];simpa using d
  |2,d=>rw[if_pos rfl];simpa using d
 ·rw[List.getElem_set_ne l]at d;have hc3:c<3:=(lgs.1 d).1;rw[if_neg om,if_neg om];exact o i g p c v d
structure CpS (w:World)(b:Bk)(Z:Nat)(a2 a5:Option Addr)(c2 c5:Nat)(rs dn:List Hx)(wr:World):Prop where
 n:aG w wr
 z:Z<=wr.heap.size
 a:wr.heap[w.heap.size]?=some (.cells #[.int .i64 b.now,.slice a2 b.fl.length c2,.slice a5 b.hl.length c5] 32)
 r:wr.heap[w.heap.size+1]?=some (.cells #[.int .i64 0,.slice none 0 0,.slice none 0 0] 32)
 f:bW 34 3 Fx.cells wr Z (.slice a2 b.fl.length c2) b.fl
 h:bW 74 3 Hx.cells wr Z (.slice a5 b.hl.length c5) (dn++rs)
 t:∀x∈dn,fF Z wr x
 d:(dn.flatMap Hx.bs).Nodup
theorem CpS.zL {wr w':Wd}(h:CpS w u sz e W y j p q wr)(c:aG wr w'):CpS w u sz e W y j p q w':=
 ⟨aE h.n c,nlt h.z c.size,bJ h.a c,bJ h.r c,h.f.zL c,h.h.zL c,λx hx=>(h.t x hx).zL c,h.d⟩
theorem TD {b:Bk}{T s c:Oa}{g U F u j:Nat}{A l:List Hx}{x:Hx}(hZ:w.heap.size+1<sz)(S:CpS w b sz T (some (Y g 0)) U F (x::A) l w0)(P:sz<=g)(H:ln b.hl<=F)(hn:ln (l++x::A)=ln b.hl)
 (k:w0.rowIs g 74 (F*3) f)(hf:∀i (h:i<ln (l++x::A)),i<ln b.hl->∀q v,((l++x::A)[i].cells)[q]?=some v->f (i*3+q)=v)
 (O:aN w0 t' (.slice s (ln x.tl) u) x.tl)(B:aN w0 t' (.slice c (ln x.nl) j) x.nl)(J:∀q,(Value.slice s (ln x.tl) u).ownBlock=some q->(Value.slice c (ln x.nl) j).ownBlock≠some q)(G:sz<=t')(Q:∀q∈l.flatMap Hx.bs,q<t'):
 CpS w b sz T (some (Y g 0)) U F A (l++[⟨x.n,s,x.tl,u,c,x.nl,j⟩]) ((w0.setCell (Y g (ln l*3+1)) (.slice s (ln x.tl) u)).setCell (Y g (ln l*3+2)) (.slice c (ln x.nl) j)):=by
 have o:=k.set (ln l*3+1) (.slice s (ln x.tl) u);have R:=o.set (ln l*3+2) (.slice c (ln x.nl) j);have C:(74:Nat)≠91:=dz
 have X:(74:Nat)≠34:=dz
 refine⟨(S.n.setCell (p:=(Y g _)) (by show w.heap.size<=g;omega) _).setCell (p:=(Y g _)) (by show w.heap.size<=g;omega) _,by simpa using S.z,?_,?_,(S.f.setRow k X _ _).setRow o X _ _,?_,?_,?_⟩
 ·exact bM (bM S.a (p:=(Y g _)) (by show w.heap.size≠g;omega) _) (p:=(Y g _)) (by show w.heap.size≠g;omega) _
 ·exact bM (bM S.r (p:=(Y g _)) (by show w.heap.size+1≠g;omega) _) (p:=(Y g _)) (by show w.heap.size+1≠g;omega) _
 ·have V:(l++x::A).set (ln l) (⟨x.n,s,x.tl,u,c,x.nl,j⟩:Hx)=(l++[(⟨x.n,s,x.tl,u,c,x.nl,j⟩:Hx)])++A:=by
   rw[List.set_append_right _ _ (nlq _),nss];simp
  have m:ln ((l++[(⟨x.n,s,x.tl,u,c,x.nl,j⟩:Hx)])++A)=ln b.hl:=by rw[←V,List.length_set];exact hn
  refine .inr ⟨g,F,by rw[m],P,by rw[m];exact H,?_⟩;rw[m,←V];exact gD.lists (h:=x) R hf (by rw[lgr (nlq _),nss];rfl) rfl
 ·intro y N
  simp only[lma,lms]at N
  rcases N with N|rfl
  ·exact((S.t y N).setRow k C _ _).setRow o C _ _
  ·exact⟨((O.weak G).setRow k C _ _).setRow o C _ _,((B.weak G).setRow k C _ _).setRow o C _ _⟩
 ·rw[lfm,lnd]
  have K:fF t' w0 ⟨x.n,s,x.tl,u,c,x.nl,j⟩:=⟨O,B⟩;refine⟨S.d,?_,λq M r L e=>?_⟩
  ·simp only[lfc,List.flatMap_nil,List.append_nil,Hx.bs]
   rw[lnd];refine⟨by cases s<;>simp,by cases c<;>simp,λq M r L e=>?_⟩;subst e;rw[Option.mem_toList]at M L;have q1:=O.adr;have W:=B.adr;rw[M]at q1;rw[L]at W;exact J q q1 W
  ·subst e
   simp only[lfc,List.flatMap_nil,List.append_nil]at L;have h1:=Q q M;have h2:=(K.bs_in q L).1;omega
theorem fF.bs_row (d:fF z w h):∀q∈h.bs,∃n f,w.rowIs q 91 n f:=by
 intro q i;simp only[Hx.bs,lma,Option.mem_toList,Option.map_eq_some_iff]at i;rcases i with⟨a,ha,rfl⟩|⟨a,ha,rfl⟩
 ·rcases d.t with⟨e,_⟩|⟨g,b,e,_,_,f,c,_⟩;·rw[ha]at e;cases e
  ·rw[ha]at e;cases e;exact⟨_,f,c⟩
 ·rcases d.n with⟨e,_⟩|⟨g,b,e,_,_,f,c,_⟩;·rw[ha]at e;cases e
  ·rw[ha]at e;cases e;exact⟨_,f,c⟩
theorem bW.adr {α:Type}{c:α->List Va}{l:List α}(h:bW t sz c w k (.slice W n d) l):∀q∈(W.map Addr.block).toList,k<=q/\∃m f,w.rowIs q t m f:=by
 intro q b;rcases h with⟨e,_⟩|⟨g,cap,e,i,_,f,j,_⟩;·cases e;simp at b
 ·cases e;simp at b;subst b;exact⟨i,_,f,j⟩
theorem iE (a:Oa):((a.map Addr.block).toList).Nodup:=by cases a<;>simp
theorem WX (u:bW 34 3 Fx.cells w sz (.slice W (ln J) t') J)(j:bW 74 3 Hx.cells w sz (.slice T (ln L) D) L)(v:∀x∈L,fF sz w x)(G:(L.flatMap Hx.bs).Nodup):
 yS sz w ⟨H,W,J,t',T,L,D⟩:=by
 have d:∀q∈L.flatMap Hx.bs,sz<=q/\∃n f,w.rowIs q 91 n f:=λq b=>by
  obtain⟨y,F,b⟩:=List.mem_flatMap.1 b;exact⟨((v y F).bs_in q b).1,(v y F).bs_row q b⟩
 refine⟨?_,?_,v,?_,?_⟩
 ·rcases u with⟨_,e⟩|⟨g,m,e,p,s,t⟩;·exact .inl e
  ·cases e;exact .inr ⟨g,_,rfl,p,s,t⟩
 ·rcases j with⟨_,e⟩|⟨g,m,e,p,s,t⟩;·exact .inl e
  ·cases e;exact .inr ⟨g,_,rfl,p,s,t⟩
 ·rw[lnd,lnd];refine⟨iE _,⟨iE _,G,λq b r c e=>?_⟩,λq b r c e=>?_⟩
  ·subst e;obtain⟨_,_,_,l⟩:=j.adr q b;obtain⟨_,_,_,i⟩:=d q c;exact absurd (lB l i) dz
  ·subst e;obtain⟨_,_,_,l⟩:=u.adr q b;rcases lma.1 c with c|c
   ·obtain⟨_,_,_,i⟩:=j.adr q c;exact absurd (lB l i) dz
   ·obtain⟨_,_,_,i⟩:=d q c;exact absurd (lB l i) dz
 ·intro k a;rcases lma.1 a with a|a;·exact(u.adr k a).1
  ·rcases lma.1 a with a|a;·exact(j.adr k a).1
   ·exact(d k a).1
theorem fF.butHeld (h:fF z w s)(d:w.rowIs j 74 n f)(b:aU (λk=>k=j) w w0):fF z w0 s:=
 h.but b (λq c e=>by
  obtain⟨_,_,r⟩:=h.bs_row q c;have a:q=j:=e;subst a;exact absurd (lB d r) dz)
structure iI (z:Nat)(w:World)(b:Bk):Prop where
 f:bW 34 3 Fx.cells w z (.slice b.fa b.fl.length b.fc) b.fl
 h:bW 74 3 Hx.cells w z (.slice b.ha b.hl.length b.hc) b.hl
 t:∀x∈b.hl,fF z w x
 d:(b.hl.flatMap Hx.bs).Nodup
 c:b.hc<=maxLen
 cf:b.fc<=maxLen
theorem iI.ans (h:iI z w l):yS z w l:=WX h.f h.h h.t h.d
theorem bW.butRow {α:Type}{c:α->List Va}{l:List α}(h:bW t sz c w y v l)(m:aU S w w0)(o:∀k n f,y<=k->w.rowIs k t n f->¬S k):bW t sz c w0 y v l:=by
 rcases h with h|⟨g,a,e,d,i,f,b,j⟩;·exact .inl h
 ·exact .inr ⟨g,a,e,d,i,f,b.of_block (m.block _ b.lt (o g _ _ d b)),j⟩
theorem iI.but (h:iI z w l)(a:aU S w w0)(e:∀k,S k->k<z):iI z w0 l:=
 ⟨h.f.butRow a (λk _ _ i _ g=>by have:=e k g;omega),h.h.butRow a (λk _ _ i _ g=>by have:=e k g;omega),λx hx=>(h.t x hx).but a (λq j g=>by have:=e q g;have:=((h.t x hx).bs_in q j).1;omega),h.d,h.c,h.cf⟩
theorem iI.zL {w w':Wd}(h:iI z w l)(a:aG w w'):iI z w' l:=h.but (aU.below (S:=λ_=>False) a) (λ_ e=>e.elim)
theorem fF.weak {z z':Nat}(h:fF z w r)(a:z'<=z):fF z' w r:=⟨h.t.weak a,h.n.weak a⟩
theorem iI.weak {z z':Nat}(h:iI z w l)(a:z'<=z):iI z' w l:=⟨h.f.weak a,h.h.weak a,λx hx=>(h.t x hx).weak a,h.d,h.c,h.cf⟩
theorem iI.put (h:iI z w C) (ha:C.ha=some (Y sz 0)) (m:t'<ln C.hl) (l:aU (λk=>k=sz) w w0) (u:gD 74 3 Hx.cells w0 sz C.hc (C.hl.set t' F) (ln C.hl)) (hx:fF z w0 F) (x:((C.hl.set t' F).flatMap Hx.bs).Nodup):
 iI z w0 ⟨C.now,C.fa,C.fl,C.fc,C.ha,C.hl.set t' F,C.hc⟩:=by
 obtain⟨a,e,A,hc,f0,n,_⟩:∃a,C.hc=a/\z<=sz/\(ln C.hl)<=a/\gD 74 3 Hx.cells w sz a C.hl (ln C.hl):=by
  rcases h.h with⟨e,p⟩|⟨g',a,e,q,r,s⟩;·rw[p]at m;simp at m
  ·rw[ha]at e;cases e;exact⟨_,rfl,q,r,s⟩
 refine⟨h.f.butRow l (λk _ _ _ v e=>by have o:k=sz:=e;subst o;exact absurd (lB n v) dz),.inr ⟨sz,C.hc,by simp[ha],A,so,by simpa using u⟩,λy j=>?_,x,h.c,h.cf⟩;rcases List.mem_or_eq_of_mem_set j with j|rfl;·exact(h.t y j).butHeld n l
 ·exact hx
def C5 (B K g n k c5:Nat)(x:Hx)(Z:Nat)(j:Nat)(vs:Nat->Value)(w:World):Prop:=
 match j with
 |0=>vs 0=(E B 2)
 |1=>vs 1=.slice (some (Y g 0)) n c5
 |2=>vs 2=I (k:Int)
 |3=>vs 3=(E B 2)
 |4=>vs 4=.slice (some (Y g 0)) n c5
 |5=>vs 5=I (k:Int)
 |6=>vs 6=(E K 1)
 |7=>vs 7=.slice x.ta x.tl.length x.tc
 |8=>aN w Z (vs 8) x.tl
 |9=>vs 9=(E K 2)
 |10=>vs 10=.slice x.na x.nl.length x.nc
 |11=>aN w Z (vs 11) x.nl/\∀q,(vs 8).ownBlock=some q->(vs 11).ownBlock≠some q
 |_=>True
def dp5 (j:Nat):List Nat:=if j=11 then[11,8]else[j]
def fr5 (j:Nat):Bool:=j==3||j==4||j==5
def F5 (B g n k c5:Nat)(j:Nat)(v:Value):Prop:=
 match j with
 |3=>v=(E B 2)
 |4=>v=.slice (some (Y g 0)) n c5
 |5=>v=I (k:Int)
 |_=>True
theorem C5.zL (j:Nat)(c:Nat->Va)(w w':Wd)(h:C5 d sz y n k t r z j c w)(b:aG w w'):C5 d sz y n k t r z j c w':=by
 unfold C5 at h ⊢;split
 all_goals first
  |exact h
  |exact aN.zL h b
  |exact⟨aN.zL h.1 b,h.2⟩
  |trivial
theorem C5.loc (j:Nat)(d a:Nat->Va)(w:Wd)(b:∀q∈dp5 j,d q=a q)(h:C5 sz y t n k c r z j d w):C5 sz y t n k c r z j a w:=by
 unfold C5 at h ⊢;split at h
 all_goals first
  |(rw[←b _ (by simp[dp5])];exact h)
  |(rw[←b 11 (by simp[dp5]),←b 8 (by simp[dp5])];exact h)
  |trivial
theorem C5.free (j:Nat)(c:Nat->Va)(w:Wd)(b:fr5 j=true)(h:C5 d sz y n k t r z j c w):F5 d y n k t j (c j):=by
 simp[fr5]at b;rcases b with(rfl|rfl)|rfl<;>exact h
def GB5 (W4:World)(g n k c5:Nat)(x:Hx)(Z:Nat)(vs:Nat->Value)(w0:World):Prop:=
 aG W4 w0/\vs 1=.slice (some (Y g 0)) n c5/\vs 2=I (k:Int)/\aN w0 Z (vs 8) x.tl/\aN w0 Z (vs 11) x.nl/\∀q,(vs 8).ownBlock=some q->(vs 11).ownBlock≠some q
def G5 (W4:World)(g n k c5:Nat)(x:Hx)(Z:Nat)(t:Nat)(vs:Nat->Value)(w':World):Prop:=
 (13<=t->vs 12=(E g (k*3)))/\(14<=t->vs 13=(E g (k*3+1)))/\∃w0,GB5 W4 g n k c5 x Z vs w0/\w'=if t=15 then w0.setCell (Y g (k*3+1)) (vs 8)else w0
theorem QN (b:Bk)(w:Wd)(hf:Xs 3 Fx.cells w b.fa b.fl)(yw:ln b.fl<=1048576)(hh:Xs 3 Hx.cells w b.ha b.hl)(hnh:ln b.hl<=64)(hg:∀h∈b.hl,h.In w/\h.Fit):
 aW 200 #[b.val] w λe w'=>(∃b':Bk,e=rt b'.val/\b'.now=b.now/\b'.fl=b.fl/\aT b.hl b'.hl/\iI w.heap.size w' b')/\aG w w':=by
 have zw:aG w ((w.alloc b.obj).alloc (zo)):=aC (aC (br _ _) _) _;have A0:=(halq (w.alloc b.obj) (zo) w.heap.size sm).trans (wnq w b.obj);have R0:=wnq (w.alloc b.obj) (zo);rw[wsa]at R0
 go_enter Tryz.func200,Tryz.ntmps200
 go_wp2_with fail
 obtain⟨W0,yf⟩:=cI ((w.alloc b.obj).alloc (zo));rw[yf]at zw A0 R0 ⊢;have HA:Hid _:=A0;have HR:Hid _:=R0;have zj:w.heap.size<W0.heap.size:=(cE A0);have yl:w.heap.size+1<W0.heap.size:=(cE R0);clear yf A0 R0;refine pG 7 [some 5,some 6,some 7,some 8,some 9,some 10,some 11] (C1 w.heap.size b W0.heap.size) C1.zL ?step ?fin
 case step=>
  intro i o l w' zi s u L;have zb:=aE zw u;have A:=bJ HA.oQ u
  match i,zi with
  |0,_|3,_|6,_=>
   cases s
   gi_wp2;exact⟨_,uhx,rfl,br _ _⟩
  |1,_=>
   cases s
   have m:l 0=_:=Zq L 0;have k1:w'.cell? (ya w 1)=some (fs b):=aB A rfl;clear A;gi_wp2;exact⟨_,by simp[aH,m],rfl,br _ _⟩
  |2,_=>
   cases s
   have d1:l 1=_:=Zq L 1;clear A;simp only[aD,Act.put];rw[d1];gi_wp2_with fail
   refine tqx ?_;refine(cw.2 (AJ b.fl b.fa b.fc w' (hf.zL zb) yw)).mono ?_;rintro e w3 ⟨⟨v,rfl,B,H⟩,K⟩;have HP:Hid _:=B;have zn:Hid _:=H;clear B H;gi_wp2;exact⟨_,by simp[aH,d1],⟨bW.weak HP.oQ u.size,zn.oQ⟩,K⟩
  |4,_=>
   cases s
   have d3:l 3=_:=Zq L 3;have k2:w'.cell? (ya w 2)=some (hs b):=aB A rfl;clear A;gi_wp2;exact⟨_,by simp[aH,d3],rfl,br _ _⟩
  |5,_=>
   cases s
   have d4:l 4=_:=Zq L 4;clear A;simp only[aD,Act.put];rw[d4];gi_wp2_with fail
   refine tqx ?_;refine(cw.2 (PR b.hl b.ha b.hc w' (hh.zL zb) om)).mono ?_;rintro e w3 ⟨⟨v,rfl,B,H⟩,K⟩;have HP:Hid _:=B;have zn:Hid _:=H;clear B H;gi_wp2;exact⟨_,by simp[aH,d4],⟨bW.weak HP.oQ u.size,zn.oQ⟩,K⟩
  |j+7,h=>omega
 case fin=>
  intro l w' u J;have h2:bW 34 3 Fx.cells w' W0.heap.size (l 2) b.fl:=(J 2 dz).1;have zl:nQ (l 2):=(J 2 dz).2;have h5:bW 74 3 Hx.cells w' W0.heap.size (l 5) b.hl:=(J 5 dz).1;have H:nQ (l 5):=(J 5 dz).2;have d6:l 6=_:=J 6 dz;obtain⟨Z,U,e2⟩:=h2.slice;obtain⟨T,C,e5⟩:=h5.slice;rw[e2]at h2;rw[e5]at h5;have yn:Hid (C<=maxLen):=H _ _ _ e5;have ym:Hid (U<=maxLen):=zl _ _ _ e2;clear J H zl;simp only[lds,ldz,aD,Act.put];rw[e2,e5,d6];clear e2 e5 d6;generalize l 0=v0,l 1=v1,l 3=v3,l 4=v4;have A:=bJ HA.oQ u;have R:=bJ HR.oQ u;have k1:w'.cell? (ya w 1)=some (fs b):=aB A rfl;have k2:w'.cell? (ya w 2)=some (hs b):=aB A rfl;have kf:=jS A;have A2:=aP (aP A 1 (.slice Z (ln b.fl) U)) 2 (.slice T (ln b.hl) C);have R2:=bM (bM R (p:=(ya w 1)) sm (.slice Z (ln b.fl) U)) (p:=(ya w 2)) sm (.slice T (ln b.hl) C);have zu:=(h2.other (g:=w.heap.size) zj 1 (.slice Z (ln b.fl) U)).other (g:=w.heap.size) zj 2 (.slice T (ln b.hl) C);have zv:=(h5.other (g:=w.heap.size) zj 1 (.slice Z (ln b.fl) U)).other (g:=w.heap.size) zj 2 (.slice T (ln b.hl) C);have N1:=((aE zw u).setCell (p:=(ya w 1)) (nlq _) (.slice Z (ln b.fl) U)).setCell (p:=(ya w 2)) (nlq _) (.slice T (ln b.hl) C);clear h2 h5 A R;obtain⟨W1,zy⟩:=cI ((w'.setCell (ya w 1) (.slice Z (ln b.fl) U)).setCell (ya w 2) (.slice T (ln b.hl) C));rw[zy]at A2 R2 zu zv N1;have zm:=aI A2;have yd:Hid _:=R2;have j2:W1.cell? (ya w 2)=some (.slice T (ln b.hl) C):=aB zm.oQ rfl;have ys:=u.size;clear A2 R2 u HA HR;gi_wp2_with fail
  have yy:W0.heap.size<=W1.heap.size:=by
   rw[←zy];simp;exact ys
  clear zy k1 k2 kf;go_wp2_with fail
  go_loopw [16] (λi wr=>∃(m V P:List Hx),Hid (b.hl=m++V)/\Hid (aT m P)/\i=I (ln m:Int)/\CpS w b W0.heap.size Z T U C V P wr) (λi _=>ln b.hl-(intOf i).toNat)
  case atStart=>exact⟨[],b.hl,[],rfl,⟨rfl,λk h=>absurd h sm⟩,rfl,⟨N1,yy,zm.oQ,yd.oQ,zu,zv,λx h=>by simp at h,sm⟩⟩
  case round=>
   clear zm yd zu zv N1 j2;obtain⟨m,V,P,hm,M,rfl,N⟩:=hrel;have Q:ln b.hl=ln m+ln V:=by rw[hm.out];simp
   cases V with
   |cons x V=>
    have yv:ln m<ln b.hl:=by rw[Q];simp
    have hdl:ln m<=64:=om
    have yp:=aI Q;obtain⟨yk,yj⟩:=hg x (by rw[hm.out];simp)
    obtain⟨g,rfl,yu,yh,f,F,hf⟩:∃g,T=some (Y g 0)/\W0.heap.size<=g/\(ln b.hl)<=C/\gD 74 3 Hx.cells wr g C (P++x::V) (ln b.hl):=by
     have O:ln (P++x::V)=ln b.hl:=by have:=M.out.len;rw[Q];simp;omega
     rcases N.h with⟨_,e⟩|⟨g,cap,e,h1,h2,h3⟩
     ·simp at e
     ·rw[O]at e h2 h3
      cases e
      exact⟨g,rfl,h1,h2,h3⟩
    have zx:(P++x::V)[ln m]?=some x:=by rw[←M.out.len,lgr (nlq _),nss];rfl
    have zh:∀c v,(x.cells)[c]?=some v->f (ln m*3+c)=v:=λc v hc=>hf (ln m) (lgs.1 zx).1 yv c v (by rw[(lgs.1 zx).2];exact hc);have e0:=F.cell (i:=ln m*3) om;have e1:=F.cell (i:=ln m*3+1) om;have e2:=F.cell (i:=ln m*3+2) om;rw[show f (ln m*3)=.string x.n from zh 0 _ rfl]at e0;rw[show f (ln m*3+1)=(ts x)from zh 1 _ rfl]at e1;rw[show f (ln m*3+2)=(ns x)from zh 2 _ rfl]at e2;have HF:Hid _:=hf;have zc:aG wr (wr.alloc (ho x)):=aC (br _ _) _;have zp:Hid _:=wnq wr (ho x);have zq:Hid _:=N.zL zc;have ze:Hid _:=bJ N.a zc;have X:Hid _:=F.of_block (zc.block _ F.lt);have N4:=aE N.n zc
    have zk:Hid (∀q∈P.flatMap Hx.bs,q<(wr.alloc (ho x)).heap.size):=λq hq=>by
     obtain⟨y,hy,hq⟩:=List.mem_flatMap.1 hq;have:=((N.t y hy).bs_in q hq).2
     simp;omega
    obtain⟨W4,yg⟩:=cI (wr.alloc (ho x));rw[yg]at zp zq ze X N4 zk;clear hf F zh zx Q zc N;go_wp2_with fail
    clear yg e0 e1 e2;refine ZC 4 12 15 [some 21,some 22,some 23,some 24,some 25,some 26,some 27,some 28,some 29,some 30,some 31,some 32,some 33,some 34] fr5 dp5 (C5 w.heap.size wr.heap.size g (ln b.hl) (ln m) C x W4.heap.size) (F5 w.heap.size g (ln b.hl) (ln m) C) (G5 W4 g (ln b.hl) (ln m) C x W4.heap.size) C5.zL C5.loc C5.free ?step ?free ?g0 ?gf ?store ?fin
    case step=>
     intro i o l w' zi s u L;have zb:=aE N4 u
     match i,zi with
     |0,_|2,_|3,_|5,_|6,_|9,_=>
      cases s
      gi_wp2;exact⟨_,uhx,rfl,br _ _⟩
     |1,_=>
      cases s
      have m:l 0=_:=Zq L 0;have k2:w'.cell? (ya w 2)=some (sl g 0 (ln b.hl) C):=aB (bJ ze.oQ u) rfl;gi_wp2;exact⟨_,by simp[aH,m],rfl,br _ _⟩
     |4,_=>
      cases s
      have d3:l 3=_:=Zq L 3;have k2:w'.cell? (ya w 2)=some (sl g 0 (ln b.hl) C):=aB (bJ ze.oQ u) rfl;gi_wp2;exact⟨_,by simp[aH,d3],rfl,br _ _⟩
     |7,_=>
      cases s
      have d6:l 6=_:=Zq L 6;have k1:w'.cell? (ya wr 1)=some (ts x):=aB (bJ zp.oQ u) rfl;gi_wp2;exact⟨_,by simp[aH,d6],rfl,br _ _⟩
     |8,_=>
      cases s
      have d7:l 7=_:=Zq L 7;simp only[aD,Act.put];rw[d7];gi_wp2_with fail
      refine tqx ?_;refine(cw.2 (uL x.tl x.ta x.tc w' (yk.1.zL zb) yj.tn)).mono ?_;rintro e w3 ⟨⟨v,rfl,B⟩,K⟩;have HP:Hid _:=B;clear B;gi_wp2;exact⟨_,by simp[aH,d7],aN.weak HP.oQ u.size,K⟩
     |10,_=>
      cases s
      have d9:l 9=_:=Zq L 9;have k2:w'.cell? (ya wr 2)=some (ns x):=aB (bJ zp.oQ u) rfl;gi_wp2;exact⟨_,by simp[aH,d9],rfl,br _ _⟩
     |11,_=>
      cases s
      have ye:l 10=_:=Zq L 10;have h8:aN w' W4.heap.size (l 8) x.tl:=L { on:=8,ground:=Ground.chain} sm rfl;simp only[aD,Act.put];rw[ye];gi_wp2_with fail
      refine tqx ?_;refine(cw.2 (uL x.nl x.na x.nc w' (yk.2.zL zb) yj.nn)).mono ?_;rintro e w3 ⟨⟨v,rfl,B⟩,K⟩;have HP:Hid _:=B;clear B;gi_wp2;exact⟨_,by simp[aH,ye],⟨aN.weak HP.oQ u.size,λq hq yx=>Nat.lt_irrefl _ (nll (h8.blkLt hq) (aN.blkGe HP.oQ yx))⟩,K⟩
     |j+12,h=>omega
    case free=>
     intro i o l w' t zi zz s ht htM hG L
     have yb:i=3∨i=4∨i=5:=by
      simp[fr5]at zz;omega
     rcases yb with rfl|rfl|rfl
     ·simp at s
      subst s;gi_wp2;exact⟨_,uhx,rfl⟩
     ·simp at s
      subst s;have d3:l 3=_:=L (eD 3) sm rfl rfl
      have k2:w'.cell? (ya w 2)=some (sl g 0 (ln b.hl) C):=by
       obtain⟨_,_,w0,D,rfl⟩:=hG;have h0:=aB (j:=2) (v:=(sl g 0 (ln b.hl) C)) (bJ ze.oQ D.1) rfl
       split
       ·exact(World.cell?_setCell_other _ _ _ _ (λe=>absurd (congrArg Addr.block e) (by show g≠w.heap.size;omega))).trans h0
       ·exact h0
      simp only[aD,Act.put];rw[d3];clear hG;gi_wp2;exact⟨_,by simp[aH,d3],rfl⟩
     ·simp at s
      subst s;gi_wp2;exact⟨_,uhx,rfl⟩
    case g0=>
     intro l w' u J;exact⟨λh=>absurd h dz,λh=>absurd h dz,w',⟨u,J 1 dz rfl,J 2 dz rfl,J 8 dz rfl,(J 11 dz rfl).1,(J 11 dz rfl).2⟩,rfl⟩
    case gf=>
     intro t l w' i v zz hG
     have yb:i=3∨i=4∨i=5:=by
      simp[fr5]at zz;omega
     rcases yb with rfl|rfl|rfl<;>exact hG
    case store=>
     intro t o l w' h12 h15 s hG L;obtain⟨g1,g2,w0,D,G⟩:=hG;have ht:t=12∨t=13∨t=14:=om
     rcases ht with rfl|rfl|rfl
     ·simp at s
      subst s;rw[if_neg dz]at G;subst G;have HG:Hid _:=D;have d1:=D.2.1;have d2:=D.2.2.1;clear D g1 g2;gi_wp2;exact⟨_,by simp[aH,d1,d2],λ_=>rfl,λh=>absurd h dz,w',HG.oQ,rfl⟩
     ·simp at s
      subst s;rw[if_neg dz]at G;subst G;have HG:Hid _:=D;have za:=g1 dz;clear D g1 g2;gi_wp2;exact⟨_,by simp[aH,za],λ_=>za,λ_=>rfl,w',HG.oQ,rfl⟩
     ·simp at s
      subst s;rw[if_neg dz]at G;subst G;have HG:Hid _:=D;have za:=g1 dz;have zt:=g2 dz;obtain⟨u,d1,d2,h8,_,_⟩:=D;obtain⟨a8,c8,e8,_⟩:=h8.slice;have S:=World.rowIs.of_block X.oQ (u.block _ (World.rowIs.lt X.oQ));have cc:=S.cell (i:=ln m*3+1) om;have cf:=λi=>S.frozen i;clear h8 g1 g2 u;simp only[aD,Act.put];rw[zt,e8];gi_wp2;exact⟨undef,by simp[aH,zt,e8,d1,d2,za],λ_=>za,λ_=>zt,w',HG.oQ,by rw[if_pos rfl];show _=w'.setCell _ (l 8);rw[e8]⟩
    case fin=>
     intro l w' hG J;obtain⟨g1,g2,w0,⟨u,d1,d2,h8,zg,zd⟩,G⟩:=hG;rw[if_pos rfl]at G;subst G;have d4:l 4=_:=J 4 dz rfl;have d5:l 5=_:=J 5 dz rfl;obtain⟨a8,c8,e8,_⟩:=h8.slice;obtain⟨zr,zs,zf,_⟩:=zg.slice;rw[e8,zf]at zd;rw[e8]at h8;rw[zf]at zg;simp only[lds,ldz,aD,Act.put];rw[d4,d5,e8,zf];clear J g1 g2 d1 d2 d4 d5 e8 zf;generalize l 0=v0,l 1=v1,l 2=v2,l 3=v3,l 6=v6,l 7=v7,l 9=v9,l 10=v10,l 12=v12,l 13=v13;have S:=World.rowIs.of_block X.oQ (u.block _ (World.rowIs.lt X.oQ));have yc:=S.set (ln m*3+1) (.slice a8 (ln x.tl) c8);have cc:=yc.cell (i:=ln m*3+2) om;have cf:=λi=>yc.frozen i
     have HN:Hid (CpS w b W0.heap.size Z (some (Y g 0)) U C V (P++[⟨x.n,a8,x.tl,c8,zr,x.nl,zs⟩]) ((w0.setCell (Y g (ln m*3+1)) (.slice a8 (ln x.tl) c8)).setCell (Y g (ln m*3+2)) (.slice zr (ln x.nl) zs))):=by
      have:=TD yl (zq.oQ.zL u) yu yh (by have:=M.out.len;rw[yp.oQ];simp;omega) S HF.oQ h8 zg zd (zq.oQ.z) (λq hq=>zk.oQ q hq);rw[M.out.len]at this;exact this
     have yo:Hid (aT (m++[x]) (P++[⟨x.n,a8,x.tl,c8,zr,x.nl,zs⟩])):=M.out.snoc ⟨rfl,rfl,rfl⟩;have yq:Hid (b.hl=(m++[x])++V):=by rw[Hid,hm.out];simp
     clear S yc h8 zg zd;gi_wp2_with fail
     go_wp2
     go_roundw
     case rel=>exact⟨m++[x],V,_,yq,yo,sm,HN.oQ⟩
     case measure=>simp[intOf];omega
   |nil=>
    have hjn:ln b.hl<=ln m:=by simp at Q;omega
    have yi:b.hl=m:=by simpa using hm.out
    have HL:Hid (aT b.hl P):=by rw[Hid,yi];exact M.out
    obtain⟨k0,k1,k2⟩:=aM N.a;obtain⟨r0,r1,r2⟩:=aM N.r;have rf:=jS N.r;have W:Hid _:=N;clear Q yi hm M N;go_wp2_with fail
    have O:ln P=ln b.hl:=HL.oQ.len
    have hA:iI W0.heap.size wr ⟨b.now,Z,b.fl,U,T,P,C⟩:=by
     have h:=W.oQ.h;rw[List.append_nil]at h;exact⟨W.oQ.f,(by simp only;rw[O];exact h),W.oQ.t,W.oQ.d,yn.oQ,ym.oQ⟩
    have N:aU (λk=>k=w.heap.size+1) wr (((wr.setCell (Y (w.heap.size+1) 0) (I b.now)).setCell (Y (w.heap.size+1) 1) (.slice Z (ln b.fl) U)).setCell (Y (w.heap.size+1) 2) (.slice T (ln b.hl) C)):=(((aU.refl (λk=>k=w.heap.size+1) wr).set (g:=w.heap.size+1) rfl _ _).set (g:=w.heap.size+1) rfl _ _).set (g:=w.heap.size+1) rfl _ _;have yr:=(hA.but N (λk hk=>by rw[hk];exact yl)).weak (z':=w.heap.size) om;have yt:=N.under W.oQ.n (nlq _) (λk hk=>by rw[hk];omega);exact bpr (v:=Bk.val ⟨b.now,Z,b.fl,U,T,P,C⟩) (by simp[results,Tryz.results200,go_sem,r0,r1,r2,O]) rfl ⟨⟨_,rfl,rfl,rfl,HL.oQ,yr⟩,yt⟩
