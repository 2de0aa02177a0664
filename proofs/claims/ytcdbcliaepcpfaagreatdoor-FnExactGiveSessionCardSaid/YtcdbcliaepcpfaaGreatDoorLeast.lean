import Derived.Test.YtcdbcliaepcpfaaGreatDoorSpanLeaf
import Derived.Test.YtcdbcliaepcpfaaGreatDoorImplTube
import Derived.Test.YtcdbcliaepcpfaaGreatDoorAny
namespace Go.Proofs.YtcdbcliaepcpfaaGreatDoor
set_option maxRecDepth 100000
set_option maxHeartbeats 1000000
open Go.RowKit
def dI (t:List Bx):Sp:=⟨10000-(l9 t (t.length-1)).o+1,300⟩
theorem MD (t:List Bx)(ta:Option Addr)(p:Nat)(w:World)(n:jJ w ta t)(m:1<=t.length)(h2:t.length<=40)(f:t.all aK=true):
 aY 155 #[.slice ta t.length p] w λe w'=>e=.returned (dI t).val/\aF w w':=by
 rcases n with h|⟨k,off,rfl,i⟩;·subst h;simp at m
 have c:=i (t.length-1) (by omega);obtain⟨b,a⟩:=bP (l9 t (t.length-1));rw[←gE t (t.length-1) (by omega),←a]at c;have d:aK b=true:=by rw[a];exact rB f _
 have g:0<=b.o/\b.o<=10000:=by simp only[aK,dte]at d;omega
 obtain⟨o1,o2⟩:=g;have j:=aG a;clear a i;obtain⟨l,c1,c2,c3,c4,c5⟩:=c;have hbz:k<w.heap.size:=aA l;have e1:(t.length:Int)-1=((t.length-1:Nat):Int):=by omega
 have hq1:(0:Int)<=((t.length-1:Nat):Int):=by omega
 have hq2:((t.length-1:Nat):Int)<(t.length:Int):=by omega
 go_enter Tryz.func155,Tryz.ntmps155;go_wp2;refine bpr (v:=(dI t).val) ?_ rfl ⟨rfl,aB (aB (br _ _) _) _⟩;rw[dI,←j.oQ];simp[results,Tryz.results155,go_sem]
def dY:Option Int->Value
 |some d=>.tuple #[.int .i64 d,.bool true]
 |none=>.tuple #[.int .i64 0,.bool false]
theorem L6 (l:List Sp):IY l [] 0:=⟨Int.le_refl _,λe h1 h2=>by omega,qI _⟩
theorem IY.pass {l p:List Sp}{s:Sp}{d:Int}(h:IY l p d)(b:¬(s.lo<=d/\d<=s.hi)):IY l (p++[s]) d:=
 ⟨h.lo,h.all,λa=>by rw[eK,mX]at a;exact a.elim h.no b⟩
theorem IY.skip {l p:List Sp}{s:Sp}{d:Int}(h:IY l p d)(hs:s.lo<=d/\d<=s.hi)(i:s∈l)(c:∀a∈p,kF a s):IY l (p++[s]) (s.hi+1):=by
 refine⟨by have:=h.lo;omega,λe b h2=>?_,λg=>?_⟩
 ·by_cases f:e<d;·exact h.all e b f
  ·exact⟨s,i,by omega,by omega⟩
 ·rw[eK,mX]at g;rcases g with⟨a,ha,g⟩|g;·have:=c a ha;unfold kF at this;omega
  ·omega
theorem O6 (f:Int)(O:0<=f)(P:f<=300)(l:List Sp)(S:Option Addr)(J:Nat)(w:World)(hl:Xs 2 Sp.cells w S l)(M:uY f l):
 aY 110 #[.slice S l.length J,Sp.val ⟨0,f⟩] w λe w'=>(∃o,e=.returned (dY o)/\B9 f (gS l) o)/\aF w w':=by
 have hn:l.length<=301:=M.len P;have E:=wnq w (Sp.obj ⟨0,f⟩);have j:aF w (w.alloc (Sp.obj ⟨0,f⟩)):=aB (br _ _) _
 go_enter Tryz.func110,Tryz.ntmps110
 go_wp2
 obtain⟨Y,x⟩:=cK (w.alloc (Sp.obj ⟨0,f⟩));rw[x]at E j ⊢;clear x
 go_loopw [6,13] (λlv i wr=>∃(k:Nat) (d:Int),k<=l.length/\i=.int .i64 k/\lv=.int .i64 d/\d<=f/\aF Y wr/\Hid (IY l (l.take k) d)) (λ_ i _=>l.length-(intOf i).toNat)
 case atStart=>exact⟨0,0,nz _,rfl,rfl,O,br _ _,L6 l⟩
 case round=>
  obtain⟨k,d,hk,rfl,rfl,W,K,p⟩:=hrel;have U:aF w wr:=j.trans (K.mono j.size);have C:=(K.block _ (bU E)).trans E
  by_cases g:k<l.length
  ·rcases hl with h|⟨Z,off,rfl,V⟩
   ·subst h;simp at g
   have q:=(V k g).zL U;have z:=M.b l[k] (lgm g);have t:=lgm g
   have r:∀a∈l.take k,kF a l[k]:=by
    have:=M.c.sep.sublist (List.take_sublist (k+1) l);rw[List.take_succ_eq_append_getElem g]at this;exact λa ha=>(List.pairwise_append.1 this).2.2 a ha _ (by simp)
   have H:=aG (List.take_succ_eq_append_getElem g);obtain⟨s,A⟩:=bP (l[k]);rw[←A]at q z t r H;have G:Hid (s∈l/\∀a∈l.take k,kF a s):=⟨t,r⟩;clear A V t r;obtain⟨T,c1⟩:=DW q;obtain⟨sb0,sb1⟩:=z;clear q;have hbz:Z<wr.heap.size:=aA T;have hwz:w.heap.size<wr.heap.size:=(bU C);have I:=wnq wr s.obj;have y:aF wr (wr.alloc s.obj):=aB (br _ _) _;obtain⟨v1,u⟩:∃v,jK s d=v:=⟨_,rfl⟩;go_wp2_with fail
   refine(rM s d _).mono ?_;rintro e D ⟨rfl,m⟩;rw[u];have R:=(m.block _ (bU I)).trans I;have m:=aC y m;have X:=(m.block _ (bU C)).trans C;have n:=bL K (nlq _) m;have L:aF w D:=j.trans (n.mono j.size);clear T c1 I y C
   cases v1 with
   |false=>
    have Q:¬(s.lo<=d/\d<=s.hi):=by simpa only[jK,decide_eq_false_iff_not]using u
    go_wp2
    go_roundw
    case rel=>exact⟨k+1,d,by omega,by go_num,rfl,W,n,by rw[Hid,H.oQ];exact p.out.pass Q⟩
    case measure=>simp[intOf];omega
   |true=>
    have B:s.lo<=d/\d<=s.hi:=by simpa only[jK,dte]using u
    have s0:D.cell? ⟨wr.heap.size,0,none⟩=some (.int .i64 s.lo):=bD R rfl;have s1:D.cell? ⟨wr.heap.size,1,none⟩=some (.int .i64 s.hi):=bD R rfl;have m1:D.cell? ⟨w.heap.size,1,none⟩=some (.int .i64 f):=bD X rfl
    by_cases hge:f<=s.hi
    ·have F:Hid (B9 f (gS l) none):=λe u h2=>by
      by_cases he:e<d
      ·exact p.out.all e u he
      ·exact⟨s,G.oQ.1,by omega,by omega⟩
     go_wp2
     refine bpr (v:=dY none) ?_ rfl ⟨⟨none,rfl,F.oQ⟩,L⟩
     simp[results,Tryz.results110,go_sem,dY]
    ·go_wp2
     go_roundw
     case rel=>exact⟨k+1,s.hi+1,by omega,by go_num,by go_num,by omega,n,by rw[Hid,H.oQ];exact p.out.skip B G.oQ.1 G.oQ.2⟩
     case measure=>simp[intOf];omega
  ·have N:l.take k=l:=ltl (by omega)
   rw[N]at p;have F:Hid (B9 f (gS l) (some d)):=⟨p.out.lo,W,p.out.no,p.out.all⟩;go_wp2
   refine bpr (v:=dY (some d)) ?_ rfl ⟨⟨some d,rfl,F.oQ⟩,U⟩
   simp[results,Tryz.results110,go_sem,dY]
def dA (b:Bk)(t:List Bx)(most:Int):Bool:=decide (0<=most/\most<=300)&&(aN b&&aQ b.fl t)
theorem rY (b:Bk)(t:List Bx)(ta:Option Addr)(F:Nat)(a:Int)(w:World)(ha:pU w b t ta):
 aY 108 #[b.val,.slice ta t.length F,.int .i64 a] w λe w'=>e=.returned (.bool (dA b t a))/\aF w w':=by
 obtain⟨V,r⟩:=bP (dA b t a);rw[←r];have p:=aG r;clear r;have j:aF w (w.alloc (.cells #[.int .i64 b.now,.slice b.fa b.fl.length b.fc,.slice b.ha b.hl.length b.hc] 30)):=aB (br _ _) _;have n:=wnq w (.cells #[.int .i64 b.now,.slice b.fa b.fl.length b.fc,.slice b.ha b.hl.length b.hc] 30);obtain⟨A,y⟩:∃v,jK ⟨0,300⟩ a=v:=⟨_,rfl⟩;have c:decide (0<=a/\a<=300)=A:=y;go_enter Tryz.func108,Tryz.ntmps108;go_wp2_with fail;refine(m9 300 _).mono ?_;rintro e H ⟨rfl,d⟩;have x:aF w H:=aC j d;have o:=(d.block _ (bU n)).trans n;clear n d j;go_wp2_with fail;refine(rM ⟨0,300⟩ a _).mono ?_;rintro e m ⟨rfl,f⟩;rw[y];have l:aF w m:=aC x f;have h:=(f.block _ (bU o)).trans o;clear o f x;cases A with
 |false=>
  go_wp2_with fail;go_ret;exact⟨aD (by rw[p.oQ,dA,c];rfl),l⟩
 |true=>
 have D:m.cell? ⟨w.heap.size,0,none⟩=some (.int .i64 b.now):=aW h rfl;have s:m.cell? ⟨w.heap.size,1,none⟩=some (.slice b.fa b.fl.length b.fc):=aW h rfl;have E:m.cell? ⟨w.heap.size,2,none⟩=some (.slice b.ha b.hl.length b.hc):=aW h rfl;go_wp2_with fail;obtain⟨G,q⟩:∃v,aN b=v:=⟨_,rfl⟩;refine(uO (ha.zL l) _ q).mono ?_;rintro e B ⟨rfl,g⟩;have i:aF w B:=aC l g;have u:=(g.block _ (bU h)).trans h;clear D s E h g l;cases G with
 |false=>
  go_wp2_with fail;go_ret;exact⟨aD (by rw[p.oQ,dA,c,q];rfl),i⟩
 |true=>
 have s:B.cell? ⟨w.heap.size,1,none⟩=some (.slice b.fa b.fl.length b.fc):=aW u rfl;go_wp2_with fail;obtain⟨v2,z⟩:∃v,aQ b.fl t=v:=⟨_,rfl⟩;refine(FG _ _ _ z _ _ _ _ _ (ha.hf.zL i) (ha.ht.zL i) ha.hnf ha.hnt).mono ?_;rintro e I ⟨rfl,k⟩;have C:aF w I:=aC i k;clear s u k i;go_wp2_with fail;go_ret;exact⟨aD (by rw[p.oQ,dA,c,q,z];rfl),C⟩
end Go.Proofs.YtcdbcliaepcpfaaGreatDoor
namespace Go.Proofs.YtcdbcliaepcpfaaGreatDoor
set_option maxRecDepth 100000
set_option maxHeartbeats 4000000
open Go.RowKit Go.Shelf
attribute [local go_sem] Oper.semAt_some
def jQ (la lb:List Bx)(m:Nat):Bx×Bx:=(l9 la (m/lb.length),l9 lb (m%lb.length))
theorem EC {b lb:List Bx}(k s:Nat)(a:s<lb.length):jQ b lb (k*lb.length+s)=(l9 b k,l9 lb s):=by
 have c:(k*lb.length+s)/lb.length=k:=by rw[Nat.add_comm,Nat.add_mul_div_right _ _ (by omega),Nat.div_eq_of_lt a,Nat.zero_add]
 have d:(k*lb.length+s)%lb.length=s:=by rw[Nat.add_comm,Nat.add_mul_mod_self_right,Nat.mod_eq_of_lt a]
 simp only[jQ,c,d]
theorem wV {X:Nat->Prop}{w w':World}{a o:Nat}{b:Bx}(h:fL w a o b)(c:bF X w w')(hx:¬X a):fL w' a o b:=by
 obtain⟨d,e,f,g,i,j⟩:=h;exact⟨c.cell (p:=⟨a,_,none⟩) hx d,c.cell (p:=⟨a,_,none⟩) hx e,c.cell (p:=⟨a,_,none⟩) hx f,c.cell (p:=⟨a,_,none⟩) hx g,c.cell (p:=⟨a,_,none⟩) hx i,c.cell (p:=⟨a,_,none⟩) hx j⟩
theorem PE (n:Nat)(lp B1 G u c1 c2:Nat)(X:Nat->Prop)(ze:∀k,X k->k<u)(aa ab:Option Addr)(d lb:List Bx)(hla:d.length<=1048576)(hlb:lb.length<=1048576)(H:¬X G)
 (J Jx:List (Bx×Bx)->World->Prop)(W:World)(D:u<=W.heap.size)(K:AbidesFrom W.heap.size J)
 (hY:∀g (x:Bx×Bx) W,J g W->g.length<d.length*lb.length->YieldAt Fence.wide (n-1) Tryz.prog lp #[x.1.val,x.2.val] W λe F=>
  (e=.returned (.bool true)/\J (g++[x]) F/\bF X W F)∨(e=.returned (.bool false)/\Jx (g++[x]) F))
 (hB1:W.cell? ⟨B1,0,none⟩=some (.slice aa d.length c1))(za:W.cell? ⟨G,0,none⟩=some (.slice ab lb.length c2))
 (hA:d=[]∨∃w l,aa=some ⟨w,l,none⟩/\¬X w/\∀j (h:j<d.length),fL W w (l+j*6) d[j])
 (zb:lb=[]∨∃w l,ab=some ⟨w,l,none⟩/\¬X w/\∀j (h:j<lb.length),fL W w (l+j*6) lb[j])(h0:J [] W):
 CallsIn Fence.wide n Tryz.prog 219 #[.func (.yield lp) #[] #[],.pointer (some ⟨B1,0,none⟩),.pointer (some ⟨G,0,none⟩)] W λe F=>(∃v,e=.returned v)/\
  ((∃ys,ys=cE (jQ d lb) (d.length*lb.length)/\J ys F)∨(∃g,(∃k,k<=d.length*lb.length/\g=cE (jQ d lb) k)/\Jx g F)):=by
 refine callsIn_of_wp Tryz.func219 rfl trivial ?_ rfl;simp only[Tryz.ntmps219,lsz,llc,lln,Nat.reduceAdd,Nat.reduceSub,ars,arz,lpt,lap,lna,lca];gi_wp2
 gi_loopw [10] (λi wr=>∃k:Nat,k<=d.length/\i=.int .i64 k/\J (cE (jQ d lb) (k*lb.length)) wr/\bF X W wr) (λi _=>d.length-(intOf i).toNat)
 case atStart=>exact⟨0,nz _,rfl,by rw[Nat.zero_mul];exact h0,bF.refl _ _⟩
 case round=>
  obtain⟨k,hk,rfl,A,q⟩:=hrel
  by_cases m:k<d.length
  ·obtain⟨w,l,rfl,zf,hc⟩:=hA.resolve_left (λe=>by rw[e]at m;simp at m)
   have P:=q.cell (p:=⟨G,0,none⟩) H za;have Q:=wV (hc k m) q zf;obtain⟨a,B⟩:=bP (l9 d k);rw[←gE d k m,←B]at Q;have HA:=aG B;clear B;obtain⟨Y,Z,q2,q3,q4,q5⟩:=Q;have hz:G<wr.heap.size:=aA P;have zh:u<=wr.heap.size:=Nat.le_trans D q.size;have o:(wr.alloc a.obj).heap[wr.heap.size]?=some a.obj:=wnq wr _;have M:J (cE (jQ d lb) (k*lb.length)) (wr.alloc a.obj):=K _ _ _ none A (gG ((br _ _).alloc (nlq _) _)) (λr e=>by cases e);have I:bF X W (wr.alloc a.obj):=q.trans (bF.of_below ((br _ _).alloc (nlq _) _));gi_wp2;obtain⟨z,U⟩:=bP wr.heap.size;have zl:¬X z:=λe=>by have:=ze _ e;omega
   rw[←U]at o ⊢;clear P Y Z q2 q3 q4 q5 hz A q U
   gi_loopw [16] (λi E=>∃s:Nat,s<=lb.length/\i=.int .i64 s/\J (cE (jQ d lb) (k*lb.length+s)) E/\bF X W E/\E.heap[z]?=some a.obj) (λi _=>lb.length-(intOf i).toNat)
   case atStart=>exact⟨0,nz _,rfl,M,I,o⟩
   case round=>
    clear o M I zh;obtain⟨s,hs,rfl,y,t,V⟩:=hrel
    by_cases f:s<lb.length
    ·obtain⟨bl2,off2,rfl,O,zg⟩:=zb.resolve_left (λe=>by rw[e]at f;simp at f)
     have R:=wV (zg s f) t O;obtain⟨b,C⟩:=bP (l9 lb s);rw[←gE lb s f,←C]at R;have HB:=aG C;clear C;obtain⟨p0,p1,p2,p3,p4,p5⟩:=R;obtain⟨Y,Z,q2,q3,q4,q5⟩:=BA V;rw[Nat.zero_add]at Z q2 q3 q4 q5;have zm:z<wr.heap.size:=aA Y;have L:J (cE (jQ d lb) (k*lb.length+s)) (wr.alloc b.obj):=K _ _ _ none y (gG ((br _ _).alloc (nlq _) _)) (λr e=>by cases e)
     have zj:k*lb.length+s<d.length*lb.length:=by
      have:(k+1)*lb.length<=d.length*lb.length:=Nat.mul_le_mul_right _ m;rw[Nat.add_mul]at this;omega
     have zk:jQ d lb (k*lb.length+s)=(a,b):=by rw[HA.oQ,HB.oQ];exact EC k s f
     obtain⟨fn,tmps,assign,body,hy,hR⟩:=hY _ (jQ d lb (k*lb.length+s)) (wr.alloc b.obj) L (by rw[eI];exact zj);rw[zk]at hy;have HR:=hR;have zn:(wr.alloc b.obj).heap[z]?=some a.obj:=(halq wr b.obj z zm).trans V;have zc:bF X W (wr.alloc b.obj):=t.trans (bF.of_below ((br _ _).alloc (nlq _) _));clear hR hY L;gi_wp2_with fail
     refine⟨λh=>(by cases h),?_⟩;refine RoundIn.mono HR ?_;rintro e W3 (⟨rfl,zd,S⟩|⟨rfl,N⟩)
     ·clear HR hy p0 p1 p2 p3 p4 p5 Y Z q2 q3 q4 q5
      gi_wp2;refine⟨⟨s+1,by omega,by go_num,?_,zc.trans S,S.c z _ zl zn rfl⟩,by simp[intOf];omega⟩;rw[show k*lb.length+(s+1)=k*lb.length+s+1 by omega,eH];exact zd
     ·clear HR hy p0 p1 p2 p3 p4 p5 Y Z q2 q3 q4 q5
      gi_wp2;refine bpr (results_none rfl _ _ _) rfl ?_;exact⟨⟨_,rfl⟩,.inr ⟨_,⟨k*lb.length+s+1,by omega,(eH _ _).symm⟩,N⟩⟩
    ·have T:s=lb.length:=by omega
     gi_wp2;refine⟨⟨k+1,by omega,by go_num,?_,t⟩,by simp[intOf];omega⟩;rw[Nat.add_mul,Nat.one_mul,←T];rw[←T]at y;exact y
  ·have zi:k=d.length:=by omega
   gi_wp2
   go_end0
   exact⟨⟨_,rfl⟩,.inl ⟨_,rfl,by rw[←zi];exact A⟩⟩
theorem JV (n:Nat)(s o C D:Nat)(X:Nat->Prop)(c d:Option Addr)(a lb:List Bx)(z:a.length<=1048576)(A:lb.length<=1048576)(w:World)(u:∀k,X k->k<w.heap.size)(m:¬X o)
 (v:∀p,c=some p->a≠[]->¬X p.block)(y:∀p,d=some p->lb≠[]->¬X p.block)
 (g:w.cell? ⟨s,0,none⟩=some (.slice c a.length C))(i:w.cell? ⟨o,0,none⟩=some (.slice d lb.length D))(G:jJ w c a)(t:jJ w d lb):
 SeqStopsK Fence.wide n Tryz.prog 219 #[.pointer (some ⟨s,0,none⟩),.pointer (some ⟨o,0,none⟩)] (λx:Bx×Bx=>#[x.1.val,x.2.val]) (bF X) (λN=>N=cE (jQ a lb) (a.length*lb.length)) (λB=>∃k,k<=a.length*lb.length/\B=cE (jQ a lb) k) (a.length*lb.length) w:=λM J E W r H _ I F=>by
 have go:∀(q:Option Addr) (l:List Bx),jJ w q l->(∀p,q=some p->l≠[]->¬X p.block)->l=[]∨∃f b,q=some ⟨f,b,none⟩/\¬X f/\∀j (h:j<l.length),fL W f (b+j*6) l[j]:=λq l L hx=>by
  rcases l with _|⟨x,l⟩
  ·exact .inl rfl
  ·rcases L with h|⟨f,b,e,K⟩
   ·cases h
   ·exact .inr ⟨f,b,e,hx _ e (by simp),λj h=>(K j h).zL r⟩
 exact PE n M s o w.heap.size C D X u c d a lb z A m J E W r.size H I ((r.cell (aA g)).trans g) ((r.cell (aA i)).trans i) (go c a G v) (go d lb t y) F
theorem TL (n:Nat)(a b:Option Addr)(f c lb d:Nat)(w:World):
 CallsIn Fence.wide n Tryz.prog 158 #[.slice a f c,.slice b lb d] w λe w'=>∃h g,e=.returned (.func (.func 219) #[] #[.pointer (some ⟨h,0,none⟩),.pointer (some ⟨g,0,none⟩)])/\aF w w'/\
  w'.cell? ⟨h,0,none⟩=some (.slice a f c)/\w'.cell? ⟨g,0,none⟩=some (.slice b lb d)/\w.heap.size<=g:=by
 refine callsIn_of_wp Tryz.func158 rfl trivial ?_ rfl;simp only[Tryz.ntmps158,lsz,llc,lln,Nat.reduceAdd,Nat.reduceSub,ars,arz,lpt,lap,lna,lca];gi_wp2;go_ret;have b1:=(Boxed.new w 31 (.slice a f c)).alloc (.cells #[.slice b lb d] 31);have i:=Boxed.new (w.alloc (.cells #[.slice a f c] 31)) 31 (.slice b lb d);simp only[wsa]at i;exact⟨w.heap.size,w.heap.size+1,rfl,aB (aB (br _ _) _) _,b1.cell,i.cell,by omega⟩
def kJ (most:Int)(P:Int->Prop)(v:Value)(w:World):Prop:=∃ao cap l,v=.slice ao (List.length l) cap/\GP w ao l/\uY most l/\∀d,0<=d->d<=most->(gS l d↔P d)
theorem kJ.zL {a:Int}{P:Int->Prop}{v:Value}{w w':World}(h:kJ a P v w)(i:aF w w'):kJ a P v w':=by
 obtain⟨c,b,l,d,e,f,g⟩:=h;exact⟨c,b,l,d,e.zL i,f,g⟩
theorem IQ (a:Int)(b:a<=300)(m:Sp)(P:Int->Prop)(v:Value)(w:World)(h:kJ a P v w)(i:0<=m.lo)(j:m.hi<=a):
 aY 154 #[v,m.val] w λe w'=>(∃k,e=.returned k/\kJ a (λd=>P d∨(m.lo<=d/\d<=m.hi)) k w')/\aF w w':=by
 obtain⟨n,g,l,rfl,q,r,s⟩:=h;refine(TA a b l m n g w q r i j).mono ?_;rintro e w' ⟨⟨f,c,z,rfl,u,x,y⟩,t⟩;exact⟨⟨_,rfl,f,c,z,rfl,u,x,λd o p=>by rw[y,s d o p]⟩,t⟩
theorem VK (b:Int)(a:Option Addr)(c:Nat)(w:World):kJ b (λ_=>False) (.slice a 0 c) w:=⟨a,c,[],rfl,⟨Or.inl rfl,Or.inl rfl⟩,T8 b,λd _ _=>⟨λh=>absurd h (qI d),False.elim⟩⟩
theorem VN {α:Type}{sz:Nat}{c:α->List Value}{W d:World}{f:Option Addr}{l:List α}{a:Option Nat}(h:Xs sz c W f l)(j:W.grownBy d a)(n:∀r,a=some r->∃o:Obj,W.heap[r]?=some o/\o.isCells=false):Xs sz c d f l:=by
 rcases h with h|⟨g,b,e,i⟩;·exact .inl h
 ·exact .inr ⟨g,b,e,λk m=>eT (i k m) j n⟩
theorem GQ {W d:World}{f:Option Addr}{l:List Sp}{a:Option Nat}(h:GP W f l)(k:W.grownBy d a)(m:∀r,a=some r->∃o:Obj,W.heap[r]?=some o/\o.isCells=false):GP d f l:=by
 refine⟨VN h.1 k m,?_⟩;rcases h.2 with e|⟨i,c,n,e,b⟩;·exact .inl e
 ·exact .inr ⟨i,c,n,e,(k.block _ (bU b) (λg=>by obtain⟨o,j,p⟩:=m i g.symm;rw[b]at j;cases j;cases p)).trans b⟩
def vM (most:Int)(P:Int->Prop)(z:Nat)(w:World):Prop:=∃ao cap l,Boxed w z 150 (.slice ao (List.length l) cap)/\GP w ao l/\uY most l/\∀d,0<=d->d<=most->(gS l d↔P d)
theorem vM.zL {a:Int}{P:Int->Prop}{z:Nat}{w w':World}(h:vM a P z w)(d:aF w w'):vM a P z w':=by
 obtain⟨e,b,l,c,f,g,i⟩:=h;exact⟨e,b,l,(d.block z c.lt).trans c,f.zL d,g,i⟩
theorem vM.kept {a:Int}{P:Int->Prop}{z:Nat}{w w':World}{b:Option Nat}(h:vM a P z w)(f:w.grownBy w' b)(i:∀r,b=some r->∃o:Obj,w.heap[r]?=some o/\o.isCells=false):vM a P z w':=by
 obtain⟨j,c,l,d,k,m,n⟩:=h;exact⟨j,c,l,d.kept f (λe=>by obtain⟨o,g,p⟩:=i z e.symm;rw[show w.heap[z]?=_ from d]at g;cases g;cases p),GQ k f i,m,n⟩
theorem XD {w:World}{z:Nat}{a:Option Addr}{n c:Nat}{m:Option Addr}{l:List Sp}(q:Boxed w z 150 (.slice a n c))(h:Xs 2 Sp.cells w m l)(u:Value):Xs 2 Sp.cells (w.setCell ⟨z,0,none⟩ u) m l:=by
 rcases h with h|⟨d,b,e,o⟩;·exact .inl h
 ·refine .inr ⟨d,b,e,λk p j v r=>?_⟩
  have i:d≠z:=λe=>by
   subst e;have g:=(DW (o k p)).1;have:w.heap[d]?=some (.cells #[.slice a n c] 150):=q;simp only[World.cell?,this]at g;have f:(b+k*2)=0∨0<b+k*2:=by omega
   rcases f with f|f;·rw[f]at g;simp at g
   ·simp[Array.getElem?_eq_none (by simp;omega:(#[Value.slice a n c]:Array Value).size<=b+k*2)]at g
  exact(by simp only[World.cell?,Below.heap_setCell w ⟨z,0,none⟩ u d i]:(w.setCell ⟨z,0,none⟩ u).cell? ⟨d,b+k*2+j,none⟩=w.cell? ⟨d,b+k*2+j,none⟩).trans (o k p j v r)
theorem VF {w:World}{z:Nat}{a:Option Addr}{n c:Nat}{i:Option Addr}{l:List Sp}(j:Boxed w z 150 (.slice a n c))(h:GP w i l)(u:Value):GP (w.setCell ⟨z,0,none⟩ u) i l:=by
 refine⟨XD j h.1 u,?_⟩;rcases h.2 with e|⟨b,f,k,e,d⟩;·exact .inl e
 ·refine .inr ⟨b,f,k,e,(Below.heap_setCell w ⟨z,0,none⟩ u b (λg=>?_)).trans d⟩;have m:w.heap[z]?=some (.cells #[.slice a n c] 150):=j;rw[show b=z from g,m]at d;cases d
theorem vM.store {b:Int}{P:Int->Prop}{z:Nat}{w:World}{a:Option Addr}{n c:Nat}{v:Value}(e:Boxed w z 150 (.slice a n c))(h:kJ b P v w):vM b P z (w.setCell ⟨z,0,none⟩ v):=by
 obtain⟨f,d,l,rfl,g,i,j⟩:=h;exact⟨f,d,l,e.set _,VF e g _,i,j⟩
def CG (t q:List Bx)(d:Int):Prop:=∃m∈t,∃o∈q,(gV m o).lo<=d/\d<=(gV m o).hi
theorem EU (m o:Bx)(w:World):aY 159 #[m.val,o.val] w λe w'=>(∃s:Sp,e=.returned s.val/\(aK m=true/\aK o=true->s=gV m o))/\aF w w':=by
 by_cases h:aK m=true/\aK o=true;·exact(KB m o w h.1 h.2).mono λe w' ⟨b,a⟩=>⟨⟨_,b,λ_=>rfl⟩,a⟩
 ·exact(FZ m o w).mono λe w' ⟨⟨s,b⟩,a⟩=>⟨⟨s,b,λg=>absurd g h⟩,a⟩
theorem TF (t q:List Bx)(d:Int):(∃p∈cE (jQ t q) (t.length*q.length),(gV p.1 p.2).lo<=d/\d<=(gV p.1 p.2).hi)↔CG t q d:=by
 constructor
 ·rintro⟨p,g,h⟩;simp only[cE,List.mem_map,List.mem_range]at g;obtain⟨i,c,rfl⟩:=g
  have r:0<q.length:=by
   rcases Nat.eq_zero_or_pos q.length with e|e;·rw[e,Nat.mul_zero]at c;omega
   ·exact e
  have a:i/q.length<t.length:=Nat.div_lt_of_lt_mul (by rw[Nat.mul_comm];exact c);have b:i%q.length<q.length:=Nat.mod_lt _ r;refine⟨l9 t (i/q.length),?_,l9 q (i%q.length),?_,h⟩;·rw[gE t _ a];exact lgm a
  ·rw[gE q _ b];exact lgm b
 ·rintro⟨m,l,o,n,h⟩;obtain⟨k,f,rfl⟩:=lgo l;obtain⟨s,j,rfl⟩:=lgo n;refine⟨jQ t q (k*q.length+s),?_,?_⟩
  ·simp only[cE,List.mem_map,List.mem_range];refine⟨_,?_,rfl⟩;have:(k+1)*q.length<=t.length*q.length:=Nat.mul_le_mul_right _ f;rw[Nat.add_mul]at this;omega
  ·rw[EC k s j,gE t k f,gE q s j];exact h
theorem VB {t q:List Bx}(c:t.all aK=true)(b:q.all aK=true):∀p∈cE (jQ t q) (t.length*q.length),aK p.1=true/\aK p.2=true:=by
 intro p a;simp only[cE,List.mem_map,List.mem_range]at a;obtain⟨i,_,rfl⟩:=a;exact⟨rB c _,rB b _⟩
def ZZ (most:Int)(z:Nat)(P:Int->Prop)(pre:List (Bx×Bx))(W:World):Prop:=
 ∃P',vM most P' z W/\((∀p∈pre,aK p.1=true/\aK p.2=true)->∀d,0<=d->d<=most->(P' d↔(P d∨∃p∈pre,(gV p.1 p.2).lo<=d/\d<=(gV p.1 p.2).hi)))
def Y9 (p:Bx×Bx)(ao:Option Addr)(len cap:Nat)(most:Int)(P:Int->Prop):Nat->Value->World->Prop
 |0,v,_=>v=.slice ao len cap
 |1,v,_=>v=p.1.val
 |2,v,_=>v=p.2.val
 |3,v,_=>∃s:Sp,v=s.val/\(aK p.1=true/\aK p.2=true->s=gV p.1 p.2)
 |4,v,_=>v=.int .i64 most
 |5,v,_=>v=Sp.val ⟨0,most⟩
 |6,v,_=>∃s:Sp,v=(cP s ⟨0,most⟩).val/\(aK p.1=true/\aK p.2=true->s=gV p.1 p.2)
 |7,v,w=>∃s:Sp,kJ most (λd=>P d∨((cP s ⟨0,most⟩).lo<=d/\d<=(cP s ⟨0,most⟩).hi)) v w/\(aK p.1=true/\aK p.2=true->s=gV p.1 p.2)
 |_,_,_=>True
theorem Y9.zL {p:Bx×Bx}{d:Option Addr}{c b:Nat}{a:Int}{P:Int->Prop}:∀(j:Nat) (v:Value) (w w':World),Y9 p d c b a P j v w->aF w w'->Y9 p d c b a P j v w'
 |0,_,_,_,h,_=>h
 |1,_,_,_,h,_=>h
 |2,_,_,_,h,_=>h
 |3,_,_,_,h,_=>h
 |4,_,_,_,h,_=>h
 |5,_,_,_,h,_=>h
 |6,_,_,_,h,_=>h
 |7,_,_,_,⟨s,h,e⟩,hb=>⟨s,kJ.zL h hb,e⟩
 |_+8,_,_,_,_,_=>trivial
def YF (ta:Option Addr)(t:List Bx)(tc:Nat)(most:Int)(z0:Nat):Nat->Value->World->Prop
 |0,v,_=>∃p,v=.slice p 0 0
 |1,v,_=>v=.slice ta t.length tc
 |2,v,_=>v=(dI t).val
 |3,v,_=>v=.int .i64 most
 |4,v,_=>v=Sp.val ⟨0,most⟩
 |5,v,_=>v=(cP (dI t) ⟨0,most⟩).val
 |6,v,w=>kJ most (λd=>False∨((cP (dI t) ⟨0,most⟩).lo<=d/\d<=(cP (dI t) ⟨0,most⟩).hi)) v w
 |7,v,w=>∃z,v=.pointer (some ⟨z,0,none⟩)/\z0<=z/\Boxed w z 150 (.slice none 0 0)
 |_,_,_=>True
theorem YF.zL {ta:Option Addr}{t:List Bx}{b:Nat}{a:Int}{z0:Nat}:∀(j:Nat) (v:Value) (w w':World),YF ta t b a z0 j v w->aF w w'->YF ta t b a z0 j v w'
 |0,_,_,_,h,_=>h
 |1,_,_,_,h,_=>h
 |2,_,_,_,h,_=>h
 |3,_,_,_,h,_=>h
 |4,_,_,_,h,_=>h
 |5,_,_,_,h,_=>h
 |6,_,_,_,h,hb=>kJ.zL h hb
 |7,_,_,_,⟨z,e,hz,hB⟩,hb=>⟨z,e,hz,(hb.block z hB.lt).trans hB⟩
 |_+8,_,_,_,_,_=>trivial
theorem RA (n:Nat)(hn:16<=n)(b:Bk)(nm:ByteArray)(t:List Bx)(ta:Option Addr)(H:Nat)(a:Int)(hm0:0<=a)(ye:a<=300)(w:World)(ha:pU w b t ta)(yb:∀x∈gR b.hl ha.hgood,(x.1.1.pl x.1.2).all aK=true)(yj:aQ b.fl t=true):
 CallsIn Fence.wide n Tryz.prog 109 #[b.val,.string nm,.slice ta t.length H,.int .i64 a] w λe B=>(∃v,e=.returned v/\kJ a (λd=>(False∨((cP (dI t) ⟨0,a⟩).lo<=d/\d<=(cP (dI t) ⟨0,a⟩).hi))∨∃x∈(gR b.hl ha.hgood).filter (pS nm),CG t (x.1.1.pl x.1.2) d) v B)/\aF w B:=by
 have h1:1<=n:=by omega
 have zf:=yj;simp only[aQ,bat,n6,dte]at zf;obtain⟨yi,yh,_⟩:=zf;refine callsIn_of_wp_marks Tryz.func109 rfl trivial ?_ rfl;simp only[Tryz.ntmps109,lsz,llc,lln,Nat.reduceAdd,Nat.reduceSub,ars,arz,lpt,lap,lna,lca];have A0:=(halq ((w.alloc (.cells #[.int .i64 b.now,.slice b.fa b.fl.length b.fc,.slice b.ha b.hl.length b.hc] 30)).alloc (.cells #[.slice ta t.length H] 31)) (.cells #[.int .i64 a] 3) w.heap.size (by simp;omega)).trans ((halq (w.alloc (.cells #[.int .i64 b.now,.slice b.fa b.fl.length b.fc,.slice b.ha b.hl.length b.hc] 30)) (.cells #[.slice ta t.length H] 31) w.heap.size (by simp)).trans (wnq w _));have zn:=wnq (w.alloc (.cells #[.int .i64 b.now,.slice b.fa b.fl.length b.fc,.slice b.ha b.hl.length b.hc] 30)) (.cells #[.slice ta t.length H] 31);rw[wsa]at zn;have T0:=(halq ((w.alloc (.cells #[.int .i64 b.now,.slice b.fa b.fl.length b.fc,.slice b.ha b.hl.length b.hc] 30)).alloc (.cells #[.slice ta t.length H] 31)) (.cells #[.int .i64 a] 3) (w.heap.size+1) (by simp)).trans zn;have M0:=wnq ((w.alloc (.cells #[.int .i64 b.now,.slice b.fa b.fl.length b.fc,.slice b.ha b.hl.length b.hc] 30)).alloc (.cells #[.slice ta t.length H] 31)) (.cells #[.int .i64 a] 3);rw[wsa,wsa]at M0;have zi:aF w (((w.alloc (.cells #[.int .i64 b.now,.slice b.fa b.fl.length b.fc,.slice b.ha b.hl.length b.hc] 30)).alloc (.cells #[.slice ta t.length H] 31)).alloc (.cells #[.int .i64 a] 3)):=aB (aB (aB (br _ _) _) _) _;clear zn;gi_wp2_with fail
 obtain⟨Wa,zy⟩:=cK (((w.alloc (.cells #[.int .i64 b.now,.slice b.fa b.fl.length b.fc,.slice b.ha b.hl.length b.hc] 30)).alloc (.cells #[.slice ta t.length H] 31)).alloc (.cells #[.int .i64 a] 3));rw[zy]at A0 T0 M0 zi ⊢;clear zy
 refine jF (by kernel_rfl) 8 rfl (λf=>{ tmps:=#[b.val,.string nm,.slice ta t.length H,.int .i64 a,.pointer (some ⟨w.heap.size,0,none⟩),undef,.pointer (some ⟨w.heap.size+1,0,none⟩),.pointer (some ⟨w.heap.size+1+1,0,none⟩),.slice none 0 0,f 7,undef,undef,undef,f 0,f 1,f 2,f 3,f 4,f 5,f 6,undef,undef,undef,undef,undef,undef,undef,undef,undef,undef,undef,undef,undef,undef,undef,undef,undef,undef],defers:=[]}) (λ_=>undef)
  (YF ta t H a Wa.heap.size) YF.zL (GK (by kernel_rfl)) (yK (by kernel_rfl)) ?step ?fin
 case step=>
  intro i o f w' hi m hB E;have A1:=(hB.block _ (bU A0)).trans A0;have T1:=(hB.block _ (bU T0)).trans T0;have M1:=(hB.block _ (bU M0)).trans M0;have hN:aF w w':=aC zi hB
  match i,hi with
  |0,_=>
   simp at m;subst m;gi_wp2;exact⟨_,⟨rfl,rfl,rfl,rfl,rfl,rfl,rfl,rfl⟩,⟨_,rfl⟩,aB (br _ _) _⟩
  |1,_=>
   simp at m;subst m;have c:w'.cell? ⟨w.heap.size+1,0,none⟩=some (.slice ta t.length H):=aW T1 rfl;gi_wp2;exact⟨_,⟨rfl,rfl,rfl,rfl,rfl,rfl,rfl,rfl⟩,rfl,br _ _⟩
  |2,_=>
   simp at m;subst m;have S:f 1=_:=Zq E 1;rw[S];gi_wp2_with fail
   refine⟨trivial,?_⟩;refine(cw.2 (MD t ta H w' (ha.ht.zL hN) yi.1 yi.2 yh)).mono ?_;rintro e O ⟨rfl,G⟩;gi_wp2;exact⟨_,by simp[aH,S],rfl,G⟩
  |3,_=>
   simp at m;subst m;have c:w'.cell? ⟨w.heap.size+1+1,0,none⟩=some (.int .i64 a):=aW M1 rfl;gi_wp2;exact⟨_,⟨rfl,rfl,rfl,rfl,rfl,rfl,rfl,rfl⟩,rfl,br _ _⟩
  |4,_=>
   simp at m;subst m;have d3:f 3=_:=Zq E 3;rw[d3];gi_wp2_with fail
   refine⟨trivial,?_⟩;refine(cw.2 (m9 a w')).mono ?_;rintro e O ⟨rfl,G⟩;gi_wp2;exact⟨_,by simp[aH,d3],rfl,G⟩
  |5,_=>
   simp at m;subst m;have d2:f 2=_:=Zq E 2;have d4:f 4=_:=Zq E 4;rw[d2,d4];gi_wp2_with fail
   refine⟨trivial,?_⟩;refine(cw.2 (BL (dI t) ⟨0,a⟩ w')).mono ?_;rintro e O ⟨rfl,G⟩;gi_wp2;exact⟨_,by simp[aH,d2,d4],rfl,G⟩
  |6,_=>
   simp at m;subst m;obtain⟨p,R⟩:∃p,f 0=.slice p 0 0:=Zq E 0;have d5:f 5=_:=Zq E 5;rw[R,d5];gi_wp2_with fail
   refine⟨trivial,?_⟩;refine(cw.2 (IQ a ye (cP (dI t) ⟨0,a⟩) (λ_=>False) _ w' (VK a p 0 w') (by show 0<=max (dI t).lo 0;omega) (by show min (dI t).hi a<=a;omega))).mono ?_;rintro e O ⟨⟨v,rfl,hv⟩,G⟩;gi_wp2;exact⟨v,by simp[aH,R,d5],hv,G⟩
  |7,_=>
   simp at m;subst m;gi_wp2;exact⟨_,⟨rfl,rfl,rfl,rfl,rfl,rfl,rfl,rfl⟩,⟨_,rfl,hB.size,Boxed.new w' 150 _⟩,aB (br _ _) _⟩
 case fin=>
  intro o f w' m hB E;simp at m;subst m;have A1:=(hB.block _ (bU A0)).trans A0;have T1:=(hB.block _ (bU T0)).trans T0;have M1:=(hB.block _ (bU M0)).trans M0;obtain⟨z,d7,hz,bZ⟩:∃z,f 7=.pointer (some ⟨z,0,none⟩)/\Wa.heap.size<=z/\Boxed w' z 150 (.slice none 0 0):=E 7 (by omega);have d6:kJ a _ (f 6) w':=E 6 (by omega);rw[d7];clear E d7;generalize f 0=u0;generalize f 1=u1;generalize f 2=u2;generalize f 3=u3;generalize f 4=u4;generalize f 5=u5;obtain⟨q,j,Z,e6,x6,b6,q6⟩:=d6;rw[e6];clear e6;have cZ:=bZ.cell;have fZ:=bZ.frozen;have hzw:w.heap.size+3<=z:=by have:=(bU M0);omega
  have As:=(Below.heap_setCell w' ⟨z,0,none⟩ (.slice q Z.length j) w.heap.size (by show w.heap.size≠z;omega)).trans A1;have Ts:=(Below.heap_setCell w' ⟨z,0,none⟩ (.slice q Z.length j) (w.heap.size+1) (by show w.heap.size+1≠z;omega)).trans T1;have Ms:=(Below.heap_setCell w' ⟨z,0,none⟩ (.slice q Z.length j) (w.heap.size+1+1) (by show w.heap.size+1+1≠z;omega)).trans M1;have zk:vM a (λd=>False∨((cP (dI t) ⟨0,a⟩).lo<=d/\d<=(cP (dI t) ⟨0,a⟩).hi)) z (w'.setCell ⟨z,0,none⟩ (.slice q Z.length j)):=vM.store bZ ⟨q,j,Z,rfl,x6,b6,q6⟩;have zw:aF w (w'.setCell ⟨z,0,none⟩ (.slice q Z.length j)):=(aC zi hB).setCell (p:=⟨z,0,none⟩) (by show w.heap.size<=z;omega) _;have k0:(w'.setCell ⟨z,0,none⟩ (.slice q Z.length j)).cell? ⟨w.heap.size,0,none⟩=some (.int .i64 b.now):=aW As rfl;have k1:(w'.setCell ⟨z,0,none⟩ (.slice q Z.length j)).cell? ⟨w.heap.size,1,none⟩=some (.slice b.fa b.fl.length b.fc):=aW As rfl;have k2:(w'.setCell ⟨z,0,none⟩ (.slice q Z.length j)).cell? ⟨w.heap.size,2,none⟩=some (.slice b.ha b.hl.length b.hc):=aW As rfl;gi_wp2_with fail
  obtain⟨Ws,zz⟩:=cK (w'.setCell ⟨z,0,none⟩ (.slice q Z.length j));rw[zz]at As Ts Ms zk zw ⊢;clear zz cZ fZ A1 T1 M1 bZ x6 q6 b6 hB k0 k1 k2 A0 T0 M0 zi;refine⟨trivial,?_⟩;refine(UE (n-1) b nm _).mono ?_;rintro e W0 ⟨Bb,Bn,rfl,U,yq,yr,hnb⟩;have zj:aF w W0:=aC zw U;have yc:=zk.zL U;have Ts:=(U.block _ (bU Ts)).trans Ts;have Ms:=(U.block _ (bU Ms)).trans Ms;have cT:W0.cell? ⟨w.heap.size+1,0,none⟩=some (.slice ta t.length H):=aW Ts rfl;have cM:W0.cell? ⟨w.heap.size+1+1,0,none⟩=some (.int .i64 a):=aW Ms rfl;have xa:z<Ws.heap.size:=by obtain⟨_,_,_,h,_⟩:=zk;exact h.lt
  have yk:z<W0.heap.size:=Nat.lt_of_lt_of_le xa U.size;clear zk As Ts Ms U;gi_wp2_with fail
  refine mB (X:=λk=>k=z) rfl h1 (gf:=218) (lb:=#[.pointer (some ⟨Bb,0,none⟩),.pointer (some ⟨Bn,0,none⟩)]) rfl trivial (enters_of Tryz.func218 (by kernel_rfl) rfl)
   (AG (n-1) (by omega) b nm Bb Bn w W0 ha.hgood ha.hnh (λk=>k=z) (λk e=>by rw[e];exact yk) (λe=>by omega) (λp e N=>λez=>by
    rcases ha.hh with h|⟨bl,yl,e2,hc⟩
    ·exact N h
    ·rw[e]at e2;cases e2
     have zc:0<b.hl.length:=by rcases zb:b.hl with _|⟨x,r⟩;exact absurd zb N;simp
     have:=aA (iI (hc 0 zc)).1;simp only at ez this
     omega) yq yr (ha.hh.zL zj)) (br _ _) (λ_=>rfl)
   (λzg W=>(∃P,vM a P z W/\((∀x∈zg,(x.1.1.pl x.1.2).all aK=true)->∀d,0<=d->d<=a->(P d↔((False∨((cP (dI t) ⟨0,a⟩).lo<=d/\d<=(cP (dI t) ⟨0,a⟩).hi))∨∃x∈zg,CG t (x.1.1.pl x.1.2) d))))/\(aF w W/\bF (λk=>k=z) W0 W))
   (λ_ _ _=>False)
   (OwnFrom.and (λs A A' ym ⟨P,G,hq⟩ hg hr=>⟨P,G.kept hg (λr e=>(hr r e).2),hq⟩) (OwnFrom.and (ownFrom_below (nlq _) (by have:=zj.size;omega)) lO))
   (λc=>ownFrom_pure _ _)
   ⟨⟨_,yc,λ_ d _ _=>⟨.inl,λh=>h.elim id (λ⟨x,hx,_⟩=>by cases hx)⟩⟩,zj,bF.refl _ _⟩
   (λx a' _=>a'={ tmps:=#[b.val,.string nm,.slice ta t.length H,.int .i64 a,.pointer (some ⟨w.heap.size,0,none⟩),undef,.pointer (some ⟨w.heap.size+1,0,none⟩),.pointer (some ⟨w.heap.size+1+1,0,none⟩),.slice none 0 0,.pointer (some ⟨z,0,none⟩),x.1.1.part x.1.2,undef,undef,u0,u1,u2,u3,u4,u5,.slice q Z.length j,b.val,.string nm,.func (.func 218) #[] #[.pointer (some ⟨Bb,0,none⟩),.pointer (some ⟨Bn,0,none⟩)],x.1.1.part x.1.2,undef,undef,undef,undef,undef,undef,undef,undef,undef,undef,undef,undef,undef,undef],defers:=[]})
   (λx a'=>ownFrom_pure _ _)
   ?assign ?body ?done ?stop
  case assign=>
   rintro lp zg x W K hi hK;gi_wp2;exact hK _ _ ((KeepsOthers.refl _).from _) (bF.refl _ _) hi rfl
  case body=>
   rintro lp zg x a' W hl' ⟨r,hr⟩ ⟨⟨P,zl,hq⟩,zh,zq⟩ rfl hlt';have yo:=zq.cell (p:=⟨w.heap.size+1,0,none⟩) (by show¬(w.heap.size+1=z);omega) cT;have yp:1<=n-1-1:=by omega
   gi_wp2_with fail
   refine⟨trivial,?_⟩;refine(CallsIn.inRound lp (TL (n-1-1-1) _ _ _ _ _ _ _)).mono ?_;rintro e W1 ⟨Q1,Q2,rfl,L,yt,yu,yf⟩;have za:aF w W1:=aC zh L;have yx:W1.heap[lp]?=some (.loop r):=(L.block lp (bU hr)).trans hr;have yd:=zl.zL L;have yv:z<W.heap.size:=by obtain⟨_,_,_,h,_⟩:=zl;exact h.lt
   have ya:z<W1.heap.size:=Nat.lt_of_lt_of_le yv L.size;have zx:bF (λk=>k=z) W0 W1:=zq.trans (bF.of_below L);have yz:=L.size;have hBWz:=zh.size;have yw:=x.bxs za;have zb:=x.len;clear yo;gi_wp2_with fail
   refine wpIn_rangeFunc_ownN (l₀:=lp) (r₀:=r) rfl yx yp (gf:=219) (lb:=#[.pointer (some ⟨Q1,0,none⟩),.pointer (some ⟨Q2,0,none⟩)]) rfl trivial (enters_of Tryz.func219 (by kernel_rfl) rfl)
    ((JV (n-1-1-1) Q1 Q2 H (x.1.1.pc x.1.2) (λk=>k=z) ta (x.1.1.pa x.1.2) t (x.1.1.pl x.1.2) ha.hnt zb W1 (λk e=>by rw[e];exact ya) (by show¬(Q2=z);omega)
     (λp e N ez=>by
      rcases ha.ht with h|⟨bl,yl,e2,hc⟩
      ·exact N h
      ·rw[e]at e2;cases e2
       have zc:0<t.length:=by omega
       have:=aA (hc 0 zc).1;simp only at ez this
       omega)
     (λp e N ez=>by
      rcases x.bxs (br w.heap.size w)with h|⟨bl,yl,e2,hc⟩
      ·exact N h
      ·rw[e]at e2;cases e2
       have zc:0<(x.1.1.pl x.1.2).length:=by rcases zb:x.1.1.pl x.1.2 with _|⟨x,r⟩;exact absurd zb N;simp
       have:=aA (hc 0 zc).1;simp only at ez this
       omega)
     yt yu (ha.ht.zL za) yw).inRound lp) OD NV (br _ _) (λ_=>rfl)
    (λM B=>ZZ a z P M B/\((aF w B/\bF (λk=>k=z) W1 B)/\KeepsFrom W0.heap.size W B))
    (λ_ _ _=>False)
    (OwnFrom.and (λs A A' ym ⟨P,G,hq⟩ hg hr=>⟨P,G.kept hg (λr e=>(hr r e).2),hq⟩) (OwnFrom.and (OwnFrom.and (ownFrom_below (nlq _) (by omega)) lO) (ownFrom_keepsFrom yz)))
    (λc=>ownFrom_pure _ _)
    ⟨⟨_,yd,λ_ d _ _=>⟨.inl,λh=>h.elim id (λ⟨p,hp,_⟩=>by cases hp)⟩⟩,⟨za,bF.refl _ _⟩,(bO L).from _⟩
    (λy zo B=>∃B3 B4,fL B B3 0 y.1/\fL B B4 0 y.2/\(B3≠z/\B4≠z)/\zo={ tmps:=#[b.val,.string nm,.slice ta t.length H,.int .i64 a,.pointer (some ⟨w.heap.size,0,none⟩),undef,.pointer (some ⟨w.heap.size+1,0,none⟩),.pointer (some ⟨w.heap.size+1+1,0,none⟩),.slice none 0 0,.pointer (some ⟨z,0,none⟩),x.1.1.part x.1.2,.pointer (some ⟨B3,0,none⟩),.pointer (some ⟨B4,0,none⟩),u0,u1,u2,u3,u4,u5,.slice q Z.length j,b.val,.string nm,.func (.func 218) #[] #[.pointer (some ⟨Bb,0,none⟩),.pointer (some ⟨Bn,0,none⟩)],x.1.1.part x.1.2,.slice ta t.length H,x.1.1.part x.1.2,.func (.func 219) #[] #[.pointer (some ⟨Q1,0,none⟩),.pointer (some ⟨Q2,0,none⟩)],y.1.val,y.2.val,undef,undef,undef,undef,undef,undef,undef,undef,undef],defers:=[]})
    (λy zo _ X Y ym hs hg hr=>by obtain⟨B3,B4,e1,e2,e3⟩:=hs;exact⟨B3,B4,pI e1 hg (λr e=>(hr r e).2),pI e2 hg (λr e=>(hr r e).2),e3⟩)
    ?assign2 ?body2 ?done2 ?stop2
   case assign2=>
    rintro l2 M y B K ⟨⟨P',F,ze⟩,⟨I,C⟩,J⟩ hK;gi_wp2;have V:aF B ((B.alloc y.1.obj).alloc y.2.obj):=aB (aB (br _ _) _) _;have o1:=(halq (B.alloc y.1.obj) y.2.obj B.heap.size (by simp)).trans (wnq B y.1.obj);have o2:=wnq (B.alloc y.1.obj) y.2.obj;rw[wsa]at o2;have hzW:z<B.heap.size:=by obtain⟨_,_,_,h,_⟩:=F;exact h.lt
    exact hK _ _ ((bO V).from _) (bF.of_below V) ⟨⟨P',F.zL V,ze⟩,⟨aC I V,C.trans (bF.of_below V)⟩,J.trans ((bO V).from _)⟩ ⟨B.heap.size,B.heap.size+1,BA o1,BA o2,⟨by omega,by omega⟩,rfl⟩
   case body2=>
    rintro l2 M y zo B hl2 _ ⟨⟨P',F,ze⟩,⟨I,C⟩,J⟩ ⟨B3,B4,e1,e2,⟨n3,n4⟩,rfl⟩ hlt2;obtain⟨ao,Q,l,T,zt,zp,zr⟩:=F;have zu:=(zx.trans C).cell (p:=⟨w.heap.size+1+1,0,none⟩) (by show¬(w.heap.size+1+1=z);omega) cM;have h2':1<=n-1-1-1-1:=by omega
    gi_wp2_with fail
    refine jF (by kernel_rfl) 8 rfl (λf=>{ tmps:=#[b.val,.string nm,.slice ta t.length H,.int .i64 a,.pointer (some ⟨w.heap.size,0,none⟩),undef,.pointer (some ⟨w.heap.size+1,0,none⟩),.pointer (some ⟨w.heap.size+1+1,0,none⟩),.slice none 0 0,.pointer (some ⟨z,0,none⟩),x.1.1.part x.1.2,.pointer (some ⟨B3,0,none⟩),.pointer (some ⟨B4,0,none⟩),u0,u1,u2,u3,u4,u5,.slice q Z.length j,b.val,.string nm,.func (.func 218) #[] #[.pointer (some ⟨Bb,0,none⟩),.pointer (some ⟨Bn,0,none⟩)],x.1.1.part x.1.2,.slice ta t.length H,x.1.1.part x.1.2,.func (.func 219) #[] #[.pointer (some ⟨Q1,0,none⟩),.pointer (some ⟨Q2,0,none⟩)],y.1.val,y.2.val,f 0,f 1,f 2,f 3,f 4,f 5,f 6,f 7,undef],defers:=[]}) (λ_=>undef)
     (Y9 y ao l.length Q a P') Y9.zL (GK (by kernel_rfl)) (yK (by kernel_rfl)) ?step2 ?fin2
    case step2=>
     intro i o f O hi m u E
     match i,hi with
     |0,_=>
      simp at m;subst m;have bz:Boxed O z 150 (.slice ao l.length Q):=(u.block z T.lt).trans T;have c:=bz.cell;gi_wp2;exact⟨_,⟨rfl,rfl,rfl,rfl,rfl,rfl,rfl,rfl⟩,rfl,br _ _⟩
     |1,_=>
      simp at m;subst m;obtain⟨c0,c1,c2,c3,c4,c5⟩:=e1.zL u;rw[Nat.zero_add]at c1 c2 c3 c4 c5;gi_wp2;exact⟨_,⟨rfl,rfl,rfl,rfl,rfl,rfl,rfl,rfl⟩,rfl,br _ _⟩
     |2,_=>
      simp at m;subst m;obtain⟨c0,c1,c2,c3,c4,c5⟩:=e2.zL u;rw[Nat.zero_add]at c1 c2 c3 c4 c5;gi_wp2;exact⟨_,⟨rfl,rfl,rfl,rfl,rfl,rfl,rfl,rfl⟩,rfl,br _ _⟩
     |3,_=>
      simp at m;subst m;have S:f 1=_:=Zq E 1;have d2:f 2=_:=Zq E 2;rw[S,d2];gi_wp2_with fail
      refine⟨trivial,?_⟩;refine(CallsIn.inRound l2 (CallsIn.inRound lp (cw.2 (EU y.1 y.2 O)))).mono ?_;rintro e w3 ⟨⟨s,rfl,hs⟩,G⟩;gi_wp2;exact⟨_,by simp[aH,S,d2],⟨s,rfl,hs⟩,G⟩
     |4,_=>
      simp at m;subst m;have c:=(u.cell (p:=⟨w.heap.size+1+1,0,none⟩) (aA zu)).trans zu;gi_wp2;exact⟨_,⟨rfl,rfl,rfl,rfl,rfl,rfl,rfl,rfl⟩,rfl,br _ _⟩
     |5,_=>
      simp at m;subst m;have d4:f 4=_:=Zq E 4;rw[d4];gi_wp2_with fail
      refine⟨trivial,?_⟩;refine(CallsIn.inRound l2 (CallsIn.inRound lp (cw.2 (m9 a O)))).mono ?_;rintro e w3 ⟨rfl,G⟩;gi_wp2;exact⟨_,by simp[aH,d4],rfl,G⟩
     |6,_=>
      simp at m;subst m;obtain⟨s,d3,hs⟩:∃s:Sp,f 3=s.val/\(aK y.1=true/\aK y.2=true->s=gV y.1 y.2):=Zq E 3;have d5:f 5=_:=Zq E 5;rw[d3,d5];gi_wp2_with fail
      refine⟨trivial,?_⟩;refine(CallsIn.inRound l2 (CallsIn.inRound lp (cw.2 (BL s ⟨0,a⟩ O)))).mono ?_;rintro e w3 ⟨rfl,G⟩;gi_wp2;exact⟨_,by simp[aH,d3,d5],⟨s,rfl,hs⟩,G⟩
     |7,_=>
      simp at m;subst m;obtain⟨s,d6,hs⟩:∃s:Sp,f 6=(cP s ⟨0,a⟩).val/\(aK y.1=true/\aK y.2=true->s=gV y.1 y.2):=Zq E 6;have R:f 0=_:=Zq E 0;rw[R,d6];gi_wp2_with fail
      refine⟨trivial,?_⟩;refine(CallsIn.inRound l2 (CallsIn.inRound lp (cw.2 (IQ a ye (cP s ⟨0,a⟩) P' _ O ⟨ao,Q,l,rfl,zt.zL u,zp,zr⟩ (by show 0<=max s.lo 0;omega) (by show min s.hi a<=a;omega))))).mono ?_;rintro e w3 ⟨⟨v,rfl,hv⟩,G⟩;gi_wp2;exact⟨v,by simp[aH,R,d6],⟨s,hv,hs⟩,G⟩
    case fin2=>
     intro o f O m u E;simp at m;subst m;have bz:Boxed O z 150 (.slice ao l.length Q):=(u.block z T.lt).trans T;obtain⟨s,yg,hs⟩:∃s:Sp,kJ a (λd=>P' d∨((cP s ⟨0,a⟩).lo<=d/\d<=(cP s ⟨0,a⟩).hi)) (f 7) O/\(aK y.1=true/\aK y.2=true->s=gV y.1 y.2):=E 7 (by omega);clear E;have zm:=yg;obtain⟨yn,zv,l7,e7,x7,b7,q7⟩:=yg;rw[e7]at zm ⊢;have cZ:=bz.cell;have fZ:=bz.frozen
     have ys:ZZ a z P (M++[y]) (O.setCell ⟨z,0,none⟩ (.slice yn l7.length zv)):=by
      refine⟨_,vM.store bz zm,λzd d R S=>?_⟩;have hy:=zd y (by simp);have yy:=hs hy;subst yy;have yf:=ze (λp hp=>zd p (by simp[hp])) d R S
      have hw:((cP (gV y.1 y.2) ⟨0,a⟩).lo<=d/\d<=(cP (gV y.1 y.2) ⟨0,a⟩).hi)↔((gV y.1 y.2).lo<=d/\d<=(gV y.1 y.2).hi):=by
       show(max (gV y.1 y.2).lo 0<=d/\d<=min (gV y.1 y.2).hi a)↔_
       omega
      show(P' d∨_)↔_
      rw[hw,yf]
      constructor
      ·rintro((g|⟨p,hp,g⟩)|g)
       ·exact .inl g
       ·exact .inr ⟨p,by simp[hp],g⟩
       ·exact .inr ⟨y,by simp,g⟩
      ·rintro(g|⟨p,hp,g⟩)
       ·exact .inl (.inl g)
       ·rcases lma.1 hp with hp|hp
        ·exact .inl (.inr ⟨p,hp,g⟩)
        ·simp at hp;subst hp;exact .inr g
     gi_wp2;exact⟨((bO u).trans (KeepsOthers.setCell _ _ _)).from _,(bF.of_below u).trans (bF.setCell O z 0 _ rfl),ys,⟨(aC I u).setCell (p:=⟨z,0,none⟩) (by show w.heap.size<=z;omega) _,(C.trans (bF.of_below u)).trans (bF.setCell O z 0 _ rfl)⟩,J.trans (((bO u).trans (KeepsOthers.setCell _ _ _)).from _)⟩
   case done2=>
    rintro ys' B rfl ⟨⟨P',F,ze⟩,⟨I,C⟩,J⟩;gi_wp2;refine⟨J,(bF.of_below L).trans C,⟨P',F,λzd d R S=>?_⟩,I,zx.trans C⟩;have hx:=zd x (by simp);rw[ze (VB yh hx) d R S,hq (λy hy=>zd y (by simp[hy])) d R S,TF]
    constructor
    ·rintro((g|⟨y,hy,g⟩)|g)
     ·exact .inl g
     ·exact .inr ⟨y,by simp[hy],g⟩
     ·exact .inr ⟨x,by simp,g⟩
    ·rintro(g|⟨y,hy,g⟩)
     ·exact .inl (.inl g)
     ·rcases lma.1 hy with hy|hy
      ·exact .inl (.inr ⟨y,hy,g⟩)
      ·simp at hy;subst hy;exact .inr g
   case stop2=>
    rintro c M B _ h;exact h.elim
  case done=>
   rintro D zs W hD rfl ⟨⟨P,zl,hq⟩,zh,zq⟩ hK;obtain⟨ao,Q,l,T,zt,zp,zr⟩:=zl;have c:=T.cell;gi_wp2;refine⟨by simp,.inl ⟨_,_,rfl,run_takeDeferred hK,?_⟩⟩;refine⟨_,results_tmp rfl _ _ _,⟨_,rfl,ao,Q,l,rfl,GQ zt (grownBy_putObj' _ D (.deferred none)) (λr e=>by cases e;exact⟨_,hK,rfl⟩),zp,λd R S=>?_⟩,zh.trans (belowK_b (w:=w) (nlq _) W D _ _ (by have:=zj.size;omega) hK rfl rfl)⟩;rw[zr d R S,hq (λx hx=>yb x (List.mem_filter.1 hx).1) d R S]
  case stop=>
   rintro D c zg W _ _ h _;exact h.elim
end Go.Proofs.YtcdbcliaepcpfaaGreatDoor
namespace Go.Proofs.YtcdbcliaepcpfaaGreatDoor
open Go.RowKit
def dF (d:Int)(b:Bx):Bx:={ b with i:=b.i+d,o:=b.o+d}
def dB (d:Int)(t:List Bx):List Bx:=t.map (dF d)
theorem dR (d:Int)(t:List Bx):(dB d t).length=t.length:=by simp[dB]
theorem g7 (d:Int)(t:List Bx)(i:Nat)(h:i<(dB d t).length):(dB d t)[i]=dF d (t[i]'(by simpa[dB]using h)):=by simp[dB]
def CE (b:Bk)(nm:ByteArray)(t:List Bx)(d:Int):Bool:=aQ b.fl (dB d t)&&jO nm (dB d t) b.hl
def kU (b:Bk)(nm:ByteArray)(t:List Bx)(d:Int):Prop:=(dI t).lo<=d∨∃h∈b.hl,tC nm h.n=true/\(CG t h.tl d∨CG t h.nl d)
theorem TN {t:List Bx}(a:eY t=true):∀(k i:Nat) (h:i+k<t.length),(t[i]'(by omega)).o<=t[i+k].o
 |0,i,h=>Int.le_refl _
 |k+1,i,h=>by
  have h1:=TN a k i (by omega);have b:=(fC t).1 a (i+k) (by omega);simp only[dP,dte]at b;have c:t[i+(k+1)]=t[i+k+1]:=rfl;rw[c];omega
theorem J7 {c:List Fx}{t:List Bx}{d:Int}(h:aQ c t=true)(hd:0<=d):aQ c (dB d t)=decide (¬(dI t).lo<=d):=by
 simp only[aQ,bat]at h;obtain⟨k,s,l,m⟩:=h;have hl:1<=t.length:=by simp only[n6,dte]at k;omega
 have b:l9 t (t.length-1)=t[t.length-1]'(by omega):=gE t _ (by omega);have f:(dI t).lo=10000-(t[t.length-1]'(by omega)).o+1:=by rw[dI,b]
 rw[f];by_cases hc:(t[t.length-1]'(by omega)).o+d<=10000
 ·rw[decide_eq_true (by omega)];have n:n6 (dB d t).length=true:=by rw[dR];exact k
  have p:(dB d t).all aK=true:=by
   rw[lat];intro x hx;obtain⟨i,g,rfl⟩:=lgo hx;have a:i<t.length:=by simpa[dB]using g
   rw[g7];have u:=lat.1 s _ (lgm a);have v:=TN l (t.length-1-i) i (by omega)
   have ho':t[i].o<=(t[t.length-1]'(by omega)).o:=by
    have e:i+(t.length-1-i)=t.length-1:=by omega
    simpa only[e]using v
   simp only[aK,dte]at u ⊢;simp only[dF];omega
  have q:eY (dB d t)=true:=(fC _).2 λi g=>by
   have a:i+1<t.length:=by simpa[dB]using g
   have:=(fC t).1 l i a;rw[g7,g7];simp only[dP,dte]at this ⊢;simp only[dF];omega
  have r:kY c (dB d t)=true:=by
   rw[lC c t (by omega)]at m;rw[lC c (dB d t) (by rw[dR];omega),g7];simp only[dR];exact m
  rw[aQ,n,p,q,r];rfl
 ·rw[decide_eq_false (by omega)]
  have:(dB d t).all aK=false:=by
   rw[Bool.eq_false_iff];intro ha;have j:t.length-1<(dB d t).length:=by rw[dR];omega
   have:=lat.1 ha _ (lgm j);rw[g7]at this;simp only[aK,dte]at this;simp only[dF]at this;omega
  rw[aQ,this];simp
theorem oK {t q:List Bx}{d:Int}(s:(dB d t).all aK=true)(r:q.all aK=true):cW (dB d t) q=true↔CG t q d:=by
 simp only[cW,List.any_eq_true,CG];constructor
 ·rintro⟨x,hx,o,e,h⟩;obtain⟨m,k,rfl⟩:=List.mem_map.1 hx;refine⟨m,k,o,e,?_⟩;simp only[dQ,bat]at h;obtain⟨⟨⟨⟨_,_⟩,a⟩,p⟩,c⟩:=h;have f:lL m o=true:=a;have i:jS m o=true:=p;simp only[pO,dte]at c;simp only[dF]at c;rw[gV,i,f];simp only[Bool.and_self,if_true];omega
 ·rintro⟨m,k,o,e,h⟩;have b:dF d m∈dB d t:=List.mem_map.2 ⟨m,k,rfl⟩;refine⟨dF d m,b,o,e,?_⟩;cases a:(jS m o&&lL m o)with
  |false=>rw[gV,a]at h;simp at h;omega
  |true=>
   rw[gV,a]at h;simp only[if_true]at h;simp only[bat]at a;have l:=lat.1 s _ b;have n:=lat.1 r _ e;have c:pO (dF d m) o=true:=by simp only[pO,dte];simp only[dF];omega
   have g:lL (dF d m) o=true:=a.2;have j:jS (dF d m) o=true:=a.1;rw[dQ,l,n,g,j,c];rfl
theorem sZ {b:Bk}(d:aN b=true){h:Hx}(f:h∈b.hl):h.tl.all aK=true/\h.nl.all aK=true:=by
 simp only[aN,dN,bat]at d;have e:=lat.1 d.2.2.2.2.1 h f;simp only[cI,bat,Bool.or_eq_true]at e;obtain⟨c,_,a⟩:=e;simp only[aQ,bat]at c a;refine⟨c.2.1,?_⟩;rcases a with a|a;·rw[List.isEmpty_iff.1 a];rfl
 ·exact a.1.2.1
theorem T7 {b:Bk}{w:World}(a:aN b=true)(c:∀x∈b.hl,x.In w/\x.Fit):∀x∈gR b.hl c,(x.1.1.pl x.1.2).all aK=true:=by
 intro x hx;have:=sZ a (nV hx);obtain⟨⟨h,s⟩,_⟩:=x;cases s;·exact this.1
 ·exact this.2
theorem yQ {b:Bk}{nm:ByteArray}{t:List Bx}{d:Int}(k:aN b=true)(n:aQ b.fl t=true)(l:0<=d):kU b nm t d↔CE b nm t d=false:=by
 by_cases i:(dI t).lo<=d
 ·rw[CE,J7 n l];simp[kU,i]
 ·have e:aQ b.fl (dB d t)=true:=by rw[J7 n l];simp[i]
  have a:(dB d t).all aK=true:=by simp only[aQ,bat]at e;exact e.2.1
  rw[CE,e,Bool.true_and,UG];constructor
  ·rintro(g|⟨h,m,o,g⟩);·exact absurd g i
   ·rw[Bool.eq_false_iff];intro ha;have:=lat.1 ha h m;rw[iO,o]at this;have c:=sZ k m;rcases g with g|g;·rw[(oK a c.1).2 g]at this;cases this
    ·rw[(oK a c.2).2 g]at this;simp at this
  ·intro h;right
   have:¬∀x∈b.hl,iO nm (dB d t) x=true:=λg=>by
    rw[lat.2 g]at h;cases h
   have:∃x∈b.hl,iO nm (dB d t) x=false:=by
    apply Classical.byContradiction;intro j
    exact this λx hx=>by
     cases f:iO nm (dB d t) x with
     |true=>rfl
     |false=>exact absurd ⟨x,hx,f⟩ j
   obtain⟨x,hx,f⟩:=this;have c:=sZ k hx;refine⟨x,hx,?_⟩;simp only[iO,Bool.not_eq_false',bat,Bool.or_eq_true]at f;refine⟨f.1,?_⟩;rcases f.2 with g|g;·exact .inl ((oK a c.1).1 g)
   ·exact .inr ((oK a c.2).1 g)
theorem RZ {b:Bk}{nm:ByteArray}{t:List Bx}{w:World}{a d:Int}(e:∀x∈b.hl,x.In w/\x.Fit)(f:a<=300)(h0:0<=d)(h1:d<=a):
 ((False∨((cP (dI t) ⟨0,a⟩).lo<=d/\d<=(cP (dI t) ⟨0,a⟩).hi))∨∃x∈(gR b.hl e).filter (pS nm),CG t (x.1.1.pl x.1.2) d)↔kU b nm t d:=by
 have l:((cP (dI t) ⟨0,a⟩).lo<=d/\d<=(cP (dI t) ⟨0,a⟩).hi)↔(dI t).lo<=d:=by
  show(max (dI t).lo 0<=d/\d<=min 300 a)↔_;omega
 rw[l];unfold kU;constructor
 ·rintro((g|g)|⟨x,hx,g⟩);·exact g.elim
  ·exact .inl g
  ·obtain⟨i,j⟩:=List.mem_filter.1 hx;right;refine⟨x.1.1,nV i,j,?_⟩;obtain⟨⟨h,s⟩,_⟩:=x;cases s;·exact .inl g
   ·exact .inr g
 ·rintro(g|⟨h,f,k,g⟩);·exact .inl (.inr g)
  ·right;rcases g with g|g
   ·obtain⟨x,hx,c⟩:=qJ e f false;exact⟨x,List.mem_filter.2 ⟨hx,by rw[pS,c];exact k⟩,by rw[c];exact g⟩
   ·obtain⟨x,hx,c⟩:=qJ e f true;exact⟨x,List.mem_filter.2 ⟨hx,by rw[pS,c];exact k⟩,by rw[c];exact g⟩
theorem tF (b:Bk)(nm:ByteArray)(t:List Bx)(ta:Option Addr)(k:Nat)(a:Int)(h:0<=a)(c:a<=300)(w:World)(ha:pU w b t ta)(s:aN b=true)(u:aQ b.fl t=true):
 aY 109 #[b.val,.string nm,.slice ta t.length k,.int .i64 a] w λe f=>(∃v,e=.returned v/\kJ a (kU b nm t) v f)/\aF w f:=by
 refine(cw.1 (RA 16 (by omega) b nm t ta k a h c w ha (T7 s ha.hgood) u)).mono ?_;rintro e f ⟨⟨v,rfl,m,g,l,n,o,p,q⟩,r⟩;exact⟨⟨v,rfl,m,g,l,n,o,p,λd i j=>(q d i j).trans (RZ ha.hgood c i j)⟩,r⟩
set_option maxRecDepth 100000
set_option maxHeartbeats 2000000
theorem yZ (l:List Bx):∀u∈fA l,u.oneCell'=true:=by
 induction l with
 |nil=>simp[fA]
 |cons a r ih=>
  intro u b;rcases lma.1 b with h|h;·exact mL a u h
  ·exact ih u h
theorem VV {w:World}{c o:Nat}{b:Bx}(h:fL w c o b)(j:Nat)(u:Value)(a:(aR b)[j]?=some u):w.cell? ⟨c,o+j,none⟩=some u:=by
 obtain⟨d,e,f,g,i,k⟩:=h;match j,a with
 |0,a=>simp[aR]at a;subst a;exact d
 |1,a=>simp[aR]at a;subst a;exact e
 |2,a=>simp[aR]at a;subst a;exact f
 |3,a=>simp[aR]at a;subst a;exact g
 |4,a=>simp[aR]at a;subst a;exact i
 |5,a=>simp[aR]at a;subst a;exact k
 |n+6,a=>simp[aR]at a
theorem BM {w:World}{c a:Nat}{t:List Bx}(f:∀k (h:k<t.length),fL w c (a+k*6) t[k]):∀j u,(fA t)[j]?=some u->w.cell? ((⟨c,a,none⟩:Addr).add j)=some u:=by
 intro j u b;have g:j<(fA t).length:=(lgs.1 b).1;rw[lY]at g;have d:j/6<t.length:=by omega
 have e:j=j/6*6+j%6:=by omega
 rw[e,AW t _ d _ (by omega)]at b;rw[Addr.add_lit];have:=VV (f _ d) _ u b;rw[show a+j=a+j/6*6+j%6 by omega];exact this
theorem KZ (t:List Bx)(f b s:Nat)(w:World)(r:∀k (h:k<t.length),fL w f (b+k*6) t[k])(p:1<=t.length)(hn:t.length<=1048576):
 aY 16 #[.slice (some ⟨f,b,none⟩) t.length s] w λe w'=>(∃g a,e=.returned (.slice (some ⟨g,0,none⟩) t.length a)/\w.heap.size<=g/\t.length<=a/\zP w' g a t t.length)/\aF w w':=by
 obtain⟨A,y,m,n,o⟩:=info_parts Tryz.info56
 go_enter Tryz.func16,Tryz.ntmps16
 have j:(w.alloc (.cells #[] 56)).ownsRow w.heap.size 56 6 (.slice (some ⟨w.heap.size,0,none⟩) 0 0) 0 []:=by simpa using World.ownsRow_lit (base:=w.heap.size) (e:=56) (size:=6) w #[] 0 (nlq _) (nz _) rfl
 have hbl:f<w.heap.size:=aA (r 0 (by omega)).1;have l:∀k (h:k<t.length),fL (w.alloc (.cells #[] 56)) f (b+k*6) t[k]:=λk h=>(r k h).zL (aB (br _ _) _)
 go_wp2_with (at_builtin;refine wpList_append_own_at _ rfl (.tmp 3) (.tmp 4) 31 rfl w.heap.size 56 A _ 6 48 Tryz.underlying31 y m n o rfl (by decide) _ _ _ rfl j ⟨f,b,none⟩ t.length s (fA t) rfl (lY t) (BM l) (yZ t) ?qc3 ?qc4 ?qc5 ?_)
 case qc3=>unfold maxLen;omega
 case qc4=>omega
 case qc5=>simp
 intro v' B d c _ _;have u:aF w B:=(aB (br _ _) _).grown c (by simp) (λq z=>by simp[Value.ownBlock]at z;omega)
 rcases aP.of_owns d with⟨_,e⟩|⟨g,a,rfl,x,i,v⟩
 ·rw[e]at p;simp at p
 go_wp2
 go_ret;exact⟨⟨g,a,rfl,x,i,v⟩,u⟩
def IR (d:Int)(t:List Bx)(k:Nat)(i:Nat):Bx:=if i<k then dF d (l9 t i)else l9 t i
theorem KC (t:List Bx)(d:Int)(B n J:Nat)(w:World)(R:∀k (h:k<t.length),fL w B (n+k*6) t[k])(P:1<=t.length)(S:t.length<=1048576)(E:t.all aK=true)(hd0:0<=d)(hd1:d<=300):
 aY 121 #[.slice (some ⟨B,n,none⟩) t.length J,.int .i64 d] w λe w'=>(∃g j,e=.returned (.slice (some ⟨g,0,none⟩) (dB d t).length j)/\jJ w' (some ⟨g,0,none⟩) (dB d t))/\aF w w':=by
 go_enter Tryz.func121,Tryz.ntmps121
 go_wp2_with fail
 refine(KZ t B n J w R P S).mono ?_;rintro e w1 ⟨⟨g,j,rfl,I,hcap,f,a,q⟩,r⟩;go_wp2
 go_loopw [6] (λi wr=>∃k:Nat,k<=t.length/\i=.int .i64 k/\(∃f,wr.rowIs g 56 (j*6) f/\Hid (∀i,i<t.length->YE f i (IR d t k i)))/\aF w wr) (λi _=>t.length-(intOf i).toNat)
 case atStart=>exact⟨0,nz _,rfl,⟨f,a,λi l=>by rw[IR,if_neg (by omega),gE t i l];exact q i l l⟩,r⟩
 case round=>
  clear a q r f;obtain⟨k,hk,rfl,⟨f,a,q⟩,H⟩:=hrel
  by_cases D:k<t.length
  ·have c:=q.out k D
   have s:aK (l9 t k)=true:=rB E k;rw[IR,if_neg (by omega)]at c;obtain⟨b,m⟩:=bP (l9 t k);rw[←m]at c s;have K:=aG m;clear m;have C:0<=b.i/\b.i<=10000/\0<=b.o/\b.o<=10000:=by simp only[aK,dte]at s;omega
   obtain⟨o1,o2,o3,o4⟩:=C;have M:=a.cell (i:=k*6+4) (by omega);have N:=a.cell (i:=k*6+5) (by omega);rw[c.2.2.2.2.1]at M;rw[c.2.2.2.2.2]at N;have L:=aG c;clear c;have hfr:=λi=>a.frozen i;have hgz:g<wr.heap.size:=a.lt;go_wp2
   go_roundw
   case rel=>
    refine⟨k+1,by omega,by go_num,⟨_,(a.set _ _).set _ _,λi l=>?_⟩,(H.setCell (p:=⟨g,_,none⟩) I _).setCell (p:=⟨g,_,none⟩) I _⟩
    by_cases e:i=k
    ·subst e
     rw[IR,if_pos (by omega),←K.oQ];obtain⟨x,y,z,A,F,G⟩:=L.oQ;refine⟨?_,?_,?_,?_,?_,?_⟩<;>simp[x,y,z,A,dF]
    ·have v:=q.out i l
     have O:IR d t (k+1) i=IR d t k i:=by
      unfold IR
      by_cases h:i<k
      ·rw[if_pos (by omega),if_pos h]
      ·rw[if_neg (by omega),if_neg h]
     rw[O];obtain⟨x,y,z,A,F,G⟩:=v;refine⟨?_,?_,?_,?_,?_,?_⟩<;>dsimp only<;>repeat rw[if_neg (by omega)]
     all_goals assumption
   case measure=>simp[intOf];omega
  ·have hke:k=t.length:=by omega
   have Q:jJ wr (some ⟨g,0,none⟩) (dB d t):=by
    refine Or.inr ⟨g,0,rfl,λi l=>?_⟩;have u:i<t.length:=by rw[dR]at l;exact l
    have v:=q.out i u;rw[IR,if_pos (by omega),gE t i u]at v;rw[g7,Nat.zero_add];obtain⟨x,y,z,A,F,G⟩:=v;exact⟨by rw[a.cell (by omega),x],by rw[a.cell (by omega),y],by rw[a.cell (by omega),z],by rw[a.cell (by omega),A],by rw[a.cell (by omega),F],by rw[a.cell (by omega),G]⟩
   go_wp2
   go_ret;exact⟨⟨g,j,by rw[dR];rfl,Q⟩,H⟩
theorem DE (b:Bk)(nm:ByteArray)(t:List Bx)(ta:Option Addr)(K:Nat)(d:Int)(w:World)(ha:pU w b t ta)(A:aQ b.fl t=true)(y:0<=d)(z:d<=300):
 aY 86 #[b.val,.string nm,.slice ta t.length K,.int .i64 d] w λe w'=>e=.returned (.bool (CE b nm t d))/\aF w w':=by
 obtain⟨V,r⟩:=bP (CE b nm t d);rw[←r];have G:=aG r;clear r;simp only[aQ,bat,n6,dte]at A;obtain⟨j,B,_⟩:=A;rcases ha.ht with h|⟨M,E,rfl,N⟩;·rw[h]at j;simp at j
 have f:aF w (w.alloc (.cells #[.int .i64 b.now,.slice b.fa b.fl.length b.fc,.slice b.ha b.hl.length b.hc] 30)):=aB (br _ _) _;have o:=wnq w (.cells #[.int .i64 b.now,.slice b.fa b.fl.length b.fc,.slice b.ha b.hl.length b.hc] 30);go_enter Tryz.func86,Tryz.ntmps86;go_wp2_with fail;refine(KC t d M E K _ (λk h=>(N k h).zL f) j.1 ha.hnt B y z).mono ?_;rintro e F ⟨⟨g,cap,rfl,J⟩,i⟩;have p:aF w F:=aC f i;have l:=(i.block _ (bU o)).trans o;clear o i f;have D:F.cell? ⟨w.heap.size,1,none⟩=some (.slice b.fa b.fl.length b.fc):=aW l rfl;obtain⟨x,hx⟩:=bP (dB d t);have C:x.length<=1048576:=by rw[hx,dR];exact ha.hnt
 have a:pU F b x (some ⟨g,0,none⟩):={ ha.zL p with ht:=by rw[hx];exact J,hnt:=C};have H:=aG hx;rw[←hx];clear hx J;go_wp2_with fail;obtain⟨Q,q⟩:∃v,aQ b.fl x=v:=⟨_,rfl⟩;refine(mH _ _ _ q _ _ _ _ _ a.hf a.ht a.hnf a.hnt).mono ?_;rintro e n ⟨rfl,c⟩;have I:aF w n:=aC p c;have m:=(c.block _ (bU l)).trans l;have s:=a.zL c;clear D l c p a;cases Q with
 |false=>
  go_wp2_with fail;go_ret;exact⟨aD (by rw[G.oQ,CE,←H.oQ,q];rfl),I⟩
 |true=>
 have O:n.cell? ⟨w.heap.size,0,none⟩=some (.int .i64 b.now):=aW m rfl;have D:n.cell? ⟨w.heap.size,1,none⟩=some (.slice b.fa b.fl.length b.fc):=aW m rfl;have P:n.cell? ⟨w.heap.size,2,none⟩=some (.slice b.ha b.hl.length b.hc):=aW m rfl;go_wp2_with fail;refine(sO b nm x _ _ _ s).mono ?_;rintro e R ⟨rfl,u⟩;have L:aF w R:=aC I u;clear O D P m;go_wp2_with fail;go_ret;exact⟨aD (by rw[G.oQ,CE,←H.oQ,q];rfl),L⟩
theorem sE (b:Bk)(t:List Bx)(ta:Option Addr)(q:Nat)(a:Int)(w:World)(ha:pU w b t ta):
 aY 85 #[b.val,.slice ta t.length q,.int .i64 a] w λe w'=>e=.returned (.bool (dA b t a))/\aF w w':=by
 obtain⟨V,l⟩:=bP (dA b t a);rw[←l];have j:=aG l;clear l;have c:aF w (w.alloc (.cells #[.int .i64 b.now,.slice b.fa b.fl.length b.fc,.slice b.ha b.hl.length b.hc] 30)):=aB (br _ _) _;have i:=wnq w (.cells #[.int .i64 b.now,.slice b.fa b.fl.length b.fc,.slice b.ha b.hl.length b.hc] 30);go_enter Tryz.func85,Tryz.ntmps85;go_wp2_with fail;obtain⟨r,h⟩:∃v,aN b=v:=⟨_,rfl⟩;refine(vJ (ha.zL c) _ h).mono ?_;rintro e o ⟨rfl,d⟩;have f:aF w o:=aC c d;have m:=(d.block _ (bU i)).trans i;clear i d c;cases r with
 |false=>
  go_wp2_with fail;go_ret;exact⟨aD (by rw[j.oQ,dA,h];simp),f⟩
 |true=>
 have p:o.cell? ⟨w.heap.size,1,none⟩=some (.slice b.fa b.fl.length b.fc):=aW m rfl;go_wp2_with fail;obtain⟨s,k⟩:∃v,aQ b.fl t=v:=⟨_,rfl⟩;refine(mH _ _ _ k _ _ _ _ _ (ha.hf.zL f) (ha.ht.zL f) ha.hnf ha.hnt).mono ?_;rintro e u ⟨rfl,g⟩;have n:aF w u:=aC f g;clear p m g f;cases s with
 |false=>
  go_wp2_with fail;go_ret;exact⟨aD (by rw[j.oQ,dA,h,k];simp),n⟩
 |true=>
 go_wp2_with fail;refine(dV _ _ _ _).mono ?_;rintro e w5 ⟨rfl,rfl⟩;go_wp2_with fail;go_ret;exact⟨aD (by rw[j.oQ,dA,h,k];simp[fO]),n⟩
def eA (b:Bk)(nm:ByteArray)(t:List Bx)(most:Int)(o:Option Int):Prop:=(dA b t most=true->B9 most (kU b nm t) o)/\(dA b t most=false->o=none)
theorem eA.no {b:Bk}{nm:ByteArray}{t:List Bx}{a:Int}(h:dA b t a=false):eA b nm t a none:=⟨(λg=>by rw[h]at g;cases g),λ_=>rfl⟩
theorem eA.yes {b:Bk}{nm:ByteArray}{t:List Bx}{a:Int}{o:Option Int}(h:dA b t a=true)(c:B9 a (kU b nm t) o):eA b nm t a o:=⟨λ_=>c,λg=>by rw[h]at g;cases g⟩
theorem eA.uniq {b:Bk}{nm:ByteArray}{t:List Bx}{a:Int}{o c:Option Int}(h:eA b nm t a o)(g:eA b nm t a c):o=c:=by
 cases e:dA b t a with
 |true=>exact P6 (λ_ _ _=>Iff.rfl) (h.1 e) (g.1 e)
 |false=>rw[h.2 e,g.2 e]
theorem vP (b:Bk)(nm:ByteArray)(t:List Bx)(ta:Option Addr)(E:Nat)(a:Int)(w:World)(ha:pU w b t ta):
 aY 51 #[b.val,.string nm,.slice ta t.length E,.int .i64 a] w λe w'=>(∃o,e=.returned (dY o)/\eA b nm t a o)/\aF w w':=by
 have c:aF w (w.alloc (.cells #[.int .i64 b.now,.slice b.fa b.fl.length b.fc,.slice b.ha b.hl.length b.hc] 30)):=aB (br _ _) _;have q:=wnq w (.cells #[.int .i64 b.now,.slice b.fa b.fl.length b.fc,.slice b.ha b.hl.length b.hc] 30);obtain⟨L,k⟩:∃v,dA b t a=v:=⟨_,rfl⟩;go_enter Tryz.func51,Tryz.ntmps51;go_wp2_with fail;refine(sE b t ta E a _ (ha.zL c)).mono ?_;rintro e w1 ⟨rfl,f⟩;rw[k];cases L with
 |false=>
  go_wp2;refine bpr (v:=dY none) ?_ rfl ⟨⟨none,rfl,eA.no k⟩,aC c f⟩;simp[results,Tryz.results51,go_sem,dY]
 |true=>
 have F:=aG k;simp only[dA,bat,dte]at k;obtain⟨⟨m0,m1⟩,p,j⟩:=k;go_wp2;obtain⟨G,m⟩:=cK (w.alloc (.cells #[.int .i64 b.now,.slice b.fa b.fl.length b.fc,.slice b.ha b.hl.length b.hc] 30));rw[m]at q c f;clear m;go_loopw [10] (λi wr=>∃d:Int,0<=d/\d<=a+1/\i=.int .i64 d/\aF G wr/\Hid (∀e,0<=e->e<d->kU b nm t e)) (λi _=>(a+1-intOf i).toNat);case atStart=>exact⟨0,Int.le_refl _,by omega,rfl,f,λe k l=>by omega⟩
 case round=>
  clear f;obtain⟨d,g,hd1,rfl,x,z⟩:=hrel;have A:aF w wr:=c.trans (x.mono c.size);have r:=(x.block _ (bU q)).trans q;by_cases D:d<=a
  ·have I:wr.cell? ⟨w.heap.size,0,none⟩=some (.int .i64 b.now):=aW r rfl;have J:wr.cell? ⟨w.heap.size,1,none⟩=some (.slice b.fa b.fl.length b.fc):=aW r rfl;have K:wr.cell? ⟨w.heap.size,2,none⟩=some (.slice b.ha b.hl.length b.hc):=aW r rfl;obtain⟨M,l⟩:∃v,CE b nm t d=v:=⟨_,rfl⟩;go_wp2_with fail;refine(DE b nm t ta E d _ (ha.zL A) j g (by omega)).mono ?_;rintro e w2 ⟨rfl,n⟩;rw[l];have y:=bL x (nlq _) n;have B:=aC A n;clear I J K;cases M with
   |true=>
    have s:Hid (B9 a (kU b nm t) (some d)):=⟨g,D,(λh=>by have:=(yQ p j g).1 h;rw[this]at l;exact absurd l (by simp)),z.out⟩;go_wp2;refine bpr (v:=dY (some d)) ?_ rfl ⟨⟨some d,rfl,eA.yes F.oQ s.oQ⟩,B⟩;simp[results,Tryz.results51,go_sem,dY]
   |false=>
    have C:kU b nm t d:=(yQ p j g).2 l;go_wp2;go_roundw
    case rel=>exact⟨d+1,by omega,by omega,by go_num,y,λe u H=>by
     by_cases h:e=d;·rw[h];exact C
     ·exact z.out e u (by omega)⟩
    case measure=>simp[intOf];omega
  ·have s:Hid (B9 a (kU b nm t) none):=λe u H=>z.out e u (by omega);go_wp2;refine bpr (v:=dY none) ?_ rfl ⟨⟨none,rfl,eA.yes F.oQ s.oQ⟩,A⟩;simp[results,Tryz.results51,go_sem,dY]
theorem vW (b:Bk)(nm:ByteArray)(t:List Bx)(ta:Option Addr)(D:Nat)(a:Int)(w:World)(ha:pU w b t ta):
 aY 70 #[b.val,.string nm,.slice ta t.length D,.int .i64 a] w λe w'=>(∃o,e=.returned (dY o)/\eA b nm t a o)/\aF w w':=by
 have f:aF w (w.alloc (.cells #[.int .i64 b.now,.slice b.fa b.fl.length b.fc,.slice b.ha b.hl.length b.hc] 30)):=aB (br _ _) _;have p:=wnq w (.cells #[.int .i64 b.now,.slice b.fa b.fl.length b.fc,.slice b.ha b.hl.length b.hc] 30);obtain⟨Q,j⟩:∃v,dA b t a=v:=⟨_,rfl⟩;go_enter Tryz.func70,Tryz.ntmps70;go_wp2_with fail;refine(rY b t ta D a _ (ha.zL f)).mono ?_;rintro e E ⟨rfl,g⟩;rw[j];have q:=aC f g;have m:=(g.block _ (bU p)).trans p;clear p f g;cases Q with
 |false=>
  go_wp2;refine bpr (v:=dY none) ?_ rfl ⟨⟨none,rfl,eA.no j⟩,q⟩;simp[results,Tryz.results70,go_sem,dY]
 |true=>
 have F:=aG j;simp only[dA,bat,dte]at j;obtain⟨⟨I,J⟩,B,C⟩:=j;have N:E.cell? ⟨w.heap.size,0,none⟩=some (.int .i64 b.now):=aW m rfl;have O:E.cell? ⟨w.heap.size,1,none⟩=some (.slice b.fa b.fl.length b.fc):=aW m rfl;have P:E.cell? ⟨w.heap.size,2,none⟩=some (.slice b.ha b.hl.length b.hc):=aW m rfl;go_wp2_with fail;refine(tF b nm t ta D a I J _ (ha.zL q) B C).mono ?_;rintro e w2 ⟨⟨v,rfl,M,r,l,rfl,x,s,u⟩,z⟩;have x:=x.1;have K:=aC q z;clear N O P m;go_wp2_with fail;refine(m9 a _).mono ?_;rintro e w3 ⟨rfl,k⟩;have L:=aC K k;have y:=x.zL k;go_wp2_with fail;refine(O6 a I J l M r _ y s).mono ?_;rintro e w4 ⟨⟨o,rfl,c⟩,A⟩;have H:=aC L A
 have G:Hid (B9 a (kU b nm t) o):=by
  cases o with
  |none=>exact λe i n=>(u e i n).1 (c e i n)
  |some d=>exact⟨c.1,c.2.1,λh=>c.2.2.1 ((u d c.1 c.2.1).2 h),λe i n=>(u e i (by have:=c.2.1;omega)).1 (c.2.2.2 e i n)⟩
 cases o with
 |none=>
  unfold dY;go_wp2;refine bpr (v:=dY none) ?_ rfl ⟨⟨none,rfl,eA.yes F.oQ G.oQ⟩,H⟩;simp[results,Tryz.results70,go_sem,dY]
 |some d=>
  unfold dY;go_wp2;refine bpr (v:=dY (some d)) ?_ rfl ⟨⟨some d,rfl,eA.yes F.oQ G.oQ⟩,H⟩;simp[results,Tryz.results70,go_sem,dY]
theorem Tryz.info98:(Tryz.prog.info? 98).map (λi=>(i.zero,i.size,i.bytes))=some (some (.agg #[.int .i64 0,.int .i64 0]),2,16):=by kernel_rfl
def kW (w:World)(base:Nat)(v:Value)(l:List Sp):Prop:=
 (v=.slice none 0 0/\l=[])∨∃g cap,v=.slice (some ⟨g,0,none⟩) l.length cap/\base<=g/\l.length<=cap/\fP 98 2 Sp.cells w g cap l l.length
theorem kW.of_owns {w:World}{base:Nat}{v:Value}{l:List Sp}(h:w.ownsRow base 98 2 v l.length (dO l)):kW w base v l:=by
 obtain⟨_,⟨n,q⟩|⟨g,d,a,n,o,p,k,_,m,r⟩⟩:=h;·exact Or.inl ⟨n,List.eq_nil_of_length_eq_zero q⟩
 ·refine Or.inr ⟨g,d,n,o,k,λi=>a.getD i undef,⟨a,p,m,λi e=>by simp[m,e]⟩,λi e _ j u c=>?_⟩;have f:j<2:=(lgs.1 c).1;rw[←vK l i e j f,←r,List.getElem?_take_of_lt (by omega),Array.getElem?_toList]at c;have b:i*2+j<a.size:=by rw[m];omega
  simp only[Array.getElem?_eq_getElem b,Option.some.injEq]at c;simp[b,c]
theorem kW.zL {w w':World}{base:Nat}{v:Value}{l:List Sp}(h:kW w base v l)(f:aF w w'):kW w' base v l:=by
 rcases h with h|⟨g,a,b,c,d,e⟩;·exact Or.inl h
 ·exact Or.inr ⟨g,a,b,c,d,e.zL f⟩
theorem kW.weak {w:World}{base base':Nat}{v:Value}{l:List Sp}(h:kW w base v l)(f:base'<=base):kW w base' v l:=by
 rcases h with h|⟨g,a,b,c,d,e⟩;·exact Or.inl h
 ·exact Or.inr ⟨g,a,b,Nat.le_trans f c,d,e⟩
theorem kW.xs {w:World}{base:Nat}{v:Value}{l:List Sp}(h:kW w base v l):∃b a,v=.slice b l.length a/\Xs 2 Sp.cells w b l:=by
 rcases h with⟨h,rfl⟩|⟨g,a,c,h2,d,e⟩;·exact⟨none,0,h,Or.inl rfl⟩
 ·exact⟨_,a,c,e.xs (λ_=>rfl) (nlq _) d⟩
def eL (b:Bk)(nm:ByteArray)(t:List Bx)(most:Int)(l:List Sp):Prop:=(dA b t most=true->uY most l/\∀d,0<=d->d<=most->(gS l d↔kU b nm t d))/\(dA b t most=false->l=[])
theorem eL.uniq {b:Bk}{nm:ByteArray}{t:List Bx}{a:Int}{l j:List Sp}(h:eL b nm t a l)(g:eL b nm t a j):l=j:=by
 cases e:dA b t a with
 |false=>rw[h.2 e,g.2 e]
 |true=>
  obtain⟨n,p⟩:=h.1 e;obtain⟨m,o⟩:=g.1 e;refine zI l j n.c m.c λd=>?_;by_cases f:0<=d/\d<=a;·rw[p d f.1 f.2,o d f.1 f.2]
  ·constructor;·rintro⟨s,i,k⟩;have:=n.b s i;omega
   ·rintro⟨s,i,k⟩;have:=m.b s i;omega
theorem eL.no {b:Bk}{nm:ByteArray}{t:List Bx}{a:Int}(h:dA b t a=false):eL b nm t a []:=⟨(λg=>by rw[h]at g;cases g),λ_=>rfl⟩
theorem eL.yes {b:Bk}{nm:ByteArray}{t:List Bx}{a:Int}{l:List Sp}(h:dA b t a=true)(c:uY a l)(e:∀d,0<=d->d<=a->(gS l d↔kU b nm t d)):eL b nm t a l:=⟨λ_=>⟨c,e⟩,λg=>by rw[h]at g;cases g⟩
theorem eL.len {b:Bk}{nm:ByteArray}{t:List Bx}{a:Int}{l:List Sp}(h:eL b nm t a l):l.length<=301:=by
 cases e:dA b t a with
 |false=>rw[h.2 e];simp
 |true=>
  have:=(h.1 e).1;simp only[dA,bat,dte]at e;exact this.len e.1.2
abbrev Sp.obj2 (s:Sp):Obj:=.cells #[.int .i64 s.lo,.int .i64 s.hi] 98
theorem GF (W:World)(g:Nat)(b:g=W.heap.size)(s:Sp):∀j u,(s.cells)[j]?=some u->(W.alloc s.obj2).cell? ((⟨g,0,none⟩:Addr).add j)=some u:=by
 subst b;intro j u a;match j,a with
 |0,a=>simp[Sp.cells]at a;subst a;simp[Addr.add]
 |1,a=>simp[Sp.cells]at a;subst a;simp[Addr.add]
 |n+2,a=>simp[Sp.cells]at a
theorem tS {w:World}{base:Nat}{e:TypeId}{size:Nat}{v:Value}{n:Nat}{xs:List Value}(h:w.ownsRow base e size v n xs):∀k,v.ownBlock=some k->base<=k:=λk a=>(h.lt k a).1
theorem FE (b:Bk)(nm:ByteArray)(t:List Bx)(ta:Option Addr)(O:Nat)(c:Int)(w:World)(ha:pU w b t ta):
 aY 68 #[b.val,.string nm,.slice ta t.length O,.int .i64 c] w λe w'=>(∃v l,e=.returned v/\kW w' w.heap.size v l/\eL b nm t c l)/\aF w w':=by
 obtain⟨i0,hi,L,M,N⟩:=info_parts Tryz.info98;have g:aF w (w.alloc (.cells #[.int .i64 b.now,.slice b.fa b.fl.length b.fc,.slice b.ha b.hl.length b.hc] 30)):=aB (br _ _) _;have B:=wnq w (.cells #[.int .i64 b.now,.slice b.fa b.fl.length b.fc,.slice b.ha b.hl.length b.hc] 30);obtain⟨v1,q⟩:∃v,dA b t c=v:=⟨_,rfl⟩
 go_enter Tryz.func68,Tryz.ntmps68
 go_wp2_with fail
 refine(rY b t ta O c _ (ha.zL g)).mono ?_;rintro e P ⟨rfl,j⟩;rw[q];have C:=aC g j;have A:=(j.block _ (bU B)).trans B;clear B g j
 cases v1 with
 |false=>
  go_wp2
  go_ret;exact⟨⟨_,[],rfl,.inl ⟨rfl,rfl⟩,eL.no q⟩,C⟩
 |true=>
 have V:=aG q;simp only[dA,bat,dte]at q;obtain⟨⟨m0,T⟩,H,K⟩:=q;have k0:P.cell? ⟨w.heap.size,0,none⟩=some (.int .i64 b.now):=aW A rfl;have k1:P.cell? ⟨w.heap.size,1,none⟩=some (.slice b.fa b.fl.length b.fc):=aW A rfl;have k2:P.cell? ⟨w.heap.size,2,none⟩=some (.slice b.ha b.hl.length b.hc):=aW A rfl;go_wp2_with fail
 refine(tF b nm t ta O c m0 T _ (ha.zL C) H K).mono ?_;rintro e p ⟨⟨v,rfl,ao,cap,l,rfl,E,y,Z⟩,G⟩;have E:=E.1;have Q:=aC C G;have hln:l.length<=301:=y.len T;clear k0 k1 k2 A;go_wp2
 go_loopw [9,23] (λv i wr=>∃k:Nat,k<=l.length/\i=.int .i64 k/\wr.ownsRow p.heap.size 98 2 v (l.take k).length (dO (l.take k))/\aF p wr) (λ_ i _=>l.length-(intOf i).toNat)
 case atStart=>exact⟨0,nz _,rfl,World.ownsRow_nil _ _ _ _,br _ _⟩
 case round=>
  obtain⟨k,hk,rfl,a,r⟩:=hrel
  by_cases m:k<l.length
  ·rcases E with h|⟨X,off,rfl,R⟩
   ·subst h;simp at m
   have z:=(R k m).zL r;have J:(l.take k).length=k:=by simp;omega
   obtain⟨s,o⟩:=bP (l[k]);rw[←o]at z;have W:Hid (l.take (k+1)=l.take k++[s]):=by rw[Hid,List.take_succ_eq_append_getElem m,o]
   clear o R;obtain⟨Y,c1⟩:=DW z;have hbz:X<wr.heap.size:=aA Y;have hwz:=r.size;have x:aF p ((wr.alloc s.obj).alloc s.obj2):=aB (aB r _) _
   go_wp2_with (at_builtin;refine wpList_append_own_at _ rfl (.tmp 27) (.tmp 29) 95 rfl p.heap.size 98 i0 _ 2 16 Tryz.underlying95 hi L M N rfl (by decide) _ _ _ rfl ((a.alloc _).alloc _) ⟨wr.heap.size+1,0,none⟩ 1 1 s.cells rfl rfl ?qc1 ?qc2 ?qc3 ?qc4 ?qc5 ?_)
   case qc1=>first|exact λ_ _ h=>h|exact GF _ _ (by simp) s
   case qc2=>intro u S;simp[Sp.cells]at S;rcases S with rfl|rfl<;>rfl
   case qc3=>unfold maxLen;omega
   case qc4=>omega
   case qc5=>simp;omega
   intro v' U f d _ F;have D:aF p U:=x.grown d (by simp;omega) (tS a);have n:U.ownsRow p.heap.size 98 2 v' (l.take (k+1)).length (dO (l.take (k+1))):=by rw[W.oQ,dG,List.length_append,J];simpa[dO]using f
   clear a f d F r x;go_wp2
   go_roundw
   case rel=>exact⟨k+1,by omega,by go_num,n,D⟩
   case measure=>simp[intOf];omega
  ·have I:l.take k=l:=ltl (by omega)
   rw[I]at a;go_wp2
   go_ret;exact⟨⟨_,l,rfl,(kW.of_owns a).weak Q.size,eL.yes V.oQ y Z⟩,aC Q r⟩
structure sP (P:Int->Prop)(l:List Sp)(d:Int):Prop where
 c:jZ l
 b:∀s∈l,0<=s.lo/\s.hi<d
 m:∀e,0<=e->e<d->(gS l e↔P e)
theorem UP (P:Int->Prop):sP P [] 0:=⟨qY,by simp,λe h1 h2=>by omega⟩
theorem sP.pass {P:Int->Prop}{l:List Sp}{d:Int}(h:sP P l d)(i:¬P d):sP P l (d+1):=
 ⟨h.c,λs a=>by have:=h.b s a;omega,λe f h2=>by
  by_cases j:e=d
  ·subst j;exact⟨λ⟨s,a,g⟩=>by have:=h.b s a;omega,λg=>absurd g i⟩
  ·exact h.m e f (by omega)⟩
theorem sP.new {P:Int->Prop}{l:List Sp}{d:Int}(h:sP P l d)(a:0<=d)(i:P d)(k:∀s∈l,s.hi+1<d):sP P (l++[⟨d,d⟩]) (d+1):=by
 refine⟨h.c.add (Int.le_refl _) k,λs n=>?_,λe f h2=>?_⟩
 ·rcases lma.1 n with g|g;·have:=h.b s g;omega
  ·simp at g;subst g;exact⟨a,by show d<d+1;omega⟩
 ·rw[eK,mX];by_cases j:e=d;·subst j;exact⟨λ_=>i,λ_=>.inr ⟨Int.le_refl _,Int.le_refl _⟩⟩
  ·rw[h.m e f (by omega)];constructor
   ·rintro(g|g);·exact g
    ·have g1:d<=e:=g.1;omega
   ·exact .inl
theorem sP.grow {P:Int->Prop}{l:List Sp}{s:Sp}{d:Int}(h:sP P (l++[s]) d)(hs:s.hi=d-1)(n:P d):sP P (l++[⟨s.lo,d⟩]) (d+1):=by
 obtain⟨k,hn,ha⟩:=h.c.snoc;have f:=h.b s (by simp);refine⟨k.add (by show s.lo<=d;omega) (λa m=>by have:=ha a m;unfold kF at*;exact this),λx hx=>?_,λe j h2=>?_⟩
 ·rcases lma.1 hx with g|g;·have:=h.b x (by simp[g]);omega
  ·simp at g;subst g;exact⟨f.1,by show d<d+1;omega⟩
 ·rw[eK,mX];by_cases o:e=d;·subst o;exact⟨λ_=>n,λ_=>.inr ⟨by show s.lo<=e;omega,Int.le_refl _⟩⟩
  ·have:=h.m e j (by omega);rw[eK,mX]at this;rw[←this];show(gS l e∨(s.lo<=e/\e<=d))↔_;have i:(s.lo<=e/\e<=d)↔(s.lo<=e/\e<=s.hi):=by omega
   rw[i]
theorem sP.len {P:Int->Prop}{l:List Sp}{d:Int}(h:sP P l d)(hd:d<=301):l.length<=301:=by
 have:=kE l 0 300 h.c (λs a=>by have:=h.b s a;omega);omega
end Go.Proofs.YtcdbcliaepcpfaaGreatDoor
