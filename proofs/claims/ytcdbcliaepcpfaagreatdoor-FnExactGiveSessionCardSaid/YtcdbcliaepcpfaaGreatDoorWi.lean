import Derived.Test.YtcdbcliaepcpfaaGreatDoorSm0
namespace Go.Proofs.YtcdbcliaepcpfaaGreatDoor
open Go.RowKit
structure Cx where
 x:Int
 y:Int
abbrev Cx.val (c:Cx):Value:=.agg #[.int .i64 c.x,.int .i64 c.y]
def Cx.cells (c:Cx):List Value:=[.int .i64 c.x,.int .i64 c.y]
theorem Cx.cells_length (c:Cx):c.cells.length=2:=rfl
structure Yx where
 a:Option Addr
 l:List Cx
 c:Nat
abbrev Yx.val (y:Yx):Value:=.agg #[.slice y.a y.l.length y.c]
def Yx.cells (y:Yx):List Value:=[.slice y.a y.l.length y.c]
theorem Yx.cells_length (y:Yx):y.cells.length=1:=rfl
def Yx.In (w:World)(y:Yx):Prop:=Xs 2 Cx.cells w y.a y.l
theorem Yx.In.zL {w w':World}{y:Yx}(h:y.In w)(a:aF w w'):y.In w':=Xs.zL h a
def eW (i:Int):List Value:=[.int .i64 i]
structure Wx where
 n:ByteArray
 q:Int
 s:Int
 f:Int
 b:Int
 l:Int
 wa:Option Addr
 wl:List Yx
 wc:Nat
 la:Option Addr
 ll:List Int
 lc:Nat
abbrev Wx.val (x:Wx):Value:=.agg #[.string x.n,.int .i64 x.q,.int .i64 x.s,.int .i64 x.f,.int .i64 x.b,.int .i64 x.l,.slice x.wa x.wl.length x.wc,.slice x.la x.ll.length x.lc]
structure Wx.In (w:World)(x:Wx):Prop where
 ws:Xs 1 Yx.cells w x.wa x.wl
 yn:∀y∈x.wl,y.In w
 ls:Xs 1 eW w x.la x.ll
theorem Wx.In.zL {w w':World}{x:Wx}(h:x.In w)(a:aF w w'):x.In w':=⟨h.ws.zL a,λy m=>(h.yn y m).zL a,h.ls.zL a⟩
structure Wx.Fit (x:Wx):Prop where
 wn:x.wl.length<=1048576
 yn:∀y∈x.wl,y.l.length<=1048576
 ln:x.ll.length<=1048576
 sn:x.n.size<=9223372036854775807
def fM (c:Cx):Bool:=iD c.x c.y
def iU (a b:Cx):Bool:=decide (-1<=b.x-a.x/\b.x-a.x<=1/\-1<=b.y-a.y/\b.y-a.y<=1/\¬(b.x=a.x/\b.y=a.y))
def iA:List Cx->Bool
 |a::b::r=>iU a b&&iA (b::r)
 |_=>true
theorem pE:∀l:List Cx,iA l=true↔∀i (h:i+1<l.length),iU l[i] l[i+1]=true
 |[]=>by simp[iA]
 |[a]=>by simp[iA]
 |a::b::r=>by
  rw[iA,bat,pE (b::r)];constructor
  ·rintro⟨h,d⟩ i c;cases i with
   |zero=>exact h
   |succ i=>exact d i (by simpa using c)
  ·intro h;exact⟨h 0 (by simp),λi c=>h (i+1) (by simpa using c)⟩
theorem uK (l:List Cx)(i:Nat)(h:i+1<l.length)(a:iU l[i] l[i+1]=false):iA l=false:=by
 rw[Bool.eq_false_iff];intro b;have:=(pE l).1 b i h;rw[a]at this;cases this
theorem iZ {α:Type}(p:α->Bool)(l:List α)(k:Nat)(h:k<l.length)(a:p l[k]=false):l.all p=false:=by
 rw[Bool.eq_false_iff];intro ha;have:=lat.1 ha l[k] (lgm h);rw[a]at this;cases this
theorem mQ {α:Type}(p:α->Bool)(l:List α)(k:Nat)(h:k<l.length):(l.take (k+1)).all p=((l.take k).all p&&p l[k]):=by
 rw[List.take_succ_eq_append_getElem h,List.all_append];simp only[List.all_cons,List.all_nil,Bool.and_true]
def zB (n:Nat):Bool:=decide (2<=n/\n<=40)
def k9 (l:List Cx)(j:Nat):Cx:=l[j]?.getD ⟨0,0⟩
theorem i8 (l:List Cx)(j:Nat)(h:j<l.length):k9 l j=l[j]:=by simp[k9,h]
def wW (fl:List Fx)(l:List Cx):Bool:=BV fl (k9 l 0).x (k9 l 0).y&&BV fl (k9 l (l.length-1)).x (k9 l (l.length-1)).y
def jI (fl:List Fx)(l:List Cx):Bool:=zB l.length&&(l.all fM&&(iA l&&wW fl l))
def oE (n:Nat):Bool:=decide (1<=n/\n<=3)
def ES (n:Nat):Bool:=decide (1<=n/\n<=6)
def nM (fl:List Fx)(l:List Yx):Bool:=oE l.length&&l.all λy=>jI fl y.l
def yA (i:Int):Bool:=decide (1<=i/\i<=6)
def iN (l:List Int):Bool:=ES l.length&&l.all yA
def n9 (x:Wx):Bool:=decide (1<=x.q/\x.q<=x.s/\x.s<=50/\0<=x.f/\x.f<=x.b/\x.b<=10000)
def rU (i:Int):Bool:=decide (0<=i/\i<=300)
def eJ (fl:List Fx)(x:Wx):Bool:=cB fl&&(cS x.n&&(n9 x&&(rU x.l&&(nM fl x.wl&&iN x.ll))))
def iC (x:Wx)(late:Int):Bool:=fO x.q 1 50&&fO x.s 1 50&&fO x.f 0 10000&&fO x.b 0 10000&&fO late 0 300
def yB (k n lev:Int):Int:=min lev (min k (n-1-k))
def lU (x:Wx)(cs:List Cx)(lev late:Int)(k:Nat):Bx:=
 let here:=yB k cs.length lev
 let bef:=if k=0 then here else yB ((k:Int)-1) cs.length lev
 ⟨(k9 cs k).x,(k9 cs k).y,min bef here,max bef here,x.f+late+k*x.q,x.b+late+((k:Int)+1)*x.s-1⟩
def pX (x:Wx)(cs:List Cx)(lev late:Int):List Bx:=(List.range (min cs.length 40)).map (lU x cs lev late)
def CA (l:List Yx)(j:Nat):Yx:=l[j]?.getD ⟨none,[],0⟩
theorem yS (l:List Yx)(j:Nat)(h:j<l.length):CA l j=l[j]:=by simp[CA,h]
def MU (l:List Int)(j:Nat):Int:=l[j]?.getD 0
theorem OK (l:List Int)(j:Nat)(h:j<l.length):MU l j=l[j]:=by simp[MU,h]
def l8 (n:Nat)(i:Int):Bool:=decide (0<=i/\i<n)
def bM (x:Wx)(way lev late:Int):List Bx:=
 if l8 x.wl.length way&&(l8 x.ll.length lev&&iC x late)then pX x (CA x.wl way.toNat).l (MU x.ll lev.toNat) late else[]
set_option maxRecDepth 100000
set_option maxHeartbeats 1000000
abbrev VP (lo hi:Int):Value:=.agg #[.int .i64 lo,.int .i64 hi]
theorem o6 (b a n:Int)(w:World):
 aY 152 #[VP b a,.int .i64 n] w λe w'=>e=.returned (.bool (fO n b a))/\aF w w':=by
 go_enter Tryz.func152,Tryz.ntmps152
 go_wp2
 all_goals go_ret
 all_goals refine⟨aD ?_,aB (br _ _) _⟩
 all_goals (rw[Bool.eq_iff_iff];simp only[fO,dte,Bool.false_eq_true,false_iff];omega)
theorem BO (b a:Int)(w:World):
 aY 214 #[VP b a] w λe w'=>e=.returned (.bool (decide (a<b)))/\aF w w':=by
 go_enter Tryz.func214,Tryz.ntmps214
 go_wp2
 all_goals go_ret
 all_goals refine⟨aD ?_,aB (br _ _) _⟩
 all_goals rfl
theorem xT (n:Int)(w:World):
 aY 111 #[.int .i64 n] w λe w'=>e=.returned (VP 0 n)/\aF w w':=by
 go_enter Tryz.func111,Tryz.ntmps111;go_wp2;refine bpr (v:=VP 0 n) ?_ rfl ⟨rfl,aB (br _ _) _⟩;simp[results,Tryz.results111,go_sem]
theorem zD (a b c d:Int)(w:World):
 aY 236 #[VP a b,VP c d] w λe w'=>e=.returned (.bool (fO a c d&&fO b c d))/\aF w w':=by
 obtain⟨l,k⟩:∃v,fO a c d=v:=⟨_,rfl⟩;rw[k];have h:aF w ((w.alloc (.cells #[.int .i64 a,.int .i64 b] 152)).alloc (.cells #[.int .i64 c,.int .i64 d] 152)):=aB (aB (br _ _) _) _;go_enter Tryz.func236,Tryz.ntmps236;go_wp2_with fail;refine(o6 _ _ _ _).mono ?_;rintro e j ⟨rfl,f⟩;rw[k];have k1:j.cell? ⟨w.heap.size,1,none⟩=some (.int .i64 b):=(f.cell (p:=⟨w.heap.size,1,none⟩) (by simp;omega)).trans (by simp);have k2:j.cell? ⟨w.heap.size+1,0,none⟩=some (.int .i64 c):=(f.cell (p:=⟨w.heap.size+1,0,none⟩) (by simp)).trans (by simp);have k3:j.cell? ⟨w.heap.size+1,1,none⟩=some (.int .i64 d):=(f.cell (p:=⟨w.heap.size+1,1,none⟩) (by simp)).trans (by simp);have g:=aC h f;cases l with
 |false=>
  go_wp2;go_ret;exact⟨rfl,g⟩
 |true=>
  go_wp2_with fail;refine(o6 _ _ _ _).mono ?_;rintro e w2 ⟨rfl,i⟩;go_wp2;go_ret;exact⟨rfl,aC g i⟩
abbrev RO (q s f b:Int):Value:=.agg #[.int .i64 q,.int .i64 s,.int .i64 f,.int .i64 b]
abbrev Wx.obj (x:Wx):Obj:=.cells #[.string x.n,.int .i64 x.q,.int .i64 x.s,.int .i64 x.f,.int .i64 x.b,.int .i64 x.l,.slice x.wa x.wl.length x.wc,.slice x.la x.ll.length x.lc] 84
def qC (q s f b:Int):Bool:=fO q 1 50&&fO s 1 50&&(fO f 0 10000&&fO b 0 10000)
def E9 (q s f b:Int):Bool:=!decide (s<q)&&!decide (b<f)
theorem xR (q s f b:Int)(w:World):
 aY 190 #[RO q s f b] w λe w'=>e=.returned (.bool (qC q s f b))/\aF w w':=by
 unfold qC;obtain⟨j,h⟩:∃v,(fO q 1 50&&fO s 1 50)=v:=⟨_,rfl⟩;rw[h];have d:aF w (w.alloc (.cells #[.int .i64 q,.int .i64 s,.int .i64 f,.int .i64 b] 221)):=aB (br _ _) _;go_enter Tryz.func190,Tryz.ntmps190;go_wp2_with fail;refine(zD _ _ _ _ _).mono ?_;rintro e i ⟨rfl,a⟩;rw[h];have k1:i.cell? ⟨w.heap.size,2,none⟩=some (.int .i64 f):=(a.cell (p:=⟨w.heap.size,2,none⟩) (by simp)).trans (by simp);have k2:i.cell? ⟨w.heap.size,3,none⟩=some (.int .i64 b):=(a.cell (p:=⟨w.heap.size,3,none⟩) (by simp)).trans (by simp);have c:=aC d a;cases j with
 |false=>
  go_wp2;go_ret;exact⟨rfl,c⟩
 |true=>
  go_wp2_with fail;refine(zD _ _ _ _ _).mono ?_;rintro e w2 ⟨rfl,g⟩;go_wp2;go_ret;exact⟨rfl,aC c g⟩
theorem I7 (q s f b:Int)(w:World):
 aY 191 #[RO q s f b] w λe w'=>e=.returned (.bool (E9 q s f b))/\aF w w':=by
 unfold E9;obtain⟨j,h⟩:∃v,decide (s<q)=v:=⟨_,rfl⟩;rw[h];have d:aF w (w.alloc (.cells #[.int .i64 q,.int .i64 s,.int .i64 f,.int .i64 b] 221)):=aB (br _ _) _;go_enter Tryz.func191,Tryz.ntmps191;go_wp2_with fail;refine(BO _ _ _).mono ?_;rintro e i ⟨rfl,a⟩;rw[h];have k1:i.cell? ⟨w.heap.size,2,none⟩=some (.int .i64 f):=(a.cell (p:=⟨w.heap.size,2,none⟩) (by simp)).trans (by simp);have k2:i.cell? ⟨w.heap.size,3,none⟩=some (.int .i64 b):=(a.cell (p:=⟨w.heap.size,3,none⟩) (by simp)).trans (by simp);have c:=aC d a;cases j with
 |true=>
  go_wp2;go_ret;exact⟨rfl,c⟩
 |false=>
  go_wp2_with fail;refine(BO _ _ _).mono ?_;rintro e w2 ⟨rfl,g⟩;go_wp2;go_ret;exact⟨rfl,aC c g⟩
theorem sR (x:Wx)(w:World):
 aY 189 #[x.val] w λe w'=>e=.returned (RO x.q x.s x.f x.b)/\aF w w':=by
 go_enter Tryz.func189,Tryz.ntmps189;go_wp2;refine bpr (v:=RO x.q x.s x.f x.b) ?_ rfl ⟨rfl,aB (aB (br _ _) _) _⟩;simp[results,Tryz.results189,go_sem]
theorem M9 (x:Wx):n9 x=(qC x.q x.s x.f x.b&&E9 x.q x.s x.f x.b):=by
 rw[Bool.eq_iff_iff];simp only[n9,qC,E9,fO,bat,Bool.not_eq_true',dte,decide_eq_false_iff_not];omega
theorem QY (x:Wx)(w:World):
 aY 188 #[x.val] w λe w'=>e=.returned (.bool (n9 x))/\aF w w':=by
 rw[M9];obtain⟨C,n⟩:∃v,qC x.q x.s x.f x.b=v:=⟨_,rfl⟩;rw[n];have h:aF w (w.alloc x.obj):=aB (br _ _) _;have o:(w.alloc x.obj).heap[w.heap.size]?=some x.obj:=wnq w x.obj;go_enter Tryz.func188,Tryz.ntmps188;go_wp2_with fail;refine(sR x _).mono ?_;rintro e w1 ⟨rfl,d⟩;have c:=(d.block _ (bU o)).trans o;have i:=aC h d;go_wp2_with fail;refine(xR _ _ _ _ _).mono ?_;rintro e w2 ⟨rfl,g⟩;rw[n];have k:=(g.block _ (bU c)).trans c;have a:=aC i g;cases C with
 |false=>
  go_wp2;go_ret;exact⟨rfl,a⟩
 |true=>
  obtain⟨p,r,t,u,y,z,A,B⟩:=gJ k;go_wp2_with fail;refine(sR x _).mono ?_;rintro e w3 ⟨rfl,l⟩;have j:=aC a l;clear p r t u y z A B;go_wp2_with fail;refine(I7 _ _ _ _ _).mono ?_;rintro e w4 ⟨rfl,m⟩;go_wp2;go_ret;exact⟨rfl,aC j m⟩
theorem SA (x:Wx)(w:World):
 aY 192 #[x.val] w λe w'=>e=.returned (.bool (rU x.l))/\aF w w':=by
 have a:aF w (w.alloc x.obj):=aB (br _ _) _;have c:(w.alloc x.obj).heap[w.heap.size]?=some x.obj:=wnq w x.obj;have d:(w.alloc x.obj).cell? ⟨w.heap.size,5,none⟩=some (.int .i64 x.l):=aJ c rfl;have hne:Nonempty (cO (w.alloc x.obj)):=⟨⟨_,br _ _⟩⟩;have f5:=cO.cell d
 go_enter Tryz.func192,Tryz.ntmps192
 go_wp2_with fail
 refine bC (by kernel_rfl) (by kernel_rfl) ?_
 repeat (go_big_quiet_step (first|(go_at_call 111;exact cO.call _ (xT _ _))|(go_at_call 152;exact cO.call _ (o6 _ _ _ _))))
 refine wpQuiet_nil ?_;rintro _ ⟨s,rfl⟩;have b:=s.h;go_wp2
 go_ret;exact⟨aD rfl,aC a b⟩
theorem Tryz.info120:(Tryz.prog.info? 120).map (λi=>(i.zero,i.size,i.bytes))=some (some (.agg #[.int .i64 0,.int .i64 0]),2,16):=by kernel_rfl
theorem Tryz.info118:(Tryz.prog.info? 118).map (λi=>(i.zero,i.size,i.bytes))=some (some (.agg #[.slice none 0 0]),1,24):=by kernel_rfl
theorem pM {w:World}{a o:Nat}{f:Cx}(h:aZ w a o f.cells):w.cell? ⟨a,o,none⟩=some (.int .i64 f.x)/\w.cell? ⟨a,o+1,none⟩=some (.int .i64 f.y):=
 ⟨h 0 _ rfl,h 1 _ rfl⟩
theorem NR {w:World}{b o:Nat}{f:Yx}(h:aZ w b o f.cells):w.cell? ⟨b,o,none⟩=some (.slice f.a f.l.length f.c):=h 0 _ rfl
theorem NK {w:World}{a o:Nat}{i:Int}(h:aZ w a o (eW i)):w.cell? ⟨a,o,none⟩=some (.int .i64 i):=h 0 _ rfl
structure E8 (l m:List Yx):Prop where
 len:m.length=l.length
 like:∀k (h:k<l.length),(m[k]'(by omega)).l=l[k].l
end Go.Proofs.YtcdbcliaepcpfaaGreatDoor
namespace Go.Proofs.YtcdbcliaepcpfaaGreatDoor
set_option maxRecDepth 100000
set_option maxHeartbeats 2000000
open Go.RowKit Go.Shelf
attribute [local go_sem] Oper.semAt_some
abbrev PC:={ p:Cx×Cx//fM p.1=true/\fM p.2=true}
theorem NX {l:List Cx}(h:l.all fM=true)(j:Nat):fM (k9 l j)=true:=by
 by_cases a:j<l.length;·rw[i8 l j a];exact lat.1 h _ (lgm a)
 ·simp[k9,Nat.le_of_not_lt a];decide
def nY (l:List Cx)(h:l.all fM=true)(j:Nat):PC:=⟨(k9 l j,k9 l (j+1)),NX h j,NX h (j+1)⟩
theorem vV {w w':World}{a o B:Nat}{c:List Value}(h:aZ w a o c)(b:Below B w w')(e:a<B):aZ w' a o c:=λj v d=>(b.cell (p:=⟨a,o+j,none⟩) e).trans (h j v d)
theorem RT (n:Nat)(U D c u m G:Nat)(l:List Cx)(g:l.all fM=true)(N:1<=l.length)(hlen:l.length<=1048576)(T:u<c)(H:D<c)
 (J O:List PC->World->Prop)(W:World)(y:AbidesFrom W.heap.size J)
 (S:∀d (x:PC) W,J d W->d.length<l.length-1->YieldAt Fence.wide (n-1) Tryz.prog U #[x.1.1.val,x.1.2.val] W λe t=>
  (e=.returned (.bool true)/\J (d++[x]) t/\Below c W t)∨(e=.returned (.bool false)/\O (d++[x]) t))
 (w:W.cell? ⟨D,0,none⟩=some (.slice (some ⟨u,m,none⟩) l.length G))(K:∀j (h:j<l.length),aZ W u (m+j*2) l[j].cells)(P:J [] W):
 CallsIn Fence.wide n Tryz.prog 272 #[.func (.yield U) #[] #[],.pointer (some ⟨D,0,none⟩)] W λe t=>(∃v,e=.returned v)/\
  ((∃V,V=cE (nY l g) (l.length-1)/\J V t)∨(∃d,(∃k,k<=l.length-1/\d=cE (nY l g) k)/\O d t)):=by
 refine callsIn_of_wp Tryz.func272 rfl trivial ?_ rfl;simp only[Tryz.ntmps272,lsz,llc,lln,Nat.reduceAdd,Nat.reduceSub,ars,arz,lpt,lap,lna,lca];gi_wp2
 gi_loopw [3] (λi wr=>∃k:Nat,k+1<=l.length/\i=.int .i64 ((k:Int)+1)/\J (cE (nY l g) k) wr/\Below c W wr)
  (λi _=>l.length-(intOf i).toNat)
 case atStart=>exact⟨0,N,rfl,P,br _ _⟩
 case round=>
  obtain⟨k,hk,rfl,o,f⟩:=hrel;have hcb:=(f.cell (p:=⟨D,0,none⟩) H).trans w
  by_cases B:k+1<l.length
  ·have z:J (cE (nY l g) k) wr.drew:=y _ _ _ none o (oU wr) (λr e=>by cases e)
   obtain⟨fn,tmps,assign,body,C,Q⟩:=S _ (nY l g k) wr.drew z (by rw[eI];omega)
   dsimp only[nY]at C
   have R:Below c wr wr.drew:=(br _ _).drew;have q:aZ wr u (m+k*2) (k9 l k).cells:=by rw[i8 l k (by omega)];exact vV (K k (by omega)) f T
   have s:aZ wr u (m+(k+1)*2) (k9 l (k+1)).cells:=by rw[i8 l (k+1) B];exact vV (K (k+1) B) f T
   generalize k9 l k=a at C q;generalize k9 l (k+1)=b at C s;obtain⟨X,Y⟩:=pM q;obtain⟨Z,d1⟩:=pM s;have hi0:(0:Int)<=(k:Int):=by omega
   have hi1:(k:Int)<(l.length:Int):=by omega
   have hi2:(k:Int)+1<(l.length:Int):=by omega
   have hi3:(0:Int)<=(k:Int)+1:=by omega
   have E:=aG (f.trans R);have F:=Q;clear Q K w P o z f R S y q s;gi_wp2_with fail
   refine jB 10 (by kernel_rfl) (by kernel_rfl) ?_;simp only[lts,List.take_zero,lds,List.drop_zero]
   repeat (go_big_quiet_step (fail))
   refine wpQuiet_nil ?_;clear X Y Z d1;gi_wp2_with fail
   refine⟨λh=>(by cases h),?_⟩;refine RoundIn.mono F ?_;rintro e W3 (⟨rfl,I,L⟩|⟨rfl,A⟩)
   ·clear F C
    gi_wp2
    go_roundw
    case rel=>exact⟨k+1,by omega,by go_num,by rw[eH];exact I,E.oQ.trans L⟩
    case measure=>simp[intOf];omega
   ·clear F C
    gi_wp2;refine bpr (results_none rfl _ _ _) rfl ?_;exact⟨⟨_,rfl⟩,.inr ⟨_,⟨k+1,by omega,(eH _ _).symm⟩,A⟩⟩
  ·have M:k=l.length-1:=by omega
   gi_wp2
   go_end0
   exact⟨⟨_,rfl⟩,.inl ⟨_,rfl,by rw[←M];exact o⟩⟩
theorem UK (F:Fence)(n:Nat)(f:F.fn 270)(d:F.round=none)(a:Option Addr)(c b:Nat)(w:World):
 CallsIn F n Tryz.prog 270 #[.slice a c b] w λe w'=>e=.returned (.func (.func 272) #[] #[.pointer (some ⟨w.heap.size,0,none⟩)])/\w'=w.alloc (.cells #[.slice a c b] 116):=by
 refine callsIn_of_wp Tryz.func270 rfl f ?_ d;simp only[Tryz.ntmps270,lsz,llc,lln,Nat.reduceAdd,Nat.reduceSub,ars,arz,lpt,lap,lna,lca];gi_wp2;go_ret;exact⟨rfl,rfl⟩
theorem J9 (n:Nat)(c i b d:Nat)(l:List Cx)(a:l.all fM=true)(m:1<=l.length)(g:l.length<=1048576)(w:World)
 (f:w.cell? ⟨c,0,none⟩=some (.slice (some ⟨i,b,none⟩) l.length d))(s:∀j (h:j<l.length),aZ w i (b+j*2) l[j].cells):
 SeqStopsK Fence.wide n Tryz.prog 272 #[.pointer (some ⟨c,0,none⟩)] (λx:PC=>#[x.1.1.val,x.1.2.val]) (Below w.heap.size) (λA=>A=cE (nY l a) (l.length-1)) (λo=>∃k,k<=l.length-1/\o=cE (nY l a) k) (l.length-1) w:=λz J t W q v _ y u=>by
 have r:i<w.heap.size:=aA (pM (s 0 (by omega))).1;have e:c<w.heap.size:=aA f;exact RT n z c w.heap.size i b d l a m g r e J t W v y ((q.cell (p:=⟨c,0,none⟩) e).trans f) (λj h=>vV (s j h) q r) u
theorem MS {l:List Cx} {a:l.all fM=true} (h:∀x∈cE (nY l a) (l.length-1),iU x.1.1 x.1.2=true):iA l=true:=by
 refine(pE l).2 λi b=>?_;have:=h (nY l a i) (by simp only[cE,List.mem_map,List.mem_range];exact⟨i,by omega,rfl⟩);simp only[nY]at this;rwa[i8 l i (by omega),i8 l (i+1) b]at this
theorem MQ {l:List Cx}{a:l.all fM=true}{k:Nat}(hk:k<=l.length-1){x:PC}(hx:x∈cE (nY l a) k)(h:iU x.1.1 x.1.2=false):iA l=false:=by
 simp only[cE,List.mem_map,List.mem_range]at hx;obtain⟨i,hi,rfl⟩:=hx;simp only[nY]at h;rw[i8 l i (by omega),i8 l (i+1) (by omega)]at h;exact uK l i (by omega) h
def xZ (w:World)(bl:Nat)(c:Cx):Prop:=w.cell? ⟨bl,0,none⟩=some (.int .i64 c.x)/\w.cell? ⟨bl,1,none⟩=some (.int .i64 c.y)
theorem xZ.zL {w w':World}{a:Nat}{c:Cx}(h:xZ w a c)(b:aF w w'):xZ w' a c:=⟨(b.cell (aA h.1)).trans h.1,(b.cell (aA h.2)).trans h.2⟩
theorem DL {W d:World}{c:Option Nat}{e:Nat}{b:Cx}(h:xZ W e b)(f:W.grownBy d c)(a:∀r,c=some r->∃o:Obj,W.heap[r]?=some o/\o.isCells=false):xZ d e b:=
 ⟨cell_kept h.1 f a,cell_kept h.2 f a⟩
theorem I8 (W:World)(g:Nat)(a:g=W.heap.size)(b:Cx)(t:Nat):xZ (W.alloc (.cells #[.int .i64 b.x,.int .i64 b.y] t)) g b:=by
 subst a;constructor<;>simp
end Go.Proofs.YtcdbcliaepcpfaaGreatDoor
