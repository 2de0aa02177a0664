import Derived.Test.YtcdbcliaepcpfaaGreatDoorBehind
import Derived.Test.YtcdbcliaepcpfaaGreatDoorNear2
namespace Go.Proofs.YtcdbcliaepcpfaaGreatDoor
set_option maxRecDepth 100000
set_option maxHeartbeats 1000000
open Go.RowKit
def cW (la lb:List Bx):Bool:=la.any λa=>lb.any (dQ a)
def cA (a b:Hx):Bool:=cW a.tl b.tl||(cW a.tl b.nl||(cW a.nl b.tl||cW a.nl b.nl))
theorem fH (a lb:List Bx)(v:Bool)(k:cW a lb=v)(b c:Option Addr)(i j:Nat)(w:World)(d:jJ w b a)(f:jJ w c lb)(g:a.length<=1048576)(h:lb.length<=1048576):
 aY 84 #[.slice b a.length i,.slice c lb.length j] w λe w'=>e=.returned (.bool v)/\aF w w':=by
 subst k;exact F4 a lb b c i j w d f g h
structure Hx.Fit (h:Hx):Prop where
 tn:h.tl.length<=1048576
 nn:h.nl.length<=1048576
 sn:h.n.size<=9223372036854775807
theorem OW (a b:Hx)(w:World)(ha:a.In w)(v:b.In w)(r:a.Fit)(s:b.Fit):
 aY 76 #[a.val,b.val] w λe w'=>e=.returned (.bool (cA a b))/\aF w w':=by
 obtain⟨V,B⟩:=bP (cA a b);rw[←B];have A:=aG B;clear B;have c:aF w ((w.alloc (.cells #[.string a.n,.slice a.ta a.tl.length a.tc,.slice a.na a.nl.length a.nc] 90)).alloc (.cells #[.string b.n,.slice b.ta b.tl.length b.tc,.slice b.na b.nl.length b.nc] 90)):=aB (aB (br _ _) _) _
 have C:∀k,Below ((w.alloc (.cells #[.string a.n,.slice a.ta a.tl.length a.tc,.slice a.na a.nl.length a.nc] 90)).alloc (.cells #[.string b.n,.slice b.ta b.tl.length b.tc,.slice b.na b.nl.length b.nc] 90)).heap.size ((w.alloc (.cells #[.string a.n,.slice a.ta a.tl.length a.tc,.slice a.na a.nl.length a.nc] 90)).alloc (.cells #[.string b.n,.slice b.ta b.tl.length b.tc,.slice b.na b.nl.length b.nc] 90)) k->
  k.cell? ⟨w.heap.size,1,none⟩=some (.slice a.ta a.tl.length a.tc)/\k.cell? ⟨w.heap.size,2,none⟩=some (.slice a.na a.nl.length a.nc)/\k.cell? ⟨w.heap.size+1,1,none⟩=some (.slice b.ta b.tl.length b.tc)/\k.cell? ⟨w.heap.size+1,2,none⟩=some (.slice b.na b.nl.length b.nc):=
  λk h=>⟨(h.cell (by simp;omega)).trans (by simp),(h.cell (by simp;omega)).trans (by simp),(h.cell (by simp)).trans (by simp),(h.cell (by simp)).trans (by simp)⟩
 have F:=C;clear C;have l:=aG F;clear F;go_enter Tryz.func76,Tryz.ntmps76;go_wp2_with fail;rcases Bool.eq_false_or_eq_true (cW a.tl b.tl)with t|t
 ·refine(fH _ _ _ t _ _ _ _ _ (ha.1.zL c) (v.1.zL c) r.tn s.tn).mono ?_;rintro e k ⟨rfl,g⟩;go_wp2_with fail;go_ret;exact⟨aD (by rw[A.oQ,cA,t];rfl),aC c g⟩
 refine(fH _ _ _ t _ _ _ _ _ (ha.1.zL c) (v.1.zL c) r.tn s.tn).mono ?_;rintro e k ⟨rfl,g⟩;have d:=aC c g;obtain⟨m,o,p,q⟩:=l.oQ k g;go_wp2_with fail;rcases Bool.eq_false_or_eq_true (cW a.tl b.nl)with x|x
 ·refine(fH _ _ _ x _ _ _ _ _ (ha.1.zL d) (v.2.zL d) r.tn s.nn).mono ?_;rintro e G ⟨rfl,i⟩;clear m o p q;go_wp2_with fail;go_ret;exact⟨aD (by rw[A.oQ,cA,t,x];rfl),aC d i⟩
 refine(fH _ _ _ x _ _ _ _ _ (ha.1.zL d) (v.2.zL d) r.tn s.nn).mono ?_;rintro e G ⟨rfl,i⟩;have f:=aC d i;have z:=bL g (nlq _) i;clear m o p q;obtain⟨m,o,p,q⟩:=l.oQ G z;go_wp2_with fail;rcases Bool.eq_false_or_eq_true (cW a.nl b.tl)with y|y
 ·refine(fH _ _ _ y _ _ _ _ _ (ha.2.zL f) (v.1.zL f) r.nn s.tn).mono ?_;rintro e H ⟨rfl,j⟩;clear m o p q;go_wp2_with fail;go_ret;exact⟨aD (by rw[A.oQ,cA,t,x,y];rfl),aC f j⟩
 refine(fH _ _ _ y _ _ _ _ _ (ha.2.zL f) (v.1.zL f) r.nn s.tn).mono ?_;rintro e H ⟨rfl,j⟩;have u:=aC f j;have E:=bL z (nlq _) j;clear m o p q;obtain⟨m,o,p,q⟩:=l.oQ H E;go_wp2_with fail;refine(fH _ _ _ rfl _ _ _ _ _ (ha.2.zL u) (v.2.zL u) r.nn s.nn).mono ?_;rintro e w4 ⟨rfl,D⟩;clear m o p q;go_wp2_with fail;go_ret;exact⟨aD (by rw[A.oQ,cA,t,x,y];rfl),aC u D⟩
structure Hx.Like (a b:Hx):Prop where
 n:a.n=b.n
 t:a.tl=b.tl
 x:a.nl=b.nl
structure aU (l m:List Hx):Prop where
 len:m.length=l.length
 like:∀k (h:k<l.length),l[k].Like (m[k]'(by omega))
def nZ (fl:List Fx)(now:Int)(h:Hx):Bool:=cS h.n&&(aQ fl h.tl&&(fJ now h.tl&&(h.nl.isEmpty||(aQ fl h.nl&&fJ now h.nl))))
theorem mH (b:List Fx)(l:List Bx)(v:Bool)(k:aQ b l=v)(c d:Option Addr)(h a:Nat)(w:World)(f:Xs 3 Fx.cells w c b)(i:jJ w d l)(g:b.length<=1048576)(j:l.length<=1048576):
 aY 44 #[.slice c b.length h,.slice d l.length a] w λe w'=>e=.returned (.bool v)/\aF w w':=by
 subst k;exact oL b l c d h a w f i g j
theorem tD (l:List Bx)(a:Int)(v:Bool)(g:fJ a l=v)(c:Option Addr)(b:Nat)(w:World)(d:jJ w c l)(f:l.length<=1048576):
 aY 45 #[.slice c l.length b,.int .i64 a] w λe w'=>e=.returned (.bool v)/\w'=w:=by
 subst g;exact AD l c b a w d f
theorem MM (b:Bk)(h:Hx)(w:World)(G:Xs 3 Fx.cells w b.fa b.fl)(s:b.fl.length<=1048576)(i:h.In w)(p:h.Fit):
 aY 75 #[b.val,h.val] w λe w'=>e=.returned (.bool (nZ b.fl b.now h))/\aF w w':=by
 obtain⟨V,F⟩:=bP (nZ b.fl b.now h);rw[←F];have m:=aG F;clear F;obtain⟨D,g⟩:=bP (((w.alloc (.cells #[.int .i64 b.now,.slice b.fa b.fl.length b.fc,.slice b.ha b.hl.length b.hc] 30)).alloc (.cells #[.string h.n,.slice h.ta h.tl.length h.tc,.slice h.na h.nl.length h.nc] 90)));have f:aF w D:=by rw[g];exact aB (aB (br _ _) _) _
 have B:Hid (∀d,aF D d->d.cell? ⟨w.heap.size,0,none⟩=some (.int .i64 b.now)/\d.cell? ⟨w.heap.size,1,none⟩=some (.slice b.fa b.fl.length b.fc)/\
  d.cell? ⟨w.heap.size+1,0,none⟩=some (.string h.n)/\d.cell? ⟨w.heap.size+1,1,none⟩=some (.slice h.ta h.tl.length h.tc)/\d.cell? ⟨w.heap.size+1,2,none⟩=some (.slice h.na h.nl.length h.nc)):=by
  subst g;exact λd h=>⟨(h.cell (by simp;omega)).trans (by simp),(h.cell (by simp;omega)).trans (by simp),(h.cell (by simp)).trans (by simp),(h.cell (by simp)).trans (by simp),(h.cell (by simp)).trans (by simp)⟩
 have C:=aG g;clear g;go_enter Tryz.func75,Tryz.ntmps75;go_wp2_with fail;rw[←C.oQ];obtain⟨J,j⟩:∃v,cS h.n=v:=⟨_,rfl⟩;refine(fG _ _ j _ p.sn).mono ?_;rintro e D ⟨rfl,rfl⟩;obtain⟨u,x,y,z,A⟩:=B.oQ _ (br _ _);cases J with
 |false=>
  go_wp2_with fail;go_ret;exact⟨aD (by rw[m.oQ,nZ,j];rfl),f⟩
 |true=>
 go_wp2_with fail;obtain⟨K,o⟩:∃v,aQ b.fl h.tl=v:=⟨_,rfl⟩;refine(mH _ _ _ o _ _ _ _ _ (G.zL f) (i.1.zL f) s p.tn).mono ?_;rintro e d ⟨rfl,l⟩;have a:=aC f l;clear u x y z A;obtain⟨u,x,y,z,A⟩:=B.oQ d l;cases K with
 |false=>
  go_wp2_with fail;go_ret;exact⟨aD (by rw[m.oQ,nZ,j,o];rfl),a⟩
 |true=>
 go_wp2_with fail;obtain⟨L,q⟩:∃v,fJ b.now h.tl=v:=⟨_,rfl⟩;refine(tD _ _ _ q _ _ _ (i.1.zL a) p.tn).mono ?_;rintro e d ⟨rfl,rfl⟩;cases L with
 |false=>
  go_wp2_with fail;go_ret;exact⟨aD (by rw[m.oQ,nZ,j,o,q];rfl),a⟩
 |true=>
 by_cases c:h.nl.length=0
 ·have I:((h.nl.length:Int)==0)=true:=by simp[c]
  have t:Hid (h.nl.isEmpty=true):=by rw[Hid,List.isEmpty_iff];exact List.eq_nil_of_length_eq_zero c
  clear c;go_wp2_with fail;go_ret;exact⟨aD (by rw[m.oQ,nZ,j,o,q,t.oQ];rfl),a⟩
 have I:((h.nl.length:Int)==0)=false:=by simp;intro i;exact c (by rw[i];rfl)
 have t:Hid (h.nl.isEmpty=false):=by rw[Hid,Bool.eq_false_iff];intro i;rw[List.isEmpty_iff]at i;exact c (by rw[i];rfl)
 clear c;go_wp2_with fail;obtain⟨M,E⟩:∃v,aQ b.fl h.nl=v:=⟨_,rfl⟩;refine(mH _ _ _ E _ _ _ _ _ (G.zL a) (i.2.zL a) s p.nn).mono ?_;rintro e H ⟨rfl,r⟩;have k:=aC a r;clear u x y z A;obtain⟨u,x,y,z,A⟩:=B.oQ H (bL l (nlq _) r);cases M with
 |false=>
  go_wp2_with fail;go_ret;exact⟨aD (by rw[m.oQ,nZ,j,o,q,t.oQ,E];rfl),k⟩
 |true=>
 go_wp2_with fail;refine(tD _ _ _ rfl _ _ _ (i.2.zL k) p.nn).mono ?_;rintro e H ⟨rfl,rfl⟩;go_wp2_with fail;go_ret;exact⟨aD (by rw[m.oQ,nZ,j,o,q,t.oQ,E];rfl),k⟩
set_option maxHeartbeats 4000000
def cI (fl:List Fx)(now:Int)(h:Hx):Bool:=aQ fl h.tl&&(fJ now h.tl&&(h.nl.isEmpty||(aQ fl h.nl&&fJ now h.nl)))
theorem J1 (b:List Fx)(a:Int)(h:Hx):nZ b a h=(cS h.n&&cI b a h):=rfl
def kN (l:List Hx)(k:Nat)(h:Hx):Bool:=!(l.take k).any (λg=>cA g h)
def gL (l:List Hx):Nat->Bool
 |0=>true
 |k+1=>gL l k&&kN l k (fQ l k)
def dN (fl:List Fx)(now:Int)(l:List Hx):Bool:=bV Hx.n l&&((l.all (cI fl now))&&gL l l.length)
def aN (b:Bk):Bool:=nT b.now&&(cB b.fl&&(gA b.hl.length&&dN b.fl b.now b.hl))
theorem y7 {l:List Hx}{k:Nat}(h:kN l k (fQ l k)=false):∀m,k<m->gL l m=false
 |0,hm=>absurd hm (by omega)
 |m+1,hm=>by
  rw[gL];by_cases e:k=m;·subst e;rw[h,Bool.and_false]
  ·rw[y7 h m (by omega)];rfl
theorem J6 {l:List Hx}{k:Nat}{h:Hx}(a:(l.take k).any (λg=>cA g h)=true):kN l k h=false:=by rw[kN,a];rfl
structure YB (fl:List Fx)(now:Int)(l:List Hx)(k:Nat):Prop where
 nm:(l.take k).all (λx=>cS x.n)=true
 lt:∀i,i+1<k->fY (fQ l i).n (fQ l (i+1)).n=true
 tb:(l.take k).all (cI fl now)=true
 ap:gL l k=true
theorem YB.step {b:List Fx}{a:Int}{l:List Hx}{k:Nat}(h:YB b a l k)(c:k<l.length)(d:nZ b a (fQ l k)=true)(g:0<k->fY (fQ l (k-1)).n (fQ l k).n=true)(f:kN l k (fQ l k)=true):YB b a l (k+1):=by
 rw[J1,bat,cQ l k c]at d;refine⟨by rw[List.take_succ_eq_append_getElem c,List.all_append,h.nm];simp[d.1],λi hi=>?_,by rw[List.take_succ_eq_append_getElem c,List.all_append,h.tb];simp[d.2],by rw[gL,h.ap,f];rfl⟩;by_cases e:i+1=k;·subst e;simpa using g (by omega)
 ·exact h.lt i (by omega)
theorem FY {b:List Fx}{a:Int}{l:List Hx}{k:Nat}(c:k<l.length)(h:nZ b a (fQ l k)=false):dN b a l=false:=by
 rw[cQ l k c,J1]at h;rw[dN];cases hn:cS l[k].n with
 |false=>rw[qH c hn];rfl
 |true=>
  rw[hn,Bool.true_and]at h
  have:l.all (cI b a)=false:=by
   rw[Bool.eq_false_iff];intro ha;have:=lat.1 ha l[k] (lgm c);rw[h]at this;cases this
  rw[this];simp
theorem NG {b:List Fx}{a:Int}{l:List Hx}{k:Nat}(hk:k<l.length)(h0:0<k)(h:fY (fQ l (k-1)).n (fQ l k).n=false):dN b a l=false:=by
 have:kK Hx.n l=false:=by
  rw[Bool.eq_false_iff];intro ha;have:=(iJ Hx.n l).1 ha (k-1) (by omega);rw[←cQ l (k-1) (by omega),←cQ l (k-1+1) (by omega),show k-1+1=k by omega,h]at this;cases this
 rw[dN,bV,this];simp
theorem RJ {b:List Fx}{a:Int}{l:List Hx}{k:Nat}(h:YB b a l k)(f:k=l.length):dN b a l=true:=by
 subst f;have d:=h.nm;have e:=h.tb;rw[ltl (nlq _)]at d e
 have ha:kK Hx.n l=true:=(iJ Hx.n l).2 λi c=>by
  have:=h.lt i c;rwa[cQ l i (by omega),cQ l (i+1) c]at this
 rw[dN,bV,d,ha,e,h.ap];rfl
theorem sI {b:Bk}(h:dN b.fl b.now b.hl=false):aN b=false:=by rw[aN,h];simp
theorem II {b:Bk}{k:Nat}(a:k<b.hl.length)(h:kN b.hl k (fQ b.hl k)=false):aN b=false:=by
 refine sI ?_;rw[dN,y7 h _ a];simp
theorem qL (l:List Fx)(v:Bool)(h:cB l=v)(b:Option Addr)(a:Nat)(w:World)(c:Xs 3 Fx.cells w b l)(d:l.length<=1048576)(g:∀f∈l,f.n.size<=9223372036854775807):
 aY 74 #[.slice b l.length a] w λe w'=>e=.returned (.bool v)/\aF w w':=by
 subst h;exact pW l b a w c d g
theorem o8 (b:Bk)(h:Hx)(v:Bool)(g:nZ b.fl b.now h=v)(w:World)(d:Xs 3 Fx.cells w b.fa b.fl)(a:b.fl.length<=1048576)(f:h.In w)(c:h.Fit):
 aY 75 #[b.val,h.val] w λe w'=>e=.returned (.bool v)/\aF w w':=by
 subst g;exact MM b h w d a f c
theorem OY (a b:Hx)(v:Bool)(g:cA a b=v)(w:World)(ha:a.In w)(f:b.In w)(c:a.Fit)(d:b.Fit):
 aY 76 #[a.val,b.val] w λe w'=>e=.returned (.bool v)/\aF w w':=by
 subst g;exact OW a b w ha f c d
theorem BZ (b:Bk)(r d:Nat)(zl:b.ha=some ⟨r,d,none⟩)(w:World)(hf:Xs 3 Fx.cells w b.fa b.fl)(B:b.fl.length<=1048576)(hc:∀k (h:k<b.hl.length),aZ w r (d+k*3) b.hl[k].cells)(hnh:b.hl.length<=1048576)
 (N:∀h∈b.hl,h.In w)(M:∀h∈b.hl,h.Fit)(hs:∀f∈b.fl,f.n.size<=9223372036854775807):
 aY 38 #[b.val] w λe w'=>e=.returned (.bool (aN b))/\aF w w':=by
 obtain⟨V,hV⟩:=bP (aN b);rw[←hV];have R:=aG hV;clear hV;have q:aF w (w.alloc (.cells #[.int .i64 b.now,.slice b.fa b.fl.length b.fc,.slice (some ⟨r,d,none⟩) b.hl.length b.hc] 30)):=aB (br _ _) _
 have HC:Hid (∀z,Below (w.alloc (.cells #[.int .i64 b.now,.slice b.fa b.fl.length b.fc,.slice (some ⟨r,d,none⟩) b.hl.length b.hc] 30)).heap.size (w.alloc (.cells #[.int .i64 b.now,.slice b.fa b.fl.length b.fc,.slice (some ⟨r,d,none⟩) b.hl.length b.hc] 30)) z->z.cell? ⟨w.heap.size,0,none⟩=some (.int .i64 b.now)/\z.cell? ⟨w.heap.size,1,none⟩=some (.slice b.fa b.fl.length b.fc)/\z.cell? ⟨w.heap.size,2,none⟩=some (.slice (some ⟨r,d,none⟩) b.hl.length b.hc)):=
  λz h=>⟨(h.cell (by simp)).trans (by simp),(h.cell (by simp)).trans (by simp),(h.cell (by simp)).trans (by simp)⟩
 obtain⟨nv,zi⟩:∃v,fO b.now 0 10000=v:=⟨_,rfl⟩;have D:Hid (nT b.now=nv):=zi;unfold Bk.val;rw[zl]
 go_enter Tryz.func38,Tryz.ntmps38
 go_wp2_with fail
 refine(iH _ _ _ _ zi _).mono ?_;rintro e w0 ⟨rfl,zu⟩;subst zu
 cases nv with
 |false=>
  go_wp2_with fail
  go_ret;exact⟨aD (by rw[R.oQ,aN,D.oQ];rfl),q⟩
 |true=>
 go_wp2_with fail
 obtain⟨fv,F⟩:∃v,cB b.fl=v:=⟨_,rfl⟩;refine(qL b.fl _ F _ _ _ (hf.zL q) B hs).mono ?_;rintro e z ⟨rfl,E⟩;have c:=aC q E;obtain⟨P,Q,i2⟩:=HC.oQ z E
 cases fv with
 |false=>
  go_wp2_with fail
  go_ret;exact⟨aD (by rw[R.oQ,aN,D.oQ,F];rfl),c⟩
 |true=>
 by_cases zc:b.hl.length<=16
 ·have zk:decide ((16:Int)<(b.hl.length:Int))=false:=by simp;omega
  go_wp2
  clear P Q i2 c
  go_loopw [3] (λi wr=>∃k:Nat,k<=b.hl.length/\i=.int .i64 k/\Below (w.alloc (.cells #[.int .i64 b.now,.slice b.fa b.fl.length b.fc,.slice (some ⟨r,d,none⟩) b.hl.length b.hc] 30)).heap.size (w.alloc (.cells #[.int .i64 b.now,.slice b.fa b.fl.length b.fc,.slice (some ⟨r,d,none⟩) b.hl.length b.hc] 30)) wr/\Hid (YB b.fl b.now b.hl k)) (λi _=>b.hl.length-(intOf i).toNat)
  case atStart=>exact⟨0,nz _,rfl,E,⟨by simp,λi hi=>absurd hi (by omega),by simp,rfl⟩⟩
  case round=>
   clear E;obtain⟨k,hk,rfl,t,zb⟩:=hrel;have m:aF w wr:=q.trans (t.mono q.size);obtain⟨P,Q,i2⟩:=HC.oQ _ t
   by_cases p:k<b.hl.length
   ·have u:=(hc k p).zL m
    have A:b.hl[k]∈b.hl:=lgm p;have y:=N _ A;have x:=M _ A;obtain⟨h,X⟩:=bP (fQ b.hl k);rw[←cQ b.hl k p,←X]at u y x;have C:=aG X;clear X A;obtain⟨S,T,U⟩:=iI u;clear u;have H:Nonempty (cO wr):=⟨⟨_,br _ _⟩⟩;have p0:=cO.cell P;have p1:=cO.cell Q;have p2:=cO.cell i2;obtain⟨zt,O⟩:∃v,nZ b.fl b.now h=v:=⟨_,rfl⟩
    cases zt with
    |false=>
     have J:=cO.cell S;have K:=cO.cell T;have L:=cO.cell U;clear S T U P Q;go_wp2_with fail
     refine bC (by kernel_rfl) (by kernel_rfl) ?_
     repeat (go_big_quiet_step ((go_at_call 75;exact cO.call _ (o8 ⟨b.now,b.fa,b.fl,b.fc,some ⟨r,d,none⟩,b.hl,b.hc⟩ h _ O _ (hf.zL (aC m (cO.h _))) B (y.zL (aC m (cO.h _))) x))))
     refine wpQuiet_nil ?_;rintro _ ⟨s,rfl⟩;have l:=bL t (nlq _) s.h;have c:=bL m (nlq _) s.h;generalize s.w=z at l c;clear s p0 p1 p2 J K L H;go_wp2
     go_ret;exact⟨aD (by rw[R.oQ,sI (FY p (by rw[←C.oQ];exact O))]),c⟩
    |true=>
    have HH:=aG O
    by_cases zg:k=0
    ·subst zg
     rw[Nat.zero_mul,Nat.add_zero]at S T U;have J:=cO.cell S;have K:=cO.cell T;have L:=cO.cell U;clear S T U P Q;go_wp2_with fail
     refine bC (by kernel_rfl) (by kernel_rfl) ?_
     repeat (go_big_quiet_step ((go_at_call 75;exact cO.call _ (o8 ⟨b.now,b.fa,b.fl,b.fc,some ⟨r,d,none⟩,b.hl,b.hc⟩ h _ O _ (hf.zL (aC m (cO.h _))) B (y.zL (aC m (cO.h _))) x))))
     refine wpQuiet_nil ?_;rintro _ ⟨s,rfl⟩;have l:=bL t (nlq _) s.h;have c:=bL m (nlq _) s.h;generalize s.w=z at l c;clear s p0 p1 p2 J K L H;go_wp2
     clear t m O
     go_loopw [4] (λi ws=>∃j:Nat,j<=0/\i=.int .i64 j/\Below (w.alloc (.cells #[.int .i64 b.now,.slice b.fa b.fl.length b.fc,.slice (some ⟨r,d,none⟩) b.hl.length b.hc] 30)).heap.size (w.alloc (.cells #[.int .i64 b.now,.slice b.fa b.fl.length b.fc,.slice (some ⟨r,d,none⟩) b.hl.length b.hc] 30)) ws/\Hid ((b.hl.take j).any (λg=>cA g h)=false)) (λi _=>0-(intOf i).toNat)
     case atStart=>exact⟨0,nz _,rfl,l,by simp[Hid]⟩
     case round=>
      clear l c;obtain⟨j,hj,rfl,t,I⟩:=hrel;have m:aF w wr:=q.trans (t.mono q.size)
      by_cases zf:j<0
      ·exact absurd zf (by omega)
      ·have za:j=0:=by omega
       go_wp2
       go_roundw
       case rel=>exact⟨0+1,by omega,by go_num,t,zb.out.step p (by rw[←C.oQ];exact HH.oQ) (λh0=>absurd h0 (by omega)) (by rw[←C.oQ,kN,←za,I.out];rfl)⟩
       case measure=>simp[intOf];omega
    ·have zq:0<k:=by omega
     have hkq:(1:Int)<=(k:Int):=by omega
     have Y:=(hc (k-1) (by omega)).zL m;obtain⟨a,W⟩:=bP (fQ b.hl (k-1));rw[←cQ b.hl (k-1) (by omega),←W]at Y;have HA:=aG W;clear W zg;have g0:=cO.cell (iI Y).1;clear Y;have J:=cO.cell S;have K:=cO.cell T;have L:=cO.cell U;clear S T U P Q
     rcases Bool.eq_false_or_eq_true (fY a.n h.n)with o|o
     ·have HL:=aG o
      have zd:Op.bytesLess a.n.toList h.n.toList=true:=o;clear o;go_wp2_with fail
      refine bC (by kernel_rfl) (by kernel_rfl) ?_
      repeat (go_big_quiet_step ((go_at_call 75;exact cO.call _ (o8 ⟨b.now,b.fa,b.fl,b.fc,some ⟨r,d,none⟩,b.hl,b.hc⟩ h _ O _ (hf.zL (aC m (cO.h _))) B (y.zL (aC m (cO.h _))) x))))
      refine wpQuiet_nil ?_;rintro _ ⟨s,rfl⟩;have l:=bL t (nlq _) s.h;have c:=bL m (nlq _) s.h;generalize s.w=z at l c;clear s p0 p1 p2 J K L H g0;clear zd;go_wp2
      clear t m O
      go_loopw [4] (λi ws=>∃j:Nat,j<=k/\i=.int .i64 j/\Below (w.alloc (.cells #[.int .i64 b.now,.slice b.fa b.fl.length b.fc,.slice (some ⟨r,d,none⟩) b.hl.length b.hc] 30)).heap.size (w.alloc (.cells #[.int .i64 b.now,.slice b.fa b.fl.length b.fc,.slice (some ⟨r,d,none⟩) b.hl.length b.hc] 30)) ws/\Hid ((b.hl.take j).any (λg=>cA g h)=false)) (λi _=>k-(intOf i).toNat)
      case atStart=>exact⟨0,nz _,rfl,l,by simp[Hid]⟩
      case round=>
       clear l c;obtain⟨j,hj,rfl,t,I⟩:=hrel;have m:aF w wr:=q.trans (t.mono q.size)
       by_cases zf:j<k
       ·obtain⟨g,G⟩:=bP (b.hl[j]'(by omega))
        have ze:g∈b.hl:=by rw[G];exact lgm _
        have Z:=(hc j (by omega)).zL m;have u:=(hc k p).zL m;rw[←G]at Z;rw[←cQ b.hl k p,←C.oQ]at u;have HG:=aG G;clear G;obtain⟨e0,e1,e2⟩:=iI Z;obtain⟨d0,d1,d2⟩:=iI u;obtain⟨P,Q,i2⟩:=HC.oQ _ t;have zh:Nonempty (cO wr):=⟨⟨_,br _ _⟩⟩;have p2:=cO.cell i2;have q0:=cO.cell e0;have q1:=cO.cell e1;have q2:=cO.cell e2;have J:=cO.cell d0;have K:=cO.cell d1;have L:=cO.cell d2;clear Z u e0 e1 e2 d0 d1 d2 P Q i2;have zn:=(N g ze).zL m;have zo:=y.zL m;have zm:=M g ze;obtain⟨v,zj⟩:=cK (cA g h);have HM:=aG zj;clear zj;go_wp2_with fail
        refine bC (by kernel_rfl) (by kernel_rfl) ?_
        repeat (go_big_quiet_step ((go_at_call 76;exact cO.call _ (OY g h _ HM.oQ _ (zn.zL (cO.h _)) (zo.zL (cO.h _)) zm x))))
        refine wpQuiet_nil ?_;rintro _ ⟨s,rfl⟩;have l:=bL t (nlq _) s.h;have c:=bL m (nlq _) s.h;generalize s.w=z at l c;clear s p2 q0 q1 q2 J K L zh;go_wp2
        ·have zs:v=true:=by assumption
         subst zs;go_ret;exact⟨aD (by rw[R.oQ,II p (by rw[←C.oQ];exact J6 (gI _ (b.hl.take k) j (by simp;omega) (by simp only[List.getElem_take];rw[←HG.oQ];exact HM.oQ)))]),c⟩
        ·have zr:v=false:=by assumption
         subst zr
         go_roundw
         case rel=>exact⟨j+1,by omega,by go_num,l,by rw[Hid,gQ _ b.hl j (by omega),I.out,←HG.oQ,HM.oQ];rfl⟩
         case measure=>simp[intOf];omega
       ·have za:j=k:=by omega
        go_wp2
        go_roundw
        case rel=>exact⟨k+1,by omega,by go_num,t,zb.out.step p (by rw[←C.oQ];exact HH.oQ) (λ_=>by rw[←HA.oQ,←C.oQ];exact HL.oQ) (by rw[←C.oQ,kN,←za,I.out];rfl)⟩
        case measure=>simp[intOf];omega
     ·have HL:=aG o
      have zd:Op.bytesLess a.n.toList h.n.toList=false:=o;clear o;go_wp2_with fail
      refine bC (by kernel_rfl) (by kernel_rfl) ?_
      repeat (go_big_quiet_step ((go_at_call 75;exact cO.call _ (o8 ⟨b.now,b.fa,b.fl,b.fc,some ⟨r,d,none⟩,b.hl,b.hc⟩ h _ O _ (hf.zL (aC m (cO.h _))) B (y.zL (aC m (cO.h _))) x))))
      refine wpQuiet_nil ?_;rintro _ ⟨s,rfl⟩;have l:=bL t (nlq _) s.h;have c:=bL m (nlq _) s.h;generalize s.w=z at l c;clear s p0 p1 p2 J K L H g0;go_wp2
      go_ret;exact⟨aD (by rw[R.oQ,sI (NG p zq (by rw[←HA.oQ,←C.oQ];exact HL.oQ))]),c⟩
   ·have zp:k=b.hl.length:=by omega
    go_wp2
    go_ret;exact⟨aD (by rw[R.oQ,aN,D.oQ,F,gA,decide_eq_true zc,RJ zb.out zp];rfl),m⟩
 ·have zk:decide ((16:Int)<(b.hl.length:Int))=true:=by simp;omega
  go_wp2
  go_ret;exact⟨aD (by rw[R.oQ,aN,D.oQ,F,gA,decide_eq_false zc];rfl),c⟩
end Go.Proofs.YtcdbcliaepcpfaaGreatDoor
