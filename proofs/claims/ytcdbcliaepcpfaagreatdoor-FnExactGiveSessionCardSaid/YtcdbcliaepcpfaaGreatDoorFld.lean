import Derived.Deep.RegionWith
import Derived.Test.YtcdbcliaepcpfaaGreatDoorLeaf
namespace Go.Proofs.YtcdbcliaepcpfaaGreatDoor
set_option maxRecDepth 100000
open Go.RowKit
structure Fx where
 n:ByteArray
 x:Int
 y:Int
abbrev Fx.val (f:Fx):Value:=.agg #[.string f.n,.int .i64 f.x,.int .i64 f.y]
def Fx.cells (f:Fx):List Value:=[.string f.n,.int .i64 f.x,.int .i64 f.y]
theorem Fx.cells_length (f:Fx):f.cells.length=3:=rfl
theorem Tryz.info74:(Tryz.prog.info? 74).map (λi=>(i.zero,i.size,i.bytes))=some (some (.agg #[.string ByteArray.empty,.int .i64 0,.int .i64 0]),3,32):=by kernel_rfl
theorem m8 {w:World}{a o:Nat}{f:Fx}(h:aZ w a o f.cells):w.cell? ⟨a,o,none⟩=some (.string f.n)/\w.cell? ⟨a,o+1,none⟩=some (.int .i64 f.x)/\w.cell? ⟨a,o+2,none⟩=some (.int .i64 f.y):=
 ⟨h 0 _ rfl,h 1 _ rfl,h 2 _ rfl⟩
def dP (a b:Bx):Bool:=decide (a.x-b.x<=1/\b.x-a.x<=1/\a.y-b.y<=1/\b.y-a.y<=1/\a.lo<=b.hi/\b.lo<=a.hi/\a.i<=b.i/\a.o<=b.o/\b.i<=a.o+1)
def eY:List Bx->Bool
 |a::b::r=>dP a b&&eY (b::r)
 |_=>true
theorem fC:∀l:List Bx,eY l=true↔∀i (h:i+1<l.length),dP l[i] l[i+1]=true
 |[]=>by simp[eY]
 |[a]=>by simp[eY]
 |a::b::r=>by
  rw[eY,bat,fC (b::r)];constructor
  ·rintro⟨d,h⟩ i c;cases i with
   |zero=>exact d
   |succ i=>exact h i (by simpa using c)
  ·intro h;exact⟨h 0 (by simp),λi c=>h (i+1) (by simpa using c)⟩
def BV (fl:List Fx)(x y:Int):Bool:=fl.any λf=>decide (f.x=x/\f.y=y)
def kY (fl:List Fx)(l:List Bx):Bool:=
 match l[l.length-1]? with
 |some b=>decide (b.lo=0)&&BV fl b.x b.y
 |none=>false
def n6 (n:Nat):Bool:=decide (1<=n/\n<=40)
def aQ (fl:List Fx)(l:List Bx):Bool:=n6 l.length&&(l.all aK&&(eY l&&kY fl l))
theorem lC (a:List Fx)(l:List Bx)(h:l.length-1<l.length):kY a l=(decide (l[l.length-1].lo=0)&&BV a l[l.length-1].x l[l.length-1].y):=by
 rw[kY,lge h]
theorem t8 (p:Bx->Bool)(l:List Bx)(k:Nat)(h:k<l.length):(l.take (k+1)).all p=((l.take k).all p&&p l[k]):=by
 rw[List.take_succ_eq_append_getElem h,List.all_append];simp only[List.all_cons,List.all_nil,Bool.and_true]
theorem sN (p:Bx->Bool)(l:List Bx)(k:Nat)(h:k<l.length)(a:p l[k]=false):l.all p=false:=by
 rw[Bool.eq_false_iff];intro ha;have:=lat.1 ha l[k] (lgm h);rw[a]at this;cases this
theorem uC (l:List Bx)(k:Nat)(h:k+1<l.length)(a:dP l[k] l[k+1]=false):eY l=false:=by
 rw[Bool.eq_false_iff];intro ha;have:=(fC l).1 ha k h;rw[a]at this;cases this
theorem rO {b:Bx}(h:aK b=true):0<=b.x/\b.x<16/\0<=b.y/\b.y<16/\0<=b.lo/\b.lo<=b.hi/\b.hi<=6/\0<=b.i/\b.i<=b.o/\b.o<=10000:=by
 simp only[aK,dte]at h;exact h
def qQ (f:Fx)(x y:Int):Bool:=decide (f.x=x/\f.y=y)
set_option maxHeartbeats 1000000
theorem K0 (a b:Bx)(w:World)(ha:aK a=true)(c:aK b=true):
 aY 82 #[a.val,b.val] w λe w'=>e=.returned (.bool (dP a b))/\aF w w':=by
 obtain⟨a1,a2,a3,a4,_,_,_,a5,a6,a7⟩:=rO ha;obtain⟨b1,b2,b3,b4,_⟩:=rO c;clear ha c
 go_enter Tryz.func82,Tryz.ntmps82
 go_wp2_with (go_at_call 49;refine(dV _ _ _ _).mono ?_;rintro e w' ⟨rfl,rfl⟩)
 all_goals go_ret
 all_goals refine⟨aD ?_,((br _ _).alloc (nlq _) _).alloc (by simp) _⟩
 all_goals (rw[Bool.eq_iff_iff];simp only[fO,dP,dte,decide_eq_false_iff_not,Bool.false_eq_true,false_iff]at*;omega)
theorem K7 (a b:Bx)(w:World)(ha:aK a=true)(f:aK b=true):
 aY 251 #[a.val,b.val] w λe w'=>e=.returned (.bool (dP a b))/\aF w w':=by
 have d:aF w w:=br _ _;obtain⟨a1,a2,a3,a4,_,_,_,a5,a6,a7⟩:=rO ha;obtain⟨b1,b2,b3,b4,_⟩:=rO f;clear ha f
 go_enter Tryz.func251,Tryz.ntmps251
 go_wp2_with (first
  |(go_at_call 252;refine(kX _ _ _ (by assumption) (by assumption) (by assumption) (by assumption)).mono ?_;rintro e w' ⟨rfl,rfl⟩)
  |(go_at_call 220;refine(kG _ _ _).mono ?_;rintro e g ⟨rfl,c⟩;have d:aF w g:=aC (by repeat (first|exact d|refine aB ?_ _)) c;obtain⟨hc1,hf1⟩:=qV c))
 all_goals go_ret
 all_goals refine⟨aD ?_,by repeat (first|exact d|refine aB ?_ _)⟩
 all_goals (rw[Bool.eq_iff_iff];simp only[jS,dP,dte,decide_eq_false_iff_not,Bool.false_eq_true,false_iff]at*;omega)
theorem GC (n a:Nat)(b:Option Addr)(w:World)(hn:n<=1048576):
 aY 209 #[.slice b n a] w λe w'=>e=.returned (.bool (n6 n))/\w'=w:=by
 go_enter Tryz.func209,Tryz.ntmps209
 go_wp2
 all_goals go_ret
 all_goals refine⟨aD ?_,rfl⟩
 all_goals (rw[Bool.eq_iff_iff];simp only[n6,dte,Bool.false_eq_true,false_iff];omega)
theorem nN (l:List Fx)(q:Option Addr)(p:Nat)(x y:Int)(w:World)(u:Xs 3 Fx.cells w q l)(hn:l.length<=1048576):
 aY 172 #[.slice q l.length p,.int .i64 x,.int .i64 y] w λe w'=>e=.returned (.bool (BV l x y))/\aF w w':=by
 go_enter Tryz.func172,Tryz.ntmps172
 go_wp2
 go_loopw [11] (λi wr=>∃k:Nat,k<=l.length/\i=.int .i64 k/\aF w wr/\Hid ((l.take k).any (λf=>qQ f x y)=false)) (λi _=>l.length-(intOf i).toNat)
 case atStart=>exact⟨0,nz _,rfl,br _ _,by simp[Hid]⟩
 case round=>
  obtain⟨k,hk,rfl,d,c⟩:=hrel
  by_cases a:k<l.length
  ·rcases u with h|⟨bl,off,rfl,s⟩
   ·subst h;simp at a
   ·have j:=(s k a).zL d
    obtain⟨b,g⟩:=bP (l[k]);rw[←g]at j;have o:=aG g;clear g s;obtain⟨c0,c1,c2⟩:=m8 j;clear j
    by_cases hx:b.x=x
    ·by_cases m:b.y=y
     ·have r:(b.x==x)=true:=by simp[hx]
      have t:(b.y==y)=true:=by simp[m]
      have n:Hid (b.x=x/\b.y=y):=⟨hx,m⟩;clear hx m;go_wp2
      go_ret;exact⟨aD (gI _ l k a (by rw[←o.oQ];exact decide_eq_true n.oQ)).symm,d.alloc d.size _⟩
     ·have r:(b.x==x)=true:=by simp[hx]
      have t:(b.y==y)=false:=by simp[m]
      have n:Hid (¬(b.x=x/\b.y=y)):=λh=>m h.2;clear hx m;go_wp2
      go_roundw
      case rel=>exact⟨k+1,by omega,by go_num,d.alloc d.size _,by rw[Hid,gQ _ l k a,c.out,←o.oQ,qQ,decide_eq_false n.oQ];rfl⟩
      case measure=>simp[intOf];omega
    ·have r:(b.x==x)=false:=by simp[hx]
     have n:Hid (¬(b.x=x/\b.y=y)):=λh=>hx h.1;clear hx;go_wp2
     go_roundw
     case rel=>exact⟨k+1,by omega,by go_num,d.alloc d.size _,by rw[Hid,gQ _ l k a,c.out,←o.oQ,qQ,decide_eq_false n.oQ];rfl⟩
     case measure=>simp[intOf];omega
  ·go_wp2
   go_ret;refine⟨aD ?_,d⟩;rw[ltl (by omega)]at c;exact c.out.symm
theorem JN (l:List Bx)(p:Option Addr)(j:Nat)(w:World)(r:jJ w p l)(hn:l.length<=1048576):
 aY 210 #[.slice p l.length j] w λe w'=>e=.returned (.bool (l.all aK))/\aF w w':=by
 go_enter Tryz.func210,Tryz.ntmps210
 go_wp2
 go_loopw [7] (λi wr=>∃k:Nat,k<=l.length/\i=.int .i64 k/\aF w wr/\Hid ((l.take k).all aK=true)) (λi _=>l.length-(intOf i).toNat)
 case atStart=>exact⟨0,nz _,rfl,br _ _,by simp[Hid]⟩
 case round=>
  obtain⟨k,hk,rfl,f,d⟩:=hrel
  by_cases a:k<l.length
  ·rcases r with h|⟨bl,off,rfl,q⟩
   ·subst h;simp at a
   ·have g:=(q k a).zL f
    obtain⟨b,c⟩:=bP (l[k]);rw[←c]at g;have o:=aG c;clear c q;obtain⟨c0,c1,c2,c3,c4,c5⟩:=g
    go_wp2_with (go_at_call 178;refine(rF _ _).mono ?_;rintro e s ⟨rfl,m⟩;have f:aF w s:=bL (by repeat (first|exact f|refine lP ?_ (nlq _) _)) (nlq _) m)
    ·have n:aK b=false:=nf (by assumption)
     go_ret;exact⟨aD (sN _ l k a (by rw[←o.oQ];exact n)).symm,f⟩
    ·have n:aK b=true:=nt (by assumption)
     go_roundw
     case rel=>exact⟨k+1,by omega,by go_num,f,by rw[Hid,t8 _ l k a,d.out,←o.oQ,n];rfl⟩
     case measure=>simp[intOf];omega
  ·go_wp2
   go_ret;refine⟨aD ?_,f⟩;rw[ltl (by omega)]at d;exact d.out.symm
theorem NB {l:List Fx}{b:Bx}{k:Nat}{f:Fx}(h:k<l.length)(a:f=l[k])(hx:b.lo=0/\f.x=b.x/\f.y=b.y):(decide (b.lo=0)&&BV l b.x b.y)=true:=by
 have c:BV l b.x b.y=true:=gI _ l k h (by rw[←a];exact decide_eq_true hx.2);rw[c,decide_eq_true hx.1];rfl
def nW (l:List Fx)(b:Bx)(k:Nat):Prop:=(decide (b.lo=0)&&(l.take k).any (λf=>qQ f b.x b.y))=false
theorem vS {l:List Fx}{b:Bx}{k:Nat}{f:Fx}(h:k<l.length)(d:f=l[k])(a:nW l b k)(hx:¬(b.lo=0/\f.x=b.x/\f.y=b.y)):nW l b (k+1):=by
 unfold nW at*;rw[gQ _ l k h,←d];by_cases e:b.lo=0
 ·have c:qQ f b.x b.y=false:=decide_eq_false (λq=>hx ⟨e,q⟩);rw[c,Bool.or_false];exact a
 ·simp[e]
theorem E6 (l:List Fx)(z:Option Addr)(s:Nat)(b:Bx)(w:World)(D:Xs 3 Fx.cells w z l)(hn:l.length<=1048576):
 aY 83 #[.slice z l.length s,b.val] w λe w'=>e=.returned (.bool (decide (b.lo=0)&&BV l b.x b.y))/\aF w w':=by
 obtain⟨V,u⟩:∃V,V=(decide (b.lo=0)&&BV l b.x b.y):=⟨_,rfl⟩;rw[←u];have v:=aG u;clear u;have hS:w.heap.size+1<=(w.alloc (.cells #[.int .i64 b.x,.int .i64 b.y,.int .i64 b.lo,.int .i64 b.hi,.int .i64 b.i,.int .i64 b.o] 56)).heap.size:=by simp
 go_enter Tryz.func83,Tryz.ntmps83
 go_wp2
 go_loopw [5] (λi wr=>∃k:Nat,k<=l.length/\i=.int .i64 k/\Below (w.heap.size+1) (w.alloc (.cells #[.int .i64 b.x,.int .i64 b.y,.int .i64 b.lo,.int .i64 b.hi,.int .i64 b.i,.int .i64 b.o] 56)) wr/\Hid (nW l b k)) (λi _=>l.length-(intOf i).toNat)
 case atStart=>exact⟨0,nz _,rfl,br _ _,by simp[Hid,nW]⟩
 case round=>
  obtain⟨k,hk,rfl,m,c⟩:=hrel;have j:aF w wr:=(aB (br _ _) _).trans (m.mono (by omega));have a0:wr.cell? ⟨w.heap.size,0,none⟩=some (.int .i64 b.x):=(m.cell (by simp)).trans (by simp);have a1:wr.cell? ⟨w.heap.size,1,none⟩=some (.int .i64 b.y):=(m.cell (by simp)).trans (by simp);have a2:wr.cell? ⟨w.heap.size,2,none⟩=some (.int .i64 b.lo):=(m.cell (by simp)).trans (by simp)
  by_cases a:k<l.length
  ·rcases D with h|⟨bl,off,rfl,B⟩
   ·subst h;simp at a
   ·have p:=(B k a).zL j
    obtain⟨f,n⟩:=bP (l[k]);rw[←n]at p;have r:=aG n;clear n B;obtain⟨c0,c1,c2⟩:=m8 p;clear p
    by_cases hx:f.x=b.x
    ·by_cases d:f.y=b.y
     ·by_cases q:b.lo=0
      ·have t:(f.x==b.x)=true:=by simp[hx]
       have A:(f.y==b.y)=true:=by simp[d]
       have C:(b.lo==0)=true:=by simp[q]
       have g:Hid (b.lo=0/\f.x=b.x/\f.y=b.y):=⟨q,hx,d⟩;clear hx d q;go_wp2
       go_region
       all_goals
        go_wp2
        go_ret;exact⟨aD (by rw[v.oQ,NB a r.oQ g.oQ]),j.drew⟩
      ·have t:(f.x==b.x)=true:=by simp[hx]
       have A:(f.y==b.y)=true:=by simp[d]
       have C:(b.lo==0)=false:=by simp[q]
       have g:Hid (¬(b.lo=0/\f.x=b.x/\f.y=b.y)):=λh=>q h.1;clear hx d q;go_wp2
       go_region
       all_goals
        go_wp2
        go_roundw
        case rel=>exact⟨k+1,by omega,by go_num,m.drew,vS a r.oQ c.out g.oQ⟩
        case measure=>simp[intOf];omega
     ·have t:(f.x==b.x)=true:=by simp[hx]
      have A:(f.y==b.y)=false:=by simp[d]
      have g:Hid (¬(b.lo=0/\f.x=b.x/\f.y=b.y)):=λh=>d h.2.2;clear hx d;go_wp2
      go_region
      all_goals
       go_wp2
       go_roundw
       case rel=>exact⟨k+1,by omega,by go_num,m.drew,vS a r.oQ c.out g.oQ⟩
       case measure=>simp[intOf];omega
    ·have t:(f.x==b.x)=false:=by simp[hx]
     have g:Hid (¬(b.lo=0/\f.x=b.x/\f.y=b.y)):=λh=>hx h.2.1;clear hx;go_wp2
     go_region
     all_goals
      go_wp2
      go_roundw
      case rel=>exact⟨k+1,by omega,by go_num,m.drew,vS a r.oQ c.out g.oQ⟩
      case measure=>simp[intOf];omega
  ·go_wp2
   go_ret;refine⟨aD ?_,j⟩;unfold nW at c;rw[ltl (by omega)]at c;rw[v.oQ];exact c.out.symm
end Go.Proofs.YtcdbcliaepcpfaaGreatDoor
