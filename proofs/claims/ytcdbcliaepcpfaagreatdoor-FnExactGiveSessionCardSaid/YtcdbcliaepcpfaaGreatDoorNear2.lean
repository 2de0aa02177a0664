import Derived.Deep.RegionWith
import Derived.Test.YtcdbcliaepcpfaaGreatDoorFld
import Derived.Test.YtcdbcliaepcpfaaGreatDoorAft
namespace Go.Proofs.YtcdbcliaepcpfaaGreatDoor
set_option maxRecDepth 100000
set_option maxHeartbeats 1000000
open Go.RowKit
theorem uM (f lb:List Bx)(A B:Option Addr)(D E:Nat)(w:World)(t:jJ w A f)(u:jJ w B lb)(hna:f.length<=1048576)(x:lb.length<=1048576):
 aY 137 #[.slice A f.length D,.slice B lb.length E] w λe w'=>e=.returned (.bool (f.any λa=>lb.any (dQ a)))/\aF w w':=by
 go_enter Tryz.func137,Tryz.ntmps137
 go_wp2
 go_loopw [9] (λi wr=>∃k:Nat,k<=f.length/\i=.int .i64 k/\aF w wr/\Hid ((f.take k).any (λa=>lb.any (dQ a))=false)) (λi _=>f.length-(intOf i).toNat)
 case atStart=>exact⟨0,nz _,rfl,br _ _,by simp[Hid]⟩
 case round=>
  obtain⟨k,hk,rfl,d,j⟩:=hrel
  by_cases g:k<f.length
  · rcases t with h|⟨bl,off,rfl,C⟩
    · subst h;simp at g
    · have o:=(C k g).zL d
      obtain⟨b,l⟩:=bP (f[k]);rw[←l]at o;have p:=aG l;clear l C;obtain⟨c0,c1,c2,c3,c4,c5⟩:=o
      rcases Bool.eq_false_or_eq_true (aK b)with q|q
      · go_wp2_with (first
        |(go_at_call 178;refine(rF _ _).mono ?_;rintro e n ⟨rfl,c⟩;have d:aF w n:=bL (by repeat (first|exact d|refine lP ?_ (nlq _) _)) (nlq _) c;obtain⟨r,s⟩:=qV c;have y:wr.heap.size<n.heap.size:=(by have:=c.size;(try simp at this);omega))
        |(go_at_call 179;refine(JQ _ _ _ _ _ q (u.zL d) x).mono ?_;rintro e n ⟨rfl,c⟩;have d:aF w n:=bL d (nlq _) c;obtain⟨v,m⟩:∃v,v=lb.any (dQ b):=⟨_,rfl⟩;rw[←m];have z:Hid (v=lb.any (dQ b)):=m;clear m))
        · have m:v=true:=by assumption
          go_ret;exact⟨aD (gI _ f k g (by rw[←p.oQ,←z.oQ];exact m)).symm,d⟩
        · have m:v=false:=by assumption
          go_roundw
          case rel=>exact⟨k+1,by omega,by go_num,d,by rw[Hid,gQ _ f k g,j.out,←p.oQ,←z.oQ,m];rfl⟩
          case measure=>simp[intOf];omega
      · go_wp2_with (first
        |(go_at_call 178;refine(rF _ _).mono ?_;rintro e n ⟨rfl,c⟩;have d:aF w n:=bL (by repeat (first|exact d|refine lP ?_ (nlq _) _)) (nlq _) c;obtain⟨r,s⟩:=qV c;have y:wr.heap.size<n.heap.size:=(by have:=c.size;(try simp at this);omega)))
        go_roundw
        case rel=>exact⟨k+1,by omega,by go_num,d,by rw[Hid,gQ _ f k g,j.out,←p.oQ,xW _ q];rfl⟩
        case measure=>simp[intOf];omega
  · go_wp2
    go_ret;refine⟨aD ?_,d⟩;rw[ltl (by omega)]at j;exact j.out.symm
theorem F4 (d lb:List Bx)(A B:Option Addr)(D E:Nat)(w:World)(v:jJ w A d)(x:jJ w B lb)(hna:d.length<=1048576)(hnb:lb.length<=1048576):
 aY 84 #[.slice A d.length D,.slice B lb.length E] w λe w'=>e=.returned (.bool (d.any λa=>lb.any (dQ a)))/\aF w w':=by
 go_enter Tryz.func84,Tryz.ntmps84
 go_wp2
 go_loopw [5,6] (λi _ wr=>∃k:Nat,k<=d.length/\i=.int .i64 k/\aF w wr/\Hid ((d.take k).any (λa=>lb.any (dQ a))=false)) (λi _ _=>d.length-(intOf i).toNat)
 case atStart=>exact⟨0,nz _,rfl,br _ _,by simp[Hid]⟩
 case round=>
  obtain⟨k,hk,rfl,c,q⟩:=hrel
  by_cases g:k<d.length
  ·rcases v with h|⟨bl,off,rfl,C⟩
   ·subst h;simp at g
   ·have n:=C k g
    obtain⟨a,l⟩:=bP (d[k]);rw[←l]at n;have y:=aG l;clear l C;go_wp2
    go_loopw [6] (λi G=>∃j:Nat,j<=lb.length/\i=.int .i64 j/\aF w G/\Hid ((lb.take j).any (dQ a)=false)) (λi _=>lb.length-(intOf i).toNat)
    case atStart=>exact⟨0,nz _,rfl,c,by simp[Hid]⟩
    case round=>
     clear c;obtain⟨j,hj,rfl,c,p⟩:=hrel
     by_cases f:j<lb.length
     ·rcases x with h|⟨bl2,off2,rfl,s⟩
      ·subst h;simp at f
      ·have r:=(s j f).zL c
       have u:=n.zL c;obtain⟨b,m⟩:=bP (lb[j]);rw[←m]at r;have z:=aG m;clear m s n;obtain⟨c0,c1,c2,c3,c4,c5⟩:=u;obtain⟨d0,d1,d2,d3,d4,d5⟩:=r;go_wp2_with fail
       go_region_with (go_at_call 120;refine(IT _ _ _).mono ?_;rintro e F ⟨rfl,t⟩;have c:aF w F:=bL (by repeat (first|exact c|refine Below.drew ?_)) (nlq _) t)
       all_goals
        go_wp2
        ·have o:dQ a b=true:=by assumption
         go_ret;exact⟨aD (gI _ d k g (by rw[←y.oQ];exact gI _ lb j f (by rw[←z.oQ];exact o))).symm,c⟩
        ·have o:dQ a b=false:=by assumption
         go_roundw
         case rel=>exact⟨j+1,by omega,by go_num,c,by rw[Hid,gQ _ lb j f,p.out,←z.oQ,o];rfl⟩
         case measure=>simp[intOf];omega
     ·rw[ltl (by omega)]at p
      go_wp2
      go_roundw
      case rel=>exact⟨k+1,by omega,by go_num,c,by rw[Hid,gQ _ d k g,q.out,←y.oQ,p.out];rfl⟩
      case measure=>simp[intOf];omega
  ·go_wp2
   go_ret;refine⟨aD ?_,c⟩;rw[ltl (by omega)]at q;exact q.out.symm
set_option maxHeartbeats 2000000
theorem qP (b:Bx)(v:Bool)(h:aK b=v)(w:World):aY 81 #[b.val] w λe w'=>e=.returned (.bool v)/\aF w w':=by
 subst h;exact nG b w
theorem LC (a b:Bx)(v:Bool)(ha:aK a=true)(c:aK b=true)(h:dP a b=v)(w:World):aY 82 #[a.val,b.val] w λe w'=>e=.returned (.bool v)/\aF w w':=by
 subst h;exact K0 a b w ha c
def oP (l:List Bx)(k:Nat):Prop:=(l.take k).all aK=true/\∀i (h:i+1<l.length),i+1<k->dP l[i] l[i+1]=true
theorem oP.step {l:List Bx}{k:Nat}(h:oP l k)(c:k<l.length)(a:aK l[k]=true)(d:∀(h0:0<k),dP (l[k-1]'(by omega)) l[k]=true):oP l (k+1):=by
 refine⟨by rw[t8 _ l k c,h.1,a];rfl,λi b hik=>?_⟩;by_cases e:i+1=k
 ·subst e;have:=d (by omega);simpa using this
 ·exact h.2 i b (by omega)
theorem oP.prev {l:List Bx}{k:Nat}(h:oP l k)(hk:k<l.length)(h0:0<k):aK (l[k-1]'(by omega))=true:=by
 have a:l[k-1]'(by omega)∈l.take k:=by
  rw[List.mem_take_iff_getElem];exact⟨k-1,by omega,rfl⟩
 exact lat.1 h.1 _ a
theorem oP.done {l:List Bx}{k:Nat}(h:oP l k)(b:l.length<=k):l.all aK=true/\eY l=true:=by
 refine⟨by have:=h.1;rwa[ltl b]at this,(fC l).2 λi a=>h.2 i a (by omega)⟩
theorem xO {a:List Fx}{l:List Bx}(h:n6 l.length=false):aQ a l=false:=by rw[aQ,h];rfl
theorem xD {a:List Fx}{l:List Bx}(h:l.all aK=false):aQ a l=false:=by rw[aQ,h];simp
theorem vB {a:List Fx}{l:List Bx}(h:eY l=false):aQ a l=false:=by rw[aQ,h];simp
theorem zL {a:List Fx}{l:List Bx}(b:n6 l.length=true)(c:l.all aK=true)(d:eY l=true):aQ a l=kY a l:=by rw[aQ,b,c,d];rfl
theorem SL {l:List Bx}{k:Nat}{a b:Bx}{c:Bool}(hk:0<k){h1:k-1<l.length}{h2:k<l.length}(ha:a=l[k-1])(d:b=l[k])(h:dP a b=c){h3:k-1+1<l.length}:dP l[k-1] l[k-1+1]=c:=by
 have e:k-1+1=k:=by omega
 have:l[k-1+1]=l[k]:=by simp[e]
 rw[this,←ha,←d];exact h
theorem C8 (a:List Fx)(l:List Bx)(h:l.length-1<l.length)(b:Bx)(c:b=l[l.length-1]):kY a l=(decide (b.lo=0)&&BV a b.x b.y):=by
 subst c;exact lC a l h
theorem oL (y:List Fx)(l:List Bx)(O Z:Option Addr)(cf P:Nat)(w:World)(S:Xs 3 Fx.cells w O y)(hl:jJ w Z l)(W:y.length<=1048576)(hn:l.length<=1048576):
 aY 44 #[.slice O y.length cf,.slice Z l.length P] w λe w'=>e=.returned (.bool (aQ y l))/\aF w w':=by
 obtain⟨V,Q⟩:=bP (aQ y l);rw[←Q];have L:=aG Q;clear Q
 by_cases g:1<=l.length/\l.length<=40
 ·have T:fO (l.length:Int) 1 40=true:=by simp only[fO,dte];omega
  have M:=aG (decide_eq_true g);obtain⟨J,hl2⟩:=g
  go_enter Tryz.func44,Tryz.ntmps44
  go_wp2_with (go_at_call 49;refine(dV _ _ _ _).mono ?_;rintro e w ⟨rfl,rfl⟩)
  go_loopw [5] (λi wr=>∃k:Nat,k<=l.length/\i=.int .i64 k/\aF w wr/\Hid (oP l k)) (λi _=>l.length-(intOf i).toNat)
  case atStart=>exact⟨0,nz _,rfl,br _ _,by simp[Hid,oP]⟩
  case round=>
   obtain⟨k,hk,rfl,d,u⟩:=hrel
   rcases hl with h|⟨bl,off,rfl,z⟩
   ·rw[h]at J;simp at J
   by_cases j:k<l.length
   ·have f:=(z k j).zL d
    have hne:Nonempty (cO wr):=⟨⟨wr,br _ _⟩⟩;obtain⟨b,c⟩:=bP (l[k]);rw[←c]at f;have x:=aG c
    rcases Bool.eq_false_or_eq_true (aK b)with v|v
    ·by_cases I:k=0
     ·subst I
      clear c z;rw[Nat.zero_mul,Nat.add_zero]at f;obtain⟨m,n,o,p,q,r⟩:=f;have B:=cO.cell m;have C:=cO.cell n;have D:=cO.cell o;have E:=cO.cell p;have F:=cO.cell q;have G:=cO.cell r;clear m n o p q r;go_wp2_with fail
      refine bC (by kernel_rfl) (by kernel_rfl) ?_
      repeat (go_big_quiet_step ((go_at_call 81;exact cO.call _ (qP _ _ v _))))
      refine wpQuiet_nil ?_;rintro _ ⟨s,rfl⟩;have d:aF w s.w:=aC d s.h;clear B C D E F G;go_wp2
      go_roundw
      case rel=>exact⟨1,by omega,by go_num,d,u.out.step j (by rw[←x.oQ];exact v) (λh0=>absurd h0 (by omega))⟩
      case measure=>simp[intOf];omega
     ·have U:0<k:=by omega
      have hkq:(1:Int)<=(k:Int):=by omega
      have H:=(z (k-1) (by omega)).zL d;obtain⟨a,t⟩:=bP (l[k-1]'(by omega));rw[←t]at H;have Y:=aG t;have X:aK a=true:=by rw[t];exact u.out.prev j (by omega)
      obtain⟨nx,K⟩:=cK (dP a b);have N:=aG K;clear c t z K I;obtain⟨m,n,o,p,q,r⟩:=f;obtain⟨d0,d1,d2,d3,d4,d5⟩:=H;have B:=cO.cell m;have C:=cO.cell n;have D:=cO.cell o;have E:=cO.cell p;have F:=cO.cell q;have G:=cO.cell r;have g0:=cO.cell d0;have g1:=cO.cell d1;have g2:=cO.cell d2;have g3:=cO.cell d3;have g4:=cO.cell d4;have g5:=cO.cell d5;clear m n o p q r d0 d1 d2 d3 d4 d5;go_wp2_with fail
      refine bC (by kernel_rfl) (by kernel_rfl) ?_
      repeat (go_big_quiet_step (first|(go_at_call 81;exact cO.call _ (qP _ _ v _))|(go_at_call 82;exact cO.call _ (LC _ _ _ X v N.oQ _))))
      refine wpQuiet_nil ?_;rintro _ ⟨s,rfl⟩;have d:aF w s.w:=aC d s.h;clear B C D E F G g0 g1 g2 g3 g4 g5;go_wp2
      ·have A:nx=false:=nf (by assumption)
       subst A;go_ret;exact⟨aD (by rw[L.oQ];exact(vB (uC l (k-1) (by omega) (SL U Y.oQ x.oQ N.oQ))).symm),d⟩
      ·have A:nx=true:=nt (by assumption)
       subst A
       go_roundw
       case rel=>exact⟨k+1,by omega,by go_num,d,u.out.step j (by rw[←x.oQ];exact v) (λ_=>by rw[←Y.oQ,←x.oQ];exact N.oQ)⟩
       case measure=>simp[intOf];omega
    ·clear c z
     obtain⟨m,n,o,p,q,r⟩:=f;have B:=cO.cell m;have C:=cO.cell n;have D:=cO.cell o;have E:=cO.cell p;have F:=cO.cell q;have G:=cO.cell r;clear m n o p q r;go_wp2_with fail
     refine bC (by kernel_rfl) (by kernel_rfl) ?_
     repeat (go_big_quiet_step ((go_at_call 81;exact cO.call _ (qP _ _ v _))))
     refine wpQuiet_nil ?_;rintro _ ⟨s,rfl⟩;have d:aF w s.w:=aC d s.h;clear B C D E F G;go_wp2
     go_ret;exact⟨aD (by rw[L.oQ];exact(xD (sN _ l k j (by rw[←x.oQ];exact v))).symm),d⟩
   ·have f:=(z (l.length-1) (by omega)).zL d
    obtain⟨b,c⟩:=bP (l[l.length-1]'(by omega));rw[←c]at f;have x:=aG c;clear c z;obtain⟨m,n,o,p,q,r⟩:=f
    go_wp2_with (go_at_call 83;refine(E6 y O cf b _ (S.zL d) W).mono ?_;rintro e w1 ⟨rfl,R⟩;have d:aF w w1:=bL d (nlq _) R)
    go_ret;obtain⟨ha,hp⟩:=u.out.done (by omega);exact⟨aD (by rw[L.oQ,zL M.oQ ha hp];exact(C8 y l (by omega) b x.oQ).symm),d⟩
 ·have T:fO (l.length:Int) 1 40=false:=by simp only[fO,decide_eq_false_iff_not];omega
  have M:=aG (decide_eq_false g);clear g
  go_enter Tryz.func44,Tryz.ntmps44
  go_wp2_with (go_at_call 49;refine(dV _ _ _ _).mono ?_;rintro e w ⟨rfl,rfl⟩)
  go_ret;exact⟨aD (by rw[L.oQ];exact(xO M.oQ).symm),br _ _⟩
end Go.Proofs.YtcdbcliaepcpfaaGreatDoor
