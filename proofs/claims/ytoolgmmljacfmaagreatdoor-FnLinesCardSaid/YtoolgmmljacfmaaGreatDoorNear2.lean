import Derived.Test.YtoolgmmljacfmaaGreatDoorLeaf
import Derived.Test.YtoolgmmljacfmaaGreatDoorAft
set_option maxRecDepth 100000
set_option maxHeartbeats 2000000
open List renaming length → ln
open Go.RowKit
namespace Go.Proofs.YtoolgmmljacfmaaGreatDoor
theorem vW (f lb:List Bx)(z A:Oa)(C D:Nat)(w:Wd)(s:jG w z f)(t:jG w A lb)(hna:ln f<=1048576)(u:ln lb<=1048576):
 aW 154 #[.slice z (ln f) C,.slice A (ln lb) D] w λe w'=>e=rt (.bool (f.any λa=>lb.any (dY a)))/\aG w w':=by
 go_enter Tryz.func154,Tryz.ntmps154
 go_wp2
 go_loopw [9] (λi wr=>∃k:Nat,k<=ln f/\i=I k/\aG w wr/\Hid ((f.take k).any (λa=>lb.any (dY a))=false)) (λi _=>ln f-(intOf i).toNat)
 case atStart=>exact⟨0,nz _,rfl,br _ _,by simp[Hid]⟩
 case round=>
  obtain⟨k,hk,rfl,d,j⟩:=hrel
  by_cases g:k<ln f
  · rcases s with h|⟨bl,off,rfl,B⟩
    · subst h;simp at g
    · have n:=(B k g).zL d
      obtain⟨b,l⟩:=bQ (f[k]);rw[←l]at n;have o:=aI l;clear l B;obtain⟨c0,c1,c2,c3,c4,c5⟩:=n
      rcases bfo (aK b)with p|p
      · go_wp2_with (first
        |(go_at_call 194;refine(sX _ _).mono ?_;rintro e w1 ⟨rfl,c⟩;have d:aG w w1:=bI (by repeat (first|exact d|refine mG ?_ (nlq _) _)) (nlq _) c;obtain⟨q,r⟩:=rX c;have x:wr.heap.size<w1.heap.size:=(by have:=c.size;(try simp at this);omega))
        |(go_at_call 195;refine(LE _ _ _ _ _ p (t.zL d) u).mono ?_;rintro e w1 ⟨rfl,c⟩;have d:aG w w1:=bI d (nlq _) c;obtain⟨v,m⟩:∃v,v=lb.any (dY b):=⟨_,rfl⟩;rw[←m];have y:Hid (v=lb.any (dY b)):=m;clear m))
        · have m:v=true:=aq
          go_ret;exact⟨aF (gU _ f k g (by rw[←o.oQ,←y.oQ];exact m)).symm,d⟩
        · have m:v=false:=aq
          go_roundw
          case rel=>exact⟨k+1,om,gn,d,by rw[Hid,iH _ f k g,j.out,←o.oQ,←y.oQ,m];rfl⟩
          case measure=>simp[intOf];omega
      · go_wp2_with (first
        |(go_at_call 194;refine(sX _ _).mono ?_;rintro e w1 ⟨rfl,c⟩;have d:aG w w1:=bI (by repeat (first|exact d|refine mG ?_ (nlq _) _)) (nlq _) c;obtain⟨q,r⟩:=rX c;have x:wr.heap.size<w1.heap.size:=(by have:=c.size;(try simp at this);omega)))
        go_roundw
        case rel=>exact⟨k+1,om,gn,d,by rw[Hid,iH _ f k g,j.out,←o.oQ,zH _ p];rfl⟩
        case measure=>simp[intOf];omega
  · go_wp2
    go_ret;refine⟨aF ?_,d⟩;rw[ltl om]at j;exact j.out.symm
theorem IK (d lb:List Bx)(A B:Oa)(D F:Nat)(w:Wd)(v:jG w A d)(x:jG w B lb)(hna:ln d<=1048576)(hnb:ln lb<=1048576):
 aW 102 #[.slice A (ln d) D,.slice B (ln lb) F] w λe w'=>e=rt (.bool (d.any λa=>lb.any (dY a)))/\aG w w':=by
 go_enter Tryz.func102,Tryz.ntmps102
 go_wp2
 go_loopw [5,6] (λi _ wr=>∃k:Nat,k<=ln d/\i=I k/\aG w wr/\Hid ((d.take k).any (λa=>lb.any (dY a))=false)) (λi _ _=>ln d-(intOf i).toNat)
 case atStart=>exact⟨0,nz _,rfl,br _ _,by simp[Hid]⟩
 case round=>
  obtain⟨k,hk,rfl,c,q⟩:=hrel
  by_cases g:k<ln d
  ·rcases v with h|⟨bl,off,rfl,C⟩
   ·subst h;simp at g
   ·have n:=C k g
    obtain⟨a,l⟩:=bQ (d[k]);rw[←l]at n;have y:=aI l;clear l C;go_wp2
    go_loopw [6] (λi G=>∃j:Nat,j<=ln lb/\i=I j/\aG w G/\Hid ((lb.take j).any (dY a)=false)) (λi _=>ln lb-(intOf i).toNat)
    case atStart=>exact⟨0,nz _,rfl,c,by simp[Hid]⟩
    case round=>
     clear c;obtain⟨j,hj,rfl,c,p⟩:=hrel
     by_cases f:j<ln lb
     ·rcases x with h|⟨bl2,off2,rfl,s⟩
      ·subst h;simp at f
      ·have r:=(s j f).zL c
       have u:=n.zL c;obtain⟨b,m⟩:=bQ (lb[j]);rw[←m]at r;have z:=aI m;clear m s n;obtain⟨c0,c1,c2,c3,c4,c5⟩:=u;obtain⟨d0,d1,d2,d3,d4,d5⟩:=r;go_wp2_with fail
       go_region_with (go_at_call 136;refine(LC _ _ _).mono ?_;rintro e w1 ⟨rfl,t⟩;have c:aG w w1:=bI (by repeat (first|exact c|refine Below.drew ?_)) (nlq _) t)
       all_goals
        go_wp2
        ·have o:dY a b=true:=aq
         go_ret;exact⟨aF (gU _ d k g (by rw[←y.oQ];exact gU _ lb j f (by rw[←z.oQ];exact o))).symm,c⟩
        ·have o:dY a b=false:=aq
         go_roundw
         case rel=>exact⟨j+1,om,gn,c,by rw[Hid,iH _ lb j f,p.out,←z.oQ,o];rfl⟩
         case measure=>simp[intOf];omega
     ·rw[ltl om]at p
      go_wp2
      go_roundw
      case rel=>exact⟨k+1,om,gn,c,by rw[Hid,iH _ d k g,q.out,←y.oQ,p.out];rfl⟩
      case measure=>simp[intOf];omega
  ·go_wp2
   go_ret;refine⟨aF ?_,c⟩;rw[ltl om]at q;exact q.out.symm
variable {l:List Bx}{k:Nat}{a:List Fx}{w b:Bx}{c:Bool}
theorem rF (b:Bx)(v:Bool)(h:aK b=v)(w:Wd):aW 105 #[b.val] w λe w'=>e=rt (.bool v)/\aG w w':=by
 subst h;exact oA b w
theorem OM (a b:Bx)(v:Bool)(ha:aK a=true)(c:aK b=true)(h:dW a b=v)(w:Wd):aW 106 #[a.val,b.val] w λe w'=>e=rt (.bool v)/\aG w w':=by
 subst h;exact QJ a b w ha c
def pL (l:List Bx)(k:Nat):Prop:=(l.take k).all aK=true/\∀i (h:i+1<l.length),i+1<k->dW l[i] l[i+1]=true
theorem pL.step (h:pL l k)(c:k<ln l)(a:aK l[k]=true)(d:∀(h0:0<k),dW (l[k-1]'om) l[k]=true):pL l (k+1):=by
 refine⟨by rw[uW _ l k c,h.1,a];rfl,λi b hik=>?_⟩;by_cases e:i+1=k
 ·subst e;have:=d om;simpa using this
 ·exact h.2 i b om
theorem pL.prev (h:pL l k)(hk:k<ln l)(h0:0<k):aK (l[k-1]'om)=true:=by
 have a:l[k-1]'om∈l.take k:=by
  rw[List.mem_take_iff_getElem];exact⟨k-1,om,rfl⟩
 exact lat.1 h.1 _ a
theorem pL.done (h:pL l k)(b:ln l<=k):l.all aK=true/\fJ l=true:=by
 refine⟨by have:=h.1;rwa[ltl b]at this,(fO l).2 λi a=>h.2 i a om⟩
theorem yE (h:oO (ln l)=false):aQ a l=false:=by rw[aQ,h];rfl
theorem y6 (h:l.all aK=false):aQ a l=false:=by rw[aQ,h];simp
theorem wW (h:fJ l=false):aQ a l=false:=by rw[aQ,h];simp
theorem C8 (b:oO (ln l)=true)(c:l.all aK=true)(d:fJ l=true):aQ a l=lT a l:=by rw[aQ,b,c,d];rfl
theorem WF (hk:0<k){h1:k-1<ln l}{h2:k<ln l}(ha:w=l[k-1])(d:b=l[k])(h:dW w b=c){h3:k-1+1<ln l}:dW l[k-1] l[k-1+1]=c:=by
 have e:k-1+1=k:=om;have:l[k-1+1]=l[k]:=by simp[e]
 rw[this,←ha,←d];exact h
theorem E9 (a:List Fx)(l:List Bx)(h:ln l-1<ln l)(b:Bx)(c:b=l[ln l-1]):lT a l=(decide (b.lo=0)&&zS a b.x b.y):=by
 subst c;exact l9 a l h
theorem qJ (y:List Fx)(l:List Bx)(Q ao:Oa)(cf R:Nat)(w:Wd)(U:Xs 3 Fx.cells w Q y)(hl:jG w ao l)(Z:ln y<=1048576)(hn:ln l<=1048576):
 aW 65 #[.slice Q (ln y) cf,.slice ao (ln l) R] w λe w'=>e=rt (.bool (aQ y l))/\aG w w':=by
 obtain⟨V,S⟩:=bQ (aQ y l);rw[←S];have N:=aI S;clear S
 by_cases g:1<=ln l/\(ln l)<=40
 ·have W:fQ (ln l:Int) 1 40=true:=by simp only[fQ,dte];omega
  have O:=aI (det g);obtain⟨L,hl2⟩:=g
  go_enter Tryz.func65,Tryz.ntmps65
  go_wp2_with (go_at_call 57;refine(eM _ _ _ _).mono ?_;rintro e w ⟨rfl,rfl⟩)
  go_loopw [5] (λi wr=>∃k:Nat,k<=ln l/\i=I k/\aG w wr/\Hid (pL l k)) (λi _=>ln l-(intOf i).toNat)
  case atStart=>exact⟨0,nz _,rfl,br _ _,by simp[Hid,pL]⟩
  case round=>
   obtain⟨k,hk,rfl,d,u⟩:=hrel
   rcases hl with h|⟨bl,off,rfl,z⟩
   ·rw[h]at L;simp at L
   by_cases j:k<ln l
   ·have f:=(z k j).zL d
    have hne:Nonempty (cV wr):=⟨⟨wr,br _ _⟩⟩;obtain⟨b,c⟩:=bQ (l[k]);rw[←c]at f;have x:=aI c
    rcases bfo (aK b)with v|v
    ·by_cases K:k=0
     ·subst K
      clear c z;rw[Nat.zero_mul,naz]at f;obtain⟨m,n,o,p,q,r⟩:=f;have B:=cV.cell m;have C:=cV.cell n;have D:=cV.cell o;have F:=cV.cell p;have G:=cV.cell q;have H:=cV.cell r;clear m n o p q r;go_wp2_with fail
      refine aY kr kr ?_
      repeat (go_big_quiet_step ((go_at_call 105;exact cV.call _ (rF _ _ v _))))
      refine wpQuiet_nil ?_;rintro _ ⟨s,rfl⟩;have d:aG w s.w:=aE d s.h;clear B C D F G H;go_wp2
      go_roundw
      case rel=>exact⟨1,om,gn,d,u.out.step j (by rw[←x.oQ];exact v) (λh0=>absurd h0 om)⟩
      case measure=>simp[intOf];omega
     ·have X:0<k:=om
      have J:=(z (k-1) om).zL d;obtain⟨a,t⟩:=bQ (l[k-1]'om);rw[←t]at J;have HA:=aI t;have za:aK a=true:=by rw[t];exact u.out.prev j om
      obtain⟨nx,M⟩:=cI (dW a b);have P:=aI M;clear c t z M K;obtain⟨m,n,o,p,q,r⟩:=f;obtain⟨d0,d1,d2,d3,d4,d5⟩:=J;have B:=cV.cell m;have C:=cV.cell n;have D:=cV.cell o;have F:=cV.cell p;have G:=cV.cell q;have H:=cV.cell r;have g0:=cV.cell d0;have g1:=cV.cell d1;have g2:=cV.cell d2;have g3:=cV.cell d3;have g4:=cV.cell d4;have g5:=cV.cell d5;clear m n o p q r d0 d1 d2 d3 d4 d5;go_wp2_with fail
      refine aY kr kr ?_
      repeat (go_big_quiet_step (first|(go_at_call 105;exact cV.call _ (rF _ _ v _))|(go_at_call 106;exact cV.call _ (OM _ _ _ za v P.oQ _))))
      refine wpQuiet_nil ?_;rintro _ ⟨s,rfl⟩;have d:aG w s.w:=aE d s.h;clear B C D F G H g0 g1 g2 g3 g4 g5;go_wp2
      ·have A:nx=false:=nf aq
       subst A;go_ret;exact⟨aF (by rw[N.oQ];exact(wW (wU l (k-1) om (WF X HA.oQ x.oQ P.oQ))).symm),d⟩
      ·have A:nx=true:=nt aq
       subst A
       go_roundw
       case rel=>exact⟨k+1,om,gn,d,u.out.step j (by rw[←x.oQ];exact v) (λ_=>by rw[←HA.oQ,←x.oQ];exact P.oQ)⟩
       case measure=>simp[intOf];omega
    ·clear c z
     obtain⟨m,n,o,p,q,r⟩:=f;have B:=cV.cell m;have C:=cV.cell n;have D:=cV.cell o;have F:=cV.cell p;have G:=cV.cell q;have H:=cV.cell r;clear m n o p q r;go_wp2_with fail
     refine aY kr kr ?_
     repeat (go_big_quiet_step ((go_at_call 105;exact cV.call _ (rF _ _ v _))))
     refine wpQuiet_nil ?_;rintro _ ⟨s,rfl⟩;have d:aG w s.w:=aE d s.h;clear B C D F G H;go_wp2
     go_ret;exact⟨aF (by rw[N.oQ];exact(y6 (uP _ l k j (by rw[←x.oQ];exact v))).symm),d⟩
   ·have f:=(z (ln l-1) om).zL d
    obtain⟨b,c⟩:=bQ (l[ln l-1]'om);rw[←c]at f;have x:=aI c;clear c z;obtain⟨m,n,o,p,q,r⟩:=f
    go_wp2_with (go_at_call 107;refine(GZ y Q cf b _ (U.zL d) Z).mono ?_;rintro e w1 ⟨rfl,T⟩;have d:aG w w1:=bI d (nlq _) T)
    go_ret;obtain⟨ha,hp⟩:=u.out.done om;exact⟨aF (by rw[N.oQ,C8 O.oQ ha hp];exact(E9 y l om b x.oQ).symm),d⟩
 ·have W:fQ (ln l:Int) 1 40=false:=by simp only[fQ,dfi];omega
  have O:=aI (def0 g);clear g
  go_enter Tryz.func65,Tryz.ntmps65
  go_wp2_with (go_at_call 57;refine(eM _ _ _ _).mono ?_;rintro e w ⟨rfl,rfl⟩)
  go_ret;exact⟨aF (by rw[N.oQ];exact(yE O.oQ).symm),br _ _⟩
