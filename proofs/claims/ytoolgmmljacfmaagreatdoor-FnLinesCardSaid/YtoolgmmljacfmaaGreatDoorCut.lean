import Derived.Test.YtoolgmmljacfmaaGreatDoorLeaf
set_option maxRecDepth 100000
set_option maxHeartbeats 1000000
open List renaming length → ln
open Go.Proofs.Tryz Go.RowKit
namespace Go.Proofs.YtoolgmmljacfmaaGreatDoor
theorem yF (l:List Bx)(D:Oa)(A:Nat)(a:Int)(w:Wd)(J:jG w D l)(hn:ln l<=1048576):
 aW 284 #[.slice D (ln l) A,I a] w λe w'=>∃v,e=rt v/\aN w' w.heap.size v (bH a l)/\aG w w':=by
 obtain⟨H,G,t,u,x⟩:=info_parts Tryz.info91
 go_enter func284,ntmps284
 go_wp2
 go_loopw [5,10] (λv i wr=>∃k:Nat,k<=ln l/\i=I k/\wr.ownsRow w.heap.size 91 6 v (ln (bH a (l.take k))) (fG (bH a (l.take k)))/\aG w wr) (λ_ i _=>ln l-(intOf i).toNat)
 case atStart=>exact⟨0,nz _,rfl,won _ _ _ _,br _ _⟩
 case round=>
  obtain⟨k,hk,rfl,c,g⟩:=hrel
  by_cases n:k<ln l
  ·rcases J with h|⟨bl,off,rfl,F⟩
   ·subst h;simp at n
   ·have s:=(F k n).zL g
    have hlen:=fW a (l.take k);have hlt2:ln (l.take k)<=k:=List.length_take_le _ _;have p:=FZ l k n;obtain⟨b,r⟩:=bQ (l[k]);rw[←r]at s p;have z:=aI p;clear r F p;obtain⟨c0,c1,c2,c3,c4,c5⟩:=s
    by_cases j:a<=b.o
    ·by_cases hin:b.i<a
     ·go_wp2_with (at_builtin;refine wpList_append_own _ rfl (.tmp 23) (.tmp 25) 41 rfl w.heap.size 91 H _ 6 48 underlying41 G t u x rfl dz _ _ _ rfl ((c.alloc _).alloc _) (Y (wr.heap.size+1) 0) 1 1 (aR { b with i:=a}) rfl rfl ?qc1 ?qc2 ?qc3 ?qc4 ?qc5 ?_)
      case qc1=>first|exact λ_ _ h=>h|exact vD _ _ sm { b with i:=a}
      case qc2=>exact m9 _
      case qc3=>unfold maxLen;omega
      case qc4=>omega
      case qc5=>have:=g.size;(try simp);omega
      intro C w1 f d _
      have hcut:bH a (l.take (k+1))=bH a (l.take k)++[{ b with i:=a}]:=by
       rw[z.oQ,kF _ _ _ j,iF,show max b.i a=a from by omega]
      have y:Hid (w1.ownsRow w.heap.size 91 6 C (ln (bH a (l.take (k+1)))) (fG (bH a (l.take (k+1))))):=by
       rw[hcut,jV,lla];exact f
      have m:aG w w1:=((g.alloc g.size _).alloc (by have:=g.size;simp;omega) _).grown d (by have:=g.size;simp;omega) (λq B=>eH c B);clear hcut c f d g;go_wp2
      go_roundw
      case rel=>exact⟨k+1,om,gn,y.oQ,m⟩
      case measure=>simp[intOf];omega
     ·go_wp2_with (at_builtin;refine wpList_append_own _ rfl (.tmp 23) (.tmp 25) 41 rfl w.heap.size 91 H _ 6 48 underlying41 G t u x rfl dz _ _ _ rfl ((c.alloc _).alloc _) (Y (wr.heap.size+1) 0) 1 1 (aR b) rfl rfl ?qc1 ?qc2 ?qc3 ?qc4 ?qc5 ?_)
      case qc1=>first|exact λ_ _ h=>h|exact vD _ _ sm b
      case qc2=>exact m9 _
      case qc3=>unfold maxLen;omega
      case qc4=>omega
      case qc5=>have:=g.size;(try simp);omega
      intro C w1 f d _
      have hcut:bH a (l.take (k+1))=bH a (l.take k)++[b]:=by
       rw[z.oQ,kF _ _ _ j,iF,show max b.i a=b.i from by omega]
      have y:Hid (w1.ownsRow w.heap.size 91 6 C (ln (bH a (l.take (k+1)))) (fG (bH a (l.take (k+1))))):=by
       rw[hcut,jV,lla];exact f
      have m:aG w w1:=((g.alloc g.size _).alloc (by have:=g.size;simp;omega) _).grown d (by have:=g.size;simp;omega) (λq B=>eH c B);clear hcut c f d g;go_wp2
      go_roundw
      case rel=>exact⟨k+1,om,gn,y.oQ,m⟩
      case measure=>simp[intOf];omega
    ·go_wp2
     go_roundw
     case rel=>exact⟨k+1,om,gn,by rw[z.oQ,pP _ _ _ j];exact c.alloc _,g.alloc g.size _⟩
     case measure=>simp[intOf];omega
  ·go_wp2
   go_ret;refine⟨_,rfl,aN.of_owns ?_,g⟩;rw[ltl om]at c;exact c
theorem yR (l:List Bx)(D:Oa)(A:Nat)(a:Int)(w:Wd)(J:jG w D l)(hn:ln l<=1048576):
 aW 68 #[.slice D (ln l) A,I a] w λe w'=>∃v,e=rt v/\aN w' w.heap.size v (bH a l)/\aG w w':=by
 obtain⟨H,G,t,u,x⟩:=info_parts Tryz.info91
 go_enter func68,ntmps68
 go_wp2
 go_loopw [5,6] (λv i wr=>∃k:Nat,k<=ln l/\i=I k/\wr.ownsRow w.heap.size 91 6 v (ln (bH a (l.take k))) (fG (bH a (l.take k)))/\aG w wr) (λ_ i _=>ln l-(intOf i).toNat)
 case atStart=>exact⟨0,nz _,rfl,by simpa[bH,fG]using World.ownsRow_lit (base:=w.heap.size) (e:=91) (size:=6) w #[] 0 (nlq _) (nz _) rfl,aC (br _ _) _⟩
 case round=>
  obtain⟨k,hk,rfl,c,g⟩:=hrel
  by_cases n:k<ln l
  ·rcases J with h|⟨bl,off,rfl,F⟩
   ·subst h;simp at n
   ·have s:=(F k n).zL g
    have hlen:=fW a (l.take k);have hlt2:ln (l.take k)<=k:=List.length_take_le _ _;have p:=FZ l k n;obtain⟨b,r⟩:=bQ (l[k]);rw[←r]at s p;have z:=aI p;clear r F p;obtain⟨c0,c1,c2,c3,c4,c5⟩:=s
    by_cases j:a<=b.o
    ·by_cases hin:b.i<a
     ·go_wp2_with (at_builtin;refine wpList_append_own _ rfl (.tmp 29) (.tmp 31) 41 rfl w.heap.size 91 H _ 6 48 underlying41 G t u x rfl dz _ _ _ rfl ((c.alloc _).alloc _) (Y (wr.heap.size+1) 0) 1 1 (aR { b with i:=a}) rfl rfl ?qc1 ?qc2 ?qc3 ?qc4 ?qc5 ?_)
      case qc1=>first|exact λ_ _ h=>h|exact vD _ _ sm { b with i:=a}
      case qc2=>exact m9 _
      case qc3=>unfold maxLen;omega
      case qc4=>omega
      case qc5=>have:=g.size;(try simp);omega
      intro C w1 f d _
      have hcut:bH a (l.take (k+1))=bH a (l.take k)++[{ b with i:=a}]:=by
       rw[z.oQ,kF _ _ _ j,iF,show max b.i a=a from by omega]
      have y:Hid (w1.ownsRow w.heap.size 91 6 C (ln (bH a (l.take (k+1)))) (fG (bH a (l.take (k+1))))):=by
       rw[hcut,jV,lla];exact f
      have m:aG w w1:=((g.alloc g.size _).alloc (by have:=g.size;simp;omega) _).grown d (by have:=g.size;simp;omega) (λq B=>eH c B);clear hcut c f d g;go_wp2
      go_roundw
      case rel=>exact⟨k+1,om,gn,y.oQ,m⟩
      case measure=>simp[intOf];omega
     ·go_wp2_with (at_builtin;refine wpList_append_own _ rfl (.tmp 29) (.tmp 31) 41 rfl w.heap.size 91 H _ 6 48 underlying41 G t u x rfl dz _ _ _ rfl ((c.alloc _).alloc _) (Y (wr.heap.size+1) 0) 1 1 (aR b) rfl rfl ?qc1 ?qc2 ?qc3 ?qc4 ?qc5 ?_)
      case qc1=>first|exact λ_ _ h=>h|exact vD _ _ sm b
      case qc2=>exact m9 _
      case qc3=>unfold maxLen;omega
      case qc4=>omega
      case qc5=>have:=g.size;(try simp);omega
      intro C w1 f d _
      have hcut:bH a (l.take (k+1))=bH a (l.take k)++[b]:=by
       rw[z.oQ,kF _ _ _ j,iF,show max b.i a=b.i from by omega]
      have y:Hid (w1.ownsRow w.heap.size 91 6 C (ln (bH a (l.take (k+1)))) (fG (bH a (l.take (k+1))))):=by
       rw[hcut,jV,lla];exact f
      have m:aG w w1:=((g.alloc g.size _).alloc (by have:=g.size;simp;omega) _).grown d (by have:=g.size;simp;omega) (λq B=>eH c B);clear hcut c f d g;go_wp2
      go_roundw
      case rel=>exact⟨k+1,om,gn,y.oQ,m⟩
      case measure=>simp[intOf];omega
    ·go_wp2
     go_roundw
     case rel=>exact⟨k+1,om,gn,by rw[z.oQ,pP _ _ _ j];exact c.alloc _,g.alloc g.size _⟩
     case measure=>simp[intOf];omega
  ·go_wp2
   go_ret;refine⟨_,rfl,aN.of_owns ?_,g⟩;rw[ltl om]at c;exact c
