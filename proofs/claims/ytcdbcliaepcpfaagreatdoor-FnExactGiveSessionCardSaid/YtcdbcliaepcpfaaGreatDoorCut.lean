import Derived.Test.YtcdbcliaepcpfaaGreatDoorLeaf
namespace Go.Proofs.YtcdbcliaepcpfaaGreatDoor
set_option maxRecDepth 100000
set_option maxHeartbeats 1000000
open Go.RowKit
theorem xM (l:List Bx)(E:Option Addr)(B:Nat)(a:Int)(w:World)(I:jJ w E l)(hn:l.length<=1048576):
 aY 268 #[.slice E l.length B,.int .i64 a] w λe w'=>∃v,e=.returned v/\aP w' w.heap.size v (bI a l)/\aF w w':=by
 obtain⟨H,G,t,u,x⟩:=info_parts Tryz.info56
 go_enter Tryz.func268,Tryz.ntmps268
 go_wp2
 go_loopw [5,10] (λv i wr=>∃k:Nat,k<=l.length/\i=.int .i64 k/\wr.ownsRow w.heap.size 56 6 v (bI a (l.take k)).length (fA (bI a (l.take k)))/\aF w wr) (λ_ i _=>l.length-(intOf i).toNat)
 case atStart=>exact⟨0,nz _,rfl,World.ownsRow_nil _ _ _ _,br _ _⟩
 case round=>
  obtain⟨k,hk,rfl,c,g⟩:=hrel
  by_cases n:k<l.length
  ·rcases I with h|⟨bl,off,rfl,F⟩
   ·subst h;simp at n
   ·have s:=(F k n).zL g
    have hlen:=fK a (l.take k);have hlt2:(l.take k).length<=k:=List.length_take_le _ _;have p:=DC l k n;obtain⟨b,r⟩:=bP (l[k]);rw[←r]at s p;have A:=aG p;clear r F p;obtain⟨c0,c1,c2,c3,c4,c5⟩:=s
    by_cases j:a<=b.o
    ·by_cases hin:b.i<a
     ·go_wp2_with (at_builtin;refine wpList_append_own _ rfl (.tmp 23) (.tmp 25) 31 rfl w.heap.size 56 H _ 6 48 Tryz.underlying31 G t u x rfl (by decide) _ _ _ rfl ((c.alloc _).alloc _) ⟨wr.heap.size+1,0,none⟩ 1 1 (aR { b with i:=a}) rfl rfl ?qc1 ?qc2 ?qc3 ?qc4 ?qc5 ?_)
      case qc1=>first|exact λ_ _ h=>h|exact uX _ _ (by simp) { b with i:=a}
      case qc2=>exact mL _
      case qc3=>unfold maxLen;omega
      case qc4=>omega
      case qc5=>have:=g.size;(try simp);omega
      intro D y f d _
      have hcut:bI a (l.take (k+1))=bI a (l.take k)++[{ b with i:=a}]:=by
       rw[A.oQ,jL _ _ _ j,gW,show max b.i a=a from by omega]
      have z:Hid (y.ownsRow w.heap.size 56 6 D (bI a (l.take (k+1))).length (fA (bI a (l.take (k+1))))):=by
       rw[hcut,jE,List.length_append];exact f
      have m:aF w y:=((g.alloc g.size _).alloc (by have:=g.size;simp;omega) _).grown d (by have:=g.size;simp;omega) (λq C=>fB c C);clear hcut c f d g;go_wp2
      go_roundw
      case rel=>exact⟨k+1,by omega,by go_num,z.oQ,m⟩
      case measure=>simp[intOf];omega
     ·go_wp2_with (at_builtin;refine wpList_append_own _ rfl (.tmp 23) (.tmp 25) 31 rfl w.heap.size 56 H _ 6 48 Tryz.underlying31 G t u x rfl (by decide) _ _ _ rfl ((c.alloc _).alloc _) ⟨wr.heap.size+1,0,none⟩ 1 1 (aR b) rfl rfl ?qc1 ?qc2 ?qc3 ?qc4 ?qc5 ?_)
      case qc1=>first|exact λ_ _ h=>h|exact uX _ _ (by simp) b
      case qc2=>exact mL _
      case qc3=>unfold maxLen;omega
      case qc4=>omega
      case qc5=>have:=g.size;(try simp);omega
      intro D y f d _
      have hcut:bI a (l.take (k+1))=bI a (l.take k)++[b]:=by
       rw[A.oQ,jL _ _ _ j,gW,show max b.i a=b.i from by omega]
      have z:Hid (y.ownsRow w.heap.size 56 6 D (bI a (l.take (k+1))).length (fA (bI a (l.take (k+1))))):=by
       rw[hcut,jE,List.length_append];exact f
      have m:aF w y:=((g.alloc g.size _).alloc (by have:=g.size;simp;omega) _).grown d (by have:=g.size;simp;omega) (λq C=>fB c C);clear hcut c f d g;go_wp2
      go_roundw
      case rel=>exact⟨k+1,by omega,by go_num,z.oQ,m⟩
      case measure=>simp[intOf];omega
    ·go_wp2
     go_roundw
     case rel=>exact⟨k+1,by omega,by go_num,by rw[A.oQ,pD _ _ _ j];exact c.alloc _,g.alloc g.size _⟩
     case measure=>simp[intOf];omega
  ·go_wp2
   go_ret;refine⟨_,rfl,aP.of_owns ?_,g⟩;rw[ltl (by omega)]at c;exact c
theorem wU (l:List Bx)(E:Option Addr)(B:Nat)(a:Int)(w:World)(I:jJ w E l)(hn:l.length<=1048576):
 aY 47 #[.slice E l.length B,.int .i64 a] w λe w'=>∃v,e=.returned v/\aP w' w.heap.size v (bI a l)/\aF w w':=by
 obtain⟨H,G,t,u,x⟩:=info_parts Tryz.info56
 go_enter Tryz.func47,Tryz.ntmps47
 go_wp2
 go_loopw [5,6] (λv i wr=>∃k:Nat,k<=l.length/\i=.int .i64 k/\wr.ownsRow w.heap.size 56 6 v (bI a (l.take k)).length (fA (bI a (l.take k)))/\aF w wr) (λ_ i _=>l.length-(intOf i).toNat)
 case atStart=>exact⟨0,nz _,rfl,by simpa[bI,fA]using World.ownsRow_lit (base:=w.heap.size) (e:=56) (size:=6) w #[] 0 (nlq _) (nz _) rfl,aB (br _ _) _⟩
 case round=>
  obtain⟨k,hk,rfl,c,g⟩:=hrel
  by_cases n:k<l.length
  ·rcases I with h|⟨bl,off,rfl,F⟩
   ·subst h;simp at n
   ·have s:=(F k n).zL g
    have hlen:=fK a (l.take k);have hlt2:(l.take k).length<=k:=List.length_take_le _ _;have p:=DC l k n;obtain⟨b,r⟩:=bP (l[k]);rw[←r]at s p;have A:=aG p;clear r F p;obtain⟨c0,c1,c2,c3,c4,c5⟩:=s
    by_cases j:a<=b.o
    ·by_cases hin:b.i<a
     ·go_wp2_with (at_builtin;refine wpList_append_own _ rfl (.tmp 29) (.tmp 31) 31 rfl w.heap.size 56 H _ 6 48 Tryz.underlying31 G t u x rfl (by decide) _ _ _ rfl ((c.alloc _).alloc _) ⟨wr.heap.size+1,0,none⟩ 1 1 (aR { b with i:=a}) rfl rfl ?qc1 ?qc2 ?qc3 ?qc4 ?qc5 ?_)
      case qc1=>first|exact λ_ _ h=>h|exact uX _ _ (by simp) { b with i:=a}
      case qc2=>exact mL _
      case qc3=>unfold maxLen;omega
      case qc4=>omega
      case qc5=>have:=g.size;(try simp);omega
      intro D y f d _
      have hcut:bI a (l.take (k+1))=bI a (l.take k)++[{ b with i:=a}]:=by
       rw[A.oQ,jL _ _ _ j,gW,show max b.i a=a from by omega]
      have z:Hid (y.ownsRow w.heap.size 56 6 D (bI a (l.take (k+1))).length (fA (bI a (l.take (k+1))))):=by
       rw[hcut,jE,List.length_append];exact f
      have m:aF w y:=((g.alloc g.size _).alloc (by have:=g.size;simp;omega) _).grown d (by have:=g.size;simp;omega) (λq C=>fB c C);clear hcut c f d g;go_wp2
      go_roundw
      case rel=>exact⟨k+1,by omega,by go_num,z.oQ,m⟩
      case measure=>simp[intOf];omega
     ·go_wp2_with (at_builtin;refine wpList_append_own _ rfl (.tmp 29) (.tmp 31) 31 rfl w.heap.size 56 H _ 6 48 Tryz.underlying31 G t u x rfl (by decide) _ _ _ rfl ((c.alloc _).alloc _) ⟨wr.heap.size+1,0,none⟩ 1 1 (aR b) rfl rfl ?qc1 ?qc2 ?qc3 ?qc4 ?qc5 ?_)
      case qc1=>first|exact λ_ _ h=>h|exact uX _ _ (by simp) b
      case qc2=>exact mL _
      case qc3=>unfold maxLen;omega
      case qc4=>omega
      case qc5=>have:=g.size;(try simp);omega
      intro D y f d _
      have hcut:bI a (l.take (k+1))=bI a (l.take k)++[b]:=by
       rw[A.oQ,jL _ _ _ j,gW,show max b.i a=b.i from by omega]
      have z:Hid (y.ownsRow w.heap.size 56 6 D (bI a (l.take (k+1))).length (fA (bI a (l.take (k+1))))):=by
       rw[hcut,jE,List.length_append];exact f
      have m:aF w y:=((g.alloc g.size _).alloc (by have:=g.size;simp;omega) _).grown d (by have:=g.size;simp;omega) (λq C=>fB c C);clear hcut c f d g;go_wp2
      go_roundw
      case rel=>exact⟨k+1,by omega,by go_num,z.oQ,m⟩
      case measure=>simp[intOf];omega
    ·go_wp2
     go_roundw
     case rel=>exact⟨k+1,by omega,by go_num,by rw[A.oQ,pD _ _ _ j];exact c.alloc _,g.alloc g.size _⟩
     case measure=>simp[intOf];omega
  ·go_wp2
   go_ret;refine⟨_,rfl,aP.of_owns ?_,g⟩;rw[ltl (by omega)]at c;exact c
end Go.Proofs.YtcdbcliaepcpfaaGreatDoor
