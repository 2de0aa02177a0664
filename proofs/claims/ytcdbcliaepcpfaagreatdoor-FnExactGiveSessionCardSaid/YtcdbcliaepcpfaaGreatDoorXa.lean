import Derived.WalkKit
import Derived.OwnWalk
import Derived.BigQuiet
import Derived.Test.YtcdbcliaepcpfaaGreatDoorSm
namespace Go.Proofs.YtcdbcliaepcpfaaGreatDoor
set_option maxRecDepth 100000
set_option maxHeartbeats 4000000
open Go.RowKit Go.BigFrame
def fE (c:Int)(s:ByteArray):Nat->Nat->List ByteArray
 |f,i=>if h:i<s.size then(if(s[i].toNat:Int)=c then s.extract f i::fE c s (i+1) (i+1)else fE c s f (i+1))else[s.extract f s.size]
 termination_by _ i => s.size - i
def bH (c:Int)(s:ByteArray):List ByteArray:=fE c s 0 0
theorem lF {c:Int}{s:ByteArray}{f i:Nat}(h:i<s.size)(a:(s[i].toNat:Int)=c):fE c s f i=s.extract f i::fE c s (i+1) (i+1):=by
 rw[fE,dif_pos h,if_pos a]
theorem jY {c:Int}{s:ByteArray}{f i:Nat}(h:i<s.size)(a:¬(s[i].toNat:Int)=c):fE c s f i=fE c s f (i+1):=by
 rw[fE,dif_pos h,if_neg a]
theorem lA {c:Int}{s:ByteArray}{f i:Nat}(h:¬i<s.size):fE c s f i=[s.extract f s.size]:=by
 rw[fE,dif_neg h]
theorem Tryz.infoStr:(Tryz.prog.info? 9).map (λi=>(i.zero,i.size,i.bytes))=some (some (.string ByteArray.empty),1,16):=by kernel_rfl
theorem rI (s:ByteArray)(c:Int)(w:World)(hs:s.size<=1048576):
 aY 6 #[.string s,.int .u8 c] w λe w'=>(∃v,e=.returned v/\w'.ownsRow w.heap.size 9 1 v (bH c s).length ((bH c s).map Value.string))/\aF w w':=by
 obtain⟨L,K,x,y,z⟩:=info_parts Tryz.infoStr;have F:aF w (w.alloc (.cells #[] 9)):=aB (br _ _) _
 have p:(w.alloc (.cells #[] 9)).ownsRow w.heap.size 9 1 (.slice (some ⟨w.heap.size,0,none⟩) 0 0) 0 []:=by
  refine⟨rfl,Or.inr ⟨w.heap.size,0,#[],rfl,nlq _,wnq w _,nlq _,by unfold maxLen;omega,rfl,rfl⟩⟩
 have E:=aG p;clear p
 go_enter Tryz.func6,Tryz.ntmps6
 go_wp2
 go_loopw [5,6,7] (λv M I wr=>∃(f i:Nat) (d:List ByteArray),M=.int .i64 f/\I=.int .i64 i/\f<=i/\i<=s.size/\d.length<=i/\Hid (bH c s=d++fE c s f i)/\Hid (wr.ownsRow w.heap.size 9 1 v d.length (d.map Value.string))/\aF w wr) (λ_ _ I _=>s.size-(intOf I).toNat)
 case atStart=>exact⟨0,0,[],rfl,rfl,nlq _,nz _,nlq _,rfl,E,F⟩
 case round=>
  obtain⟨f,i,d,rfl,rfl,hfi,his,hdn,o,g,k⟩:=hrel
  by_cases m:i<s.size
  ·have r:(i:Int)<(s.size:Int):=by omega
   by_cases B:(s[i].toNat:Int)=c
   ·have G:((s[i].toNat:Int)==c)=true:=by simp[B]
    go_wp2_with (at_builtin;refine wpList_append_own _ rfl (.tmp 20) (.tmp 25) 24 rfl w.heap.size 9 L _ 1 16 Tryz.underlying24 K x y z rfl (by decide) _ _ _ rfl (g.oQ.alloc _) ⟨wr.heap.size,0,none⟩ 1 1 [.string (s.extract f i)] rfl rfl ?qc1 ?qc2 ?qc3 ?qc4 ?qc5 ?_)
    case qc1=>
     intro j u n
     match j,n with
     |0,n=>simp at n;subst n;exact aJ (wnq wr _) rfl
     |j+1,n=>simp at n
    case qc2=>first|rfl|(intro u t;simp at t;subst t;rfl)
    case qc3=>unfold maxLen;omega
    case qc4=>omega
    case qc5=>have:=k.size;simp;omega
    intro J A b a _;have l:aF w A:=(aB k _).grown a (by have:=k.size;simp;omega) (λq H=>fB g.oQ H);have h:Hid (A.ownsRow w.heap.size 9 1 J (d++[s.extract f i]).length ((d++[s.extract f i]).map Value.string)):=by rw[Hid,List.length_append,List.map_append];exact b
    have D:Hid (bH c s=(d++[s.extract f i])++fE c s (i+1) (i+1)):=by rw[Hid,o.oQ,lF m B,List.append_assoc];rfl
    clear b a g o;go_wp2
    go_roundw
    case rel=>exact⟨i+1,i+1,d++[s.extract f i],by go_num,by go_num,by omega,by omega,by simp;omega,D,h,l⟩
    case measure=>simp[intOf];omega
   ·have G:((s[i].toNat:Int)==c)=false:=by simp[B]
    have C:Hid (bH c s=d++fE c s f (i+1)):=by rw[Hid,o.oQ,jY m B]
    go_wp2
    go_roundw
    case rel=>exact⟨f,i+1,d,rfl,by go_num,by omega,by omega,by omega,C,g,k⟩
    case measure=>simp[intOf];omega
  ·have r:¬(i:Int)<(s.size:Int):=by omega
   go_wp2_with (at_builtin;refine wpList_append_own _ rfl (.tmp 29) (.tmp 33) 24 rfl w.heap.size 9 L _ 1 16 Tryz.underlying24 K x y z rfl (by decide) _ _ _ rfl (g.oQ.alloc _) ⟨wr.heap.size,0,none⟩ 1 1 [.string (s.extract f s.size)] rfl rfl ?qc1 ?qc2 ?qc3 ?qc4 ?qc5 ?_)
   case qc2=>first|rfl|(intro u t;simp at t;subst t;rfl)
   case qc3=>unfold maxLen;omega
   case qc4=>omega
   case qc5=>have:=k.size;simp;omega
   intro J A b a _;have l:aF w A:=(aB k _).grown a (by have:=k.size;simp;omega) (λq H=>fB g.oQ H)
   have h:Hid (A.ownsRow w.heap.size 9 1 J (bH c s).length ((bH c s).map Value.string)):=by
    rw[Hid,o.oQ,lA m,List.length_append,List.map_append];exact b
   clear b a g o;go_wp2
   go_ret;exact⟨⟨_,rfl,h.oQ⟩,l⟩
end Go.Proofs.YtcdbcliaepcpfaaGreatDoor
namespace Go.Proofs.YtcdbcliaepcpfaaGreatDoor
set_option maxRecDepth 100000
set_option maxHeartbeats 4000000
open Go.RowKit
def pR (b:UInt8):Bool:=decide (48<=b.toNat/\b.toNat<=57)
def FF (l:List UInt8):Int:=l.foldl (λn b=>n*10+(b.toNat:Int)-48) 0
def aV (s:ByteArray):Int:=if(decide (1<=s.size/\s.size<=5)&&!(decide (1<s.size)&&decide (s.data.toList.head?=some 48))&&s.data.toList.all pR)then FF s.data.toList else-1
theorem EA (s:ByteArray)(k:Nat)(h:k<s.size):FF (s.data.toList.take (k+1))=FF (s.data.toList.take k)*10+(s[k].toNat:Int)-48:=by
 rw[vZ s k h,FF,List.foldl_append];rfl
theorem DO (s:ByteArray)(k:Nat)(h:k<s.size):(s.data.toList.take (k+1)).all pR=((s.data.toList.take k).all pR&&pR s[k]):=by
 rw[vZ s k h,List.all_append];simp
theorem NY (s:ByteArray)(k:Nat)(h:k<s.size)(a:pR s[k]=false):s.data.toList.all pR=false:=by
 cases hq:s.data.toList.all pR with
 |false=>rfl
 |true=>
  have:=lat.1 hq s[k] (by
   have:s[k]=s.data.toList[k]'(by simpa using h):=rfl;rw[this];exact lgm _)
  rw[a]at this;cases this
theorem NS {s:ByteArray}(h:0<s.size):s.data.toList.head?=some s[0]:=by
 have:s[0]=s.data.toList[0]'(by simpa using h):=rfl;rw[this,List.head?_eq_getElem?,lge]
theorem mM (s:ByteArray)(w:World):
 aY 22 #[.string s] w λe w'=>e=.returned (.int .i64 (aV s))/\w'=w:=by
 obtain⟨V,y⟩:=bP (aV s);rw[←y];have p:=aG y;clear y
 by_cases i:1<=s.size/\s.size<=5
 ·have A:fO (s.size:Int) 1 5=true:=by simp only[fO,dte];omega
  have v:=aG (decide_eq_true i);obtain⟨i,h2⟩:=i;have q:=NS (s:=s) (by omega)
  by_cases a:1<s.size/\s[0].toNat=48
  ·obtain⟨d,b⟩:=a
   have m:(1:Int)<(s.size:Int):=by omega
   have j:((s[0].toNat:Int)==48)=true:=by simp[b]
   have h:Hid (aV s=-1):=by
    rw[Hid,aV,if_neg];have:s[0]=48:=UInt8.toNat_inj.1 (by simpa using b)
    simp[d,q,this]
   clear q b
   go_enter Tryz.func22,Tryz.ntmps22
   go_wp2_with (go_at_call 49;refine(dV _ _ _ _).mono ?_;rintro e w ⟨rfl,rfl⟩)
   go_ret;exact⟨by rw[p.oQ,h.oQ];rfl,rfl⟩
  ·have g:Hid ((decide (1<=s.size/\s.size<=5)&&!(decide (1<s.size)&&decide (s.data.toList.head?=some 48)))=true):=by
    rw[Hid,v.oQ,q]
    by_cases d:1<s.size
    ·have:¬s[0]=48:=λe=>a ⟨d,by rw[e];rfl⟩
     simp[d,this]
    ·simp[d]
   by_cases d:1<s.size
   case' pos=>
    have m:(1:Int)<(s.size:Int):=by omega
    have j:((s[0].toNat:Int)==48)=false:=by simp;exact λe=>a ⟨d,by omega⟩
   case' neg=>
    have m:¬(1:Int)<(s.size:Int):=by omega
   all_goals
    clear q a
    go_enter Tryz.func22,Tryz.ntmps22
    go_wp2_with (go_at_call 49;refine(dV _ _ _ _).mono ?_;rintro e w ⟨rfl,rfl⟩)
    go_loop [3,4] (λH B=>∃(k:Nat) (n:Int),k<=s.size/\B=.int .i64 k/\H=.int .i64 n/\0<=n/\n+1<=((10^k:Nat):Int)/\Hid (n=FF (s.data.toList.take k))/\Hid ((s.data.toList.take k).all pR=true)) (λ_ B=>s.size-(intOf B).toNat)
    case atStart=>exact⟨0,0,nz _,rfl,rfl,Int.le_refl _,by simp,by simp[Hid,FF],by simp[Hid]⟩
    case round=>
     obtain⟨k,n,hk,rfl,rfl,hn0,hn1,D,C⟩:=hrel
     by_cases f:k<s.size
     ·have F:(10^k:Nat)<=10^4:=Nat.pow_le_pow_right (by omega) (by omega)
      have hn2:n<=9999:=by omega
      have o:(k:Int)<(s.size:Int):=by omega
      have x:Hid _:=EA s k f;have t:Hid _:=DO s k f;have u:Hid _:=NY s k f;obtain⟨c,l⟩:=bP (s[k].toNat:Nat);have hcl:c<256:=by rw[l];exact UInt8.toNat_lt _
      by_cases z:48<=c/\c<=57
      ·have E:decide (((s[k].toNat:Nat):Int)<48)=false:=by simp;omega
       have G:decide ((57:Int)<((s[k].toNat:Nat):Int))=false:=by simp;omega
       have hb1:48<=s[k].toNat:=by omega
       have hb2:s[k].toNat<=57:=by omega
       have r:Hid ((s.data.toList.take (k+1)).all pR=true):=by rw[Hid,t.oQ,C.oQ,pR,←l];simp[z]
       have HP:Hid (((10^(k+1):Nat):Int)=((10^k:Nat):Int)*10):=by rw[Hid,Nat.pow_succ];simp
       clear F l;go_wp2
       go_round
       case rel=>exact⟨k+1,n*10+(s[k].toNat:Int)-48,by omega,by go_num,by go_num,by omega,by rw[HP.oQ];omega,by rw[Hid,x.oQ,←D.oQ],r⟩
       case measure=>simp[intOf];omega
      ·have h:Hid (aV s=-1):=by rw[Hid,aV,g.oQ,u.oQ (by rw[pR,←l];exact decide_eq_false z)];rfl
       by_cases hlo:c<48
       case' pos=>
        have E:decide (((s[k].toNat:Nat):Int)<48)=true:=by simp;omega
       case' neg=>
        have E:decide (((s[k].toNat:Nat):Int)<48)=false:=by simp;omega
        have G:decide ((57:Int)<((s[k].toNat:Nat):Int))=true:=by simp;omega
       all_goals
        clear F l z;go_wp2
        go_ret;exact⟨by rw[p.oQ,h.oQ];rfl,rfl⟩
     ·have o:¬(k:Int)<(s.size:Int):=by omega
      have e:s.data.toList.take k=s.data.toList:=ltl (by simp;omega);have h:Hid (aV s=n):=by rw[Hid,aV,g.oQ,←e,C.oQ,D.oQ];rfl
      clear e;go_wp2
      go_ret;exact⟨by rw[p.oQ,h.oQ];rfl,rfl⟩
 ·have A:fO (s.size:Int) 1 5=false:=by simp only[fO,decide_eq_false_iff_not];omega
  have v:Hid (aV s=-1):=by rw[Hid,aV,if_neg (by rw[decide_eq_false i];simp)]
  clear i
  go_enter Tryz.func22,Tryz.ntmps22
  go_wp2_with (go_at_call 49;refine(dV _ _ _ _).mono ?_;rintro e w ⟨rfl,rfl⟩)
  go_ret;exact⟨by rw[p.oQ,v.oQ];rfl,rfl⟩
theorem gD (w:World):aY 36 #[.bool true] w λe w'=>(∃v,e=.returned v)/\w'=w:=by
 go_enter Tryz.func36,Tryz.ntmps36;go_wp2;exact bodyPost_end (results_none rfl _ _ _) rfl ⟨⟨_,rfl⟩,rfl⟩
theorem jD (w:World):aY 36 #[.bool false] w λe w'=>e=.panicked [{ v:=.iface 67 (.agg #[]),recovered:=false}]/\w'=w:=by
 go_enter Tryz.func36,Tryz.ntmps36;go_wp2;exact⟨rfl,rfl,rfl⟩
abbrev S8:Ending:=.panicked [{ v:=.iface 67 (.agg #[]),recovered:=false}]
theorem oR (s:ByteArray)(w:World):
 aY 67 #[.string s] w λe w'=>((0<=aV s/\e=.returned (.int .i64 (aV s)))∨(aV s=-1/\e=S8))/\w'=w:=by
 by_cases j:1<=s.size/\s.size<=5
 ·have J:=aG (decide_eq_true j)
  obtain⟨j,L⟩:=j;have p:decide ((1:Int)<=(s.size:Int))=true:=by simp;omega
  have A:decide ((s.size:Int)<=5)=true:=by simp;omega
  have g:=NS (s:=s) (by omega);have hp0:0<s.size:=by omega
  by_cases a:1<s.size/\s[0].toNat=48
  ·obtain⟨o,d⟩:=a
   have l:((s[0].toNat:Int) !=48)=false:=by simp[d]
   have H:¬s.toList=[48]:=λe=>by
    have:=congrArg List.length e;rw[ByteArray.toList_eq]at this;simp at this;omega
   have b:Hid (aV s=-1):=by
    rw[Hid,aV,if_neg];have:s[0]=48:=UInt8.toNat_inj.1 (by simpa using d)
    simp[o,g,this]
   clear g d
   go_enter Tryz.func67,Tryz.ntmps67
   go_wp2_with (first|(go_at_call 36;refine(gD _).mono ?_;rintro e w' ⟨⟨v,rfl⟩,rfl⟩)|(go_at_call 36;refine(jD _).mono ?_;rintro e w' ⟨rfl,rfl⟩))
   exact⟨rfl,.inr ⟨b.oQ,rfl⟩,rfl⟩
  ·have i:Hid ((decide (1<=s.size/\s.size<=5)&&!(decide (1<s.size)&&decide (s.data.toList.head?=some 48)))=true):=by
    rw[Hid,J.oQ,g]
    by_cases o:1<s.size
    ·have:¬s[0]=48:=λe=>a ⟨o,by rw[e];rfl⟩
     simp[o,this]
    ·simp[o]
   by_cases H:s.toList=[48]
   case' neg=>
    have l:((s[0].toNat:Int) !=48)=true:=by
     simp
     intro e;refine H ?_
     have C:s.size=1:=by
      rcases Nat.lt_or_ge 1 s.size with h|h
      ·exact absurd ⟨h,by omega⟩ a
      ·omega
     rw[ByteArray.toList_eq];obtain⟨x,hx⟩:=List.length_eq_one_iff.1 (show s.data.toList.length=1 by simpa using C);rw[hx]at g ⊢;simp at g;rw[g,show s[0]=48 from UInt8.toNat_inj.1 (by simp;omega)]
   all_goals
    clear g a
    go_enter Tryz.func67,Tryz.ntmps67
    go_wp2_with (go_at_call 36;refine(gD _).mono ?_;rintro e w' ⟨⟨v,rfl⟩,rfl⟩)
    go_loop [3,25] (λM D=>∃(k:Nat) (n:Int),k<=s.size/\D=.int .i64 k/\M=.int .i64 n/\0<=n/\n+1<=((10^k:Nat):Int)/\Hid (n=FF (s.data.toList.take k))/\Hid ((s.data.toList.take k).all pR=true)) (λ_ D=>s.size-(intOf D).toNat)
    case atStart=>exact⟨0,0,nz _,rfl,rfl,Int.le_refl _,by simp,by simp[Hid,FF],by simp[Hid]⟩
    case round=>
     obtain⟨k,n,hk,rfl,rfl,B,hn1,F,E⟩:=hrel
     by_cases f:k<s.size
     ·have I:(10^k:Nat)<=10^4:=Nat.pow_le_pow_right (by omega) (by omega)
      have hn2:n<=9999:=by omega
      have q:(k:Int)<(s.size:Int):=by omega
      have y:Hid _:=EA s k f;have t:Hid _:=DO s k f;have u:Hid _:=NY s k f;obtain⟨c,m⟩:=bP (s[k].toNat:Nat);have hcl:c<256:=by rw[m];exact UInt8.toNat_lt _
      by_cases z:48<=c/\c<=57
      ·have G:decide ((48:Int)<=((s[k].toNat:Nat):Int))=true:=by simp;omega
       have K:decide (((s[k].toNat:Nat):Int)<=57)=true:=by simp;omega
       have hb1:48<=s[k].toNat:=by omega
       have hb2:s[k].toNat<=57:=by omega
       have r:Hid ((s.data.toList.take (k+1)).all pR=true):=by rw[Hid,t.oQ,E.oQ,pR,←m];simp[z]
       have HP:Hid (((10^(k+1):Nat):Int)=((10^k:Nat):Int)*10):=by rw[Hid,Nat.pow_succ];simp
       clear I m
       go_wp2_with (go_at_call 36;refine(gD _).mono ?_;rintro e w' ⟨⟨v,rfl⟩,rfl⟩)
       go_round
       case rel=>exact⟨k+1,n*10+(s[k].toNat:Int)-48,by omega,by go_num,by go_num,by omega,by rw[HP.oQ];omega,by rw[Hid,y.oQ,←F.oQ],r⟩
       case measure=>simp[intOf];omega
      ·have b:Hid (aV s=-1):=by rw[Hid,aV,i.oQ,u.oQ (by rw[pR,←m];exact decide_eq_false z)];rfl
       by_cases hlo:48<=c
       case' pos=>
        have G:decide ((48:Int)<=((s[k].toNat:Nat):Int))=true:=by simp;omega
        have K:decide (((s[k].toNat:Nat):Int)<=57)=false:=by simp;omega
       case' neg=>
        have G:decide ((48:Int)<=((s[k].toNat:Nat):Int))=false:=by simp;omega
       all_goals
        clear I m z
        go_wp2_with (go_at_call 36;refine(jD _).mono ?_;rintro e w' ⟨rfl,rfl⟩)
        exact⟨rfl,.inr ⟨b.oQ,rfl⟩,rfl⟩
     ·have q:¬(k:Int)<(s.size:Int):=by omega
      have e:s.data.toList.take k=s.data.toList:=ltl (by simp;omega);have b:Hid (aV s=n):=by rw[Hid,aV,i.oQ,←e,E.oQ,F.oQ];rfl
      clear e;go_wp2
      go_ret;exact⟨.inl ⟨by rw[b.oQ];exact B,by rw[b.oQ];rfl⟩,rfl⟩
 ·have b:Hid (aV s=-1):=by rw[Hid,aV,if_neg (by rw[decide_eq_false j];simp)]
  by_cases L:1<=s.size
  case' pos=>
   have p:decide ((1:Int)<=(s.size:Int))=true:=by simp;omega
   have A:decide ((s.size:Int)<=5)=false:=by simp;omega
  case' neg=>
   have p:decide ((1:Int)<=(s.size:Int))=false:=by simp;omega
  all_goals
   clear j
   go_enter Tryz.func67,Tryz.ntmps67
   go_wp2_with (go_at_call 36;refine(jD _).mono ?_;rintro e w' ⟨rfl,rfl⟩)
   exact⟨rfl,.inr ⟨b.oQ,rfl⟩,rfl⟩
end Go.Proofs.YtcdbcliaepcpfaaGreatDoor
