import Derived.Test.YtoolgmmljacfmaaGreatDoorLeast
import Derived.Lib.ItoaNum
import Derived.Deep.DeepCutAuto
set_option maxRecDepth 100000
set_option maxHeartbeats 8000000
open List renaming length → ln
open Go.Proofs.Tryz Go.RowKit
namespace Go.Proofs.YtoolgmmljacfmaaGreatDoor
open Go.BigFrame
variable {c:Int}{s:Ba}{f i:Nat}
def fM (c:Int)(s:ByteArray):Nat->Nat->List ByteArray
 |f,i=>if h:i<s.size then(if(s[i].toNat:Int)=c then s.extract f i::fM c s (i+1) (i+1)else fM c s f (i+1))else[s.extract f s.size]
 termination_by _ i => s.size - i
def bG (c:Int)(s:ByteArray):List ByteArray:=fM c s 0 0
theorem lZ (h:i<s.size)(a:(s[i].toNat:Int)=c):fM c s f i=s.extract f i::fM c s (i+1) (i+1):=by
 rw[fM,dif_pos h,if_pos a]
theorem kQ (h:i<s.size)(a:¬(s[i].toNat:Int)=c):fM c s f i=fM c s f (i+1):=by
 rw[fM,dif_pos h,if_neg a]
theorem lP (h:¬i<s.size):fM c s f i=[s.extract f s.size]:=by
 rw[fM,dif_neg h]
theorem Tryz.infoStr:(prog.info? 9).map (λi=>(i.zero,i.size,i.bytes))=some (some (.string ByteArray.empty),1,16):=kr
theorem sV (s:Ba)(c:Int)(w:Wd)(P:s.size<=1000000000):
 aW 22 #[.string s,.int .u8 c] w λe w'=>(∃v,e=rt v/\w'.ownsRow w.heap.size 9 1 v (ln (bG c s)) ((bG c s).map Value.string))/\aG w w':=by
 obtain⟨N,M,x,y,z⟩:=info_parts Tryz.infoStr;have G:aG w (w.alloc (.cells #[] 9)):=aC (br _ _) _
 have p:(w.alloc (.cells #[] 9)).ownsRow w.heap.size 9 1 (sl w.heap.size 0 0 0) 0 []:=by
  refine⟨rfl,Or.inr ⟨w.heap.size,0,#[],rfl,nlq _,wnq w _,nlq _,by unfold maxLen;omega,rfl,rfl⟩⟩
 have F:=aI p;clear p
 go_enter func22,ntmps22
 go_wp2
 go_loopw [5,6,7] (λv O K wr=>∃(f i:Nat) (d:List Ba),O=I f/\K=I i/\f<=i/\i<=s.size/\(ln d)<=i/\Hid (bG c s=d++fM c s f i)/\Hid (wr.ownsRow w.heap.size 9 1 v (ln d) (d.map Value.string))/\aG w wr) (λ_ _ K _=>s.size-(intOf K).toNat)
 case atStart=>exact⟨0,0,[],rfl,rfl,nlq _,nz _,nlq _,rfl,F,G⟩
 case round=>
  obtain⟨f,i,d,rfl,rfl,hfi,his,hdn,o,g,k⟩:=hrel
  by_cases m:i<s.size
  ·have r:(i:Int)<(s.size:Int):=om
   by_cases B:(s[i].toNat:Int)=c
   ·have H:((s[i].toNat:Int)==c)=true:=by simp[B]
    go_wp2_with (at_builtin;refine wpList_append_own _ rfl (.tmp 20) (.tmp 25) 50 rfl w.heap.size 9 N _ 1 16 underlying50 M x y z rfl dz _ _ _ rfl (g.oQ.alloc _) (ya wr 0) 1 1 [.string (s.extract f i)] rfl rfl ?qc1 ?qc2 ?qc3 ?qc4 ?qc5 ?_)
    case qc1=>
     intro j u n
     match j,n with
     |0,n=>simp at n;subst n;exact aB (wnq wr _) rfl
     |j+1,n=>simp at n
    case qc2=>first|rfl|(intro u t;simp at t;subst t;rfl)
    case qc3=>unfold maxLen;omega
    case qc4=>omega
    case qc5=>have:=k.size;simp;omega
    intro L A b a _;have l:aG w A:=(aC k _).grown a (by have:=k.size;simp;omega) (λq J=>eH g.oQ J);have h:Hid (A.ownsRow w.heap.size 9 1 L (ln (d++[s.extract f i])) ((d++[s.extract f i]).map Value.string)):=by rw[Hid,lla,lmp];exact b
    have D:Hid (bG c s=(d++[s.extract f i])++fM c s (i+1) (i+1)):=by rw[Hid,o.oQ,lZ m B,las];rfl
    clear b a g o;go_wp2
    go_roundw
    case rel=>exact⟨i+1,i+1,d++[s.extract f i],gn,gn,om,om,so,D,h,l⟩
    case measure=>simp[intOf];omega
   ·have H:((s[i].toNat:Int)==c)=false:=by simp[B]
    have C:Hid (bG c s=d++fM c s f (i+1)):=by rw[Hid,o.oQ,kQ m B]
    go_wp2
    go_roundw
    case rel=>exact⟨f,i+1,d,rfl,gn,om,om,om,C,g,k⟩
    case measure=>simp[intOf];omega
  ·have r:¬(i:Int)<(s.size:Int):=om
   go_wp2_with (at_builtin;refine wpList_append_own _ rfl (.tmp 29) (.tmp 33) 50 rfl w.heap.size 9 N _ 1 16 underlying50 M x y z rfl dz _ _ _ rfl (g.oQ.alloc _) (ya wr 0) 1 1 [.string (s.extract f s.size)] rfl rfl ?qc1 ?qc2 ?qc3 ?qc4 ?qc5 ?_)
   case qc2=>first|rfl|(intro u t;simp at t;subst t;rfl)
   case qc3=>unfold maxLen;omega
   case qc4=>omega
   case qc5=>have:=k.size;simp;omega
   intro L A b a _;have l:aG w A:=(aC k _).grown a (by have:=k.size;simp;omega) (λq J=>eH g.oQ J)
   have h:Hid (A.ownsRow w.heap.size 9 1 L (ln (bG c s)) ((bG c s).map Value.string)):=by
    rw[Hid,o.oQ,lP m,lla,lmp];exact b
   clear b a g o;go_wp2
   go_ret;exact⟨⟨_,rfl,h.oQ⟩,l⟩
end Go.Proofs.YtoolgmmljacfmaaGreatDoor
namespace Go.Proofs.YtoolgmmljacfmaaGreatDoor
def qW (b:UInt8):Bool:=decide (48<=b.toNat/\b.toNat<=57)
def JE (l:List UInt8):Int:=l.foldl (λn b=>n*10+(b.toNat:Int)-48) 0
def aV (s:ByteArray):Int:=if(decide (1<=s.size/\s.size<=5)&&!(decide (1<s.size)&&decide (s.data.toList.head?=some 48))&&s.data.toList.all qW)then JE s.data.toList else-1
theorem EY (s:Ba)(k:Nat)(h:k<s.size):JE (s.data.toList.take (k+1))=JE (s.data.toList.take k)*10+(s[k].toNat:Int)-48:=by
 rw[xW s k h,JE,List.foldl_append];rfl
theorem FA (s:Ba)(k:Nat)(h:k<s.size):(s.data.toList.take (k+1)).all qW=((s.data.toList.take k).all qW&&qW s[k]):=by
 rw[xW s k h,laa];simp
theorem RQ (s:Ba)(k:Nat)(h:k<s.size)(a:qW s[k]=false):s.data.toList.all qW=false:=by
 cases hq:s.data.toList.all qW with
 |false=>rfl
 |true=>
  have:=lat.1 hq s[k] (by
   have:s[k]=s.data.toList[k]'(by simpa using h):=rfl;rw[this];exact lgm _)
  rw[a]at this;cases this
theorem RF {s:Ba}(h:0<s.size):s.data.toList.head?=some s[0]:=by
 have:s[0]=s.data.toList[0]'(by simpa using h):=rfl;rw[this,List.head?_eq_getElem?,lge]
theorem nD (s:Ba)(w:Wd):
 aW 52 #[.string s] w λe w'=>e=rt (I (aV s))/\w'=w:=by
 obtain⟨V,y⟩:=bQ (aV s);rw[←y];have p:=aI y;clear y
 by_cases i:1<=s.size/\s.size<=5
 ·have A:fQ (s.size:Int) 1 5=true:=by simp only[fQ,dte];omega
  have v:=aI (det i);obtain⟨i,h2⟩:=i;have q:=RF (s:=s) om
  by_cases a:1<s.size/\s[0].toNat=48
  ·obtain⟨d,b⟩:=a
   have m:(1:Int)<(s.size:Int):=om
   have j:((s[0].toNat:Int)==48)=true:=by simp[b]
   have h:Hid (aV s=-1):=by
    rw[Hid,aV,if_neg];have:s[0]=48:=UInt8.toNat_inj.1 (by simpa using b)
    simp[d,q,this]
   clear q b
   go_enter func52,ntmps52
   go_wp2_with (go_at_call 57;refine(eM _ _ _ _).mono ?_;rintro e w ⟨rfl,rfl⟩)
   go_ret;exact⟨by rw[p.oQ,h.oQ];rfl,rfl⟩
  ·have g:Hid ((decide (1<=s.size/\s.size<=5)&&!(decide (1<s.size)&&decide (s.data.toList.head?=some 48)))=true):=by
    rw[Hid,v.oQ,q]
    by_cases d:1<s.size
    ·have:¬s[0]=48:=λe=>a ⟨d,by rw[e];rfl⟩
     simp[d,this]
    ·simp[d]
   by_cases d:1<s.size
   case' pos=>
    have m:(1:Int)<(s.size:Int):=om
    have j:((s[0].toNat:Int)==48)=false:=by simp;exact λe=>a ⟨d,om⟩
   case' neg=>
    have m:¬(1:Int)<(s.size:Int):=om
   all_goals
    clear q a
    go_enter func52,ntmps52
    go_wp2_with (go_at_call 57;refine(eM _ _ _ _).mono ?_;rintro e w ⟨rfl,rfl⟩)
    go_loop [3,4] (λJ B=>∃(k:Nat) (n:Int),k<=s.size/\B=I k/\J=I n/\0<=n/\n+1<=((10^k:Nat):Int)/\Hid (n=JE (s.data.toList.take k))/\Hid ((s.data.toList.take k).all qW=true)) (λ_ B=>s.size-(intOf B).toNat)
    case atStart=>exact⟨0,0,nz _,rfl,rfl,ilr _,sm,by simp[Hid,JE],by simp[Hid]⟩
    case round=>
     obtain⟨k,n,hk,rfl,rfl,hn0,hn1,D,C⟩:=hrel
     by_cases f:k<s.size
     ·have G:(10^k:Nat)<=10^4:=Nat.pow_le_pow_right om om
      have hn2:n<=9999:=om
      have o:(k:Int)<(s.size:Int):=om
      have x:Hid _:=EY s k f;have t:Hid _:=FA s k f;have u:Hid _:=RQ s k f;obtain⟨c,l⟩:=bQ (s[k].toNat:Nat);have hcl:c<256:=by rw[l];exact UInt8.toNat_lt _
      by_cases z:48<=c/\c<=57
      ·have F:decide (((s[k].toNat:Nat):Int)<48)=false:=by simp;omega
       have H:decide ((57:Int)<((s[k].toNat:Nat):Int))=false:=by simp;omega
       have hb1:48<=s[k].toNat:=om
       have hb2:s[k].toNat<=57:=om
       have r:Hid ((s.data.toList.take (k+1)).all qW=true):=by rw[Hid,t.oQ,C.oQ,qW,←l];simp[z]
       have HP:Hid (((10^(k+1):Nat):Int)=((10^k:Nat):Int)*10):=by rw[Hid,Nat.pow_succ];simp
       clear G l;go_wp2
       go_round
       case rel=>exact⟨k+1,n*10+(s[k].toNat:Int)-48,om,gn,gn,om,by rw[HP.oQ];omega,by rw[Hid,x.oQ,←D.oQ],r⟩
       case measure=>simp[intOf];omega
      ·have h:Hid (aV s=-1):=by rw[Hid,aV,g.oQ,u.oQ (by rw[qW,←l];exact def0 z)];rfl
       by_cases hlo:c<48
       case' pos=>
        have F:decide (((s[k].toNat:Nat):Int)<48)=true:=by simp;omega
       case' neg=>
        have F:decide (((s[k].toNat:Nat):Int)<48)=false:=by simp;omega
        have H:decide ((57:Int)<((s[k].toNat:Nat):Int))=true:=by simp;omega
       all_goals
        clear G l z;go_wp2
        go_ret;exact⟨by rw[p.oQ,h.oQ];rfl,rfl⟩
     ·have o:¬(k:Int)<(s.size:Int):=om
      have e:s.data.toList.take k=s.data.toList:=ltl so;have h:Hid (aV s=n):=by rw[Hid,aV,g.oQ,←e,C.oQ,D.oQ];rfl
      clear e;go_wp2
      go_ret;exact⟨by rw[p.oQ,h.oQ];rfl,rfl⟩
 ·have A:fQ (s.size:Int) 1 5=false:=by simp only[fQ,dfi];omega
  have v:Hid (aV s=-1):=by rw[Hid,aV,if_neg (by rw[def0 i];simp)]
  clear i
  go_enter func52,ntmps52
  go_wp2_with (go_at_call 57;refine(eM _ _ _ _).mono ?_;rintro e w ⟨rfl,rfl⟩)
  go_ret;exact⟨by rw[p.oQ,v.oQ];rfl,rfl⟩
theorem gQ (w:Wd):aW 45 #[.bool true] w λe w'=>(∃v,e=rt v)/\w'=w:=by
 go_enter Tryz.func45,Tryz.ntmps45;go_wp2;exact bodyPost_end (results_none rfl _ _ _) rfl ⟨⟨_,rfl⟩,rfl⟩
theorem jU (w:Wd):aW 45 #[.bool false] w λe w'=>e=.panicked [{ v:=.iface 95 (.agg #[]),recovered:=false}]/\w'=w:=by
 go_enter Tryz.func45,Tryz.ntmps45;go_wp2;exact⟨rfl,rfl,rfl⟩
abbrev V1:Ending:=.panicked [{ v:=.iface 95 (.agg #[]),recovered:=false}]
theorem pZ (s:Ba)(w:Wd):
 aW 84 #[.string s] w λe w'=>((0<=aV s/\e=rt (I (aV s)))∨(aV s=-1/\e=V1))/\w'=w:=by
 by_cases j:1<=s.size/\s.size<=5
 ·have L:=aI (det j)
  obtain⟨j,N⟩:=j;have p:decide ((1:Int)<=(s.size:Int))=true:=by simp;omega
  have A:decide ((s.size:Int)<=5)=true:=by simp;omega
  have g:=RF (s:=s) om;have hp0:0<s.size:=om
  by_cases a:1<s.size/\s[0].toNat=48
  ·obtain⟨o,d⟩:=a
   have l:((s[0].toNat:Int) !=48)=false:=by simp[d]
   have J:¬s.toList=[48]:=λe=>by
    have:=congrArg List.length e;rw[ByteArray.toList_eq]at this;simp at this;omega
   have b:Hid (aV s=-1):=by
    rw[Hid,aV,if_neg];have:s[0]=48:=UInt8.toNat_inj.1 (by simpa using d)
    simp[o,g,this]
   clear g d
   go_enter func84,ntmps84
   go_wp2_with (first|(go_at_call 45;refine(gQ _).mono ?_;rintro e w' ⟨⟨v,rfl⟩,rfl⟩)|(go_at_call 45;refine(jU _).mono ?_;rintro e w' ⟨rfl,rfl⟩))
   exact⟨rfl,.inr ⟨b.oQ,rfl⟩,rfl⟩
  ·have i:Hid ((decide (1<=s.size/\s.size<=5)&&!(decide (1<s.size)&&decide (s.data.toList.head?=some 48)))=true):=by
    rw[Hid,L.oQ,g]
    by_cases o:1<s.size
    ·have:¬s[0]=48:=λe=>a ⟨o,by rw[e];rfl⟩
     simp[o,this]
    ·simp[o]
   by_cases J:s.toList=[48]
   case' neg=>
    have l:((s[0].toNat:Int) !=48)=true:=by
     simp
     intro e;refine J ?_
     have C:s.size=1:=by
      rcases Nat.lt_or_ge 1 s.size with h|h
      ·exact absurd ⟨h,om⟩ a
      ·omega
     rw[ByteArray.toList_eq];obtain⟨x,hx⟩:=leo.1 (show(ln s.data.toList)=1 by simpa using C);rw[hx]at g ⊢;simp at g;rw[g,show s[0]=48 from UInt8.toNat_inj.1 so]
   all_goals
    clear g a
    go_enter func84,ntmps84
    go_wp2_with (go_at_call 45;refine(gQ _).mono ?_;rintro e w' ⟨⟨v,rfl⟩,rfl⟩)
    go_loop [3,25] (λO D=>∃(k:Nat) (n:Int),k<=s.size/\D=I k/\O=I n/\0<=n/\n+1<=((10^k:Nat):Int)/\Hid (n=JE (s.data.toList.take k))/\Hid ((s.data.toList.take k).all qW=true)) (λ_ D=>s.size-(intOf D).toNat)
    case atStart=>exact⟨0,0,nz _,rfl,rfl,ilr _,sm,by simp[Hid,JE],by simp[Hid]⟩
    case round=>
     obtain⟨k,n,hk,rfl,rfl,B,hn1,G,F⟩:=hrel
     by_cases f:k<s.size
     ·have K:(10^k:Nat)<=10^4:=Nat.pow_le_pow_right om om
      have hn2:n<=9999:=om
      have q:(k:Int)<(s.size:Int):=om
      have y:Hid _:=EY s k f;have t:Hid _:=FA s k f;have u:Hid _:=RQ s k f;obtain⟨c,m⟩:=bQ (s[k].toNat:Nat);have hcl:c<256:=by rw[m];exact UInt8.toNat_lt _
      by_cases z:48<=c/\c<=57
      ·have H:decide ((48:Int)<=((s[k].toNat:Nat):Int))=true:=by simp;omega
       have M:decide (((s[k].toNat:Nat):Int)<=57)=true:=by simp;omega
       have hb1:48<=s[k].toNat:=om
       have hb2:s[k].toNat<=57:=om
       have r:Hid ((s.data.toList.take (k+1)).all qW=true):=by rw[Hid,t.oQ,F.oQ,qW,←m];simp[z]
       have HP:Hid (((10^(k+1):Nat):Int)=((10^k:Nat):Int)*10):=by rw[Hid,Nat.pow_succ];simp
       clear K m
       go_wp2_with (go_at_call 45;refine(gQ _).mono ?_;rintro e w' ⟨⟨v,rfl⟩,rfl⟩)
       go_round
       case rel=>exact⟨k+1,n*10+(s[k].toNat:Int)-48,om,gn,gn,om,by rw[HP.oQ];omega,by rw[Hid,y.oQ,←G.oQ],r⟩
       case measure=>simp[intOf];omega
      ·have b:Hid (aV s=-1):=by rw[Hid,aV,i.oQ,u.oQ (by rw[qW,←m];exact def0 z)];rfl
       by_cases hlo:48<=c
       case' pos=>
        have H:decide ((48:Int)<=((s[k].toNat:Nat):Int))=true:=by simp;omega
        have M:decide (((s[k].toNat:Nat):Int)<=57)=false:=by simp;omega
       case' neg=>
        have H:decide ((48:Int)<=((s[k].toNat:Nat):Int))=false:=by simp;omega
       all_goals
        clear K m z
        go_wp2_with (go_at_call 45;refine(jU _).mono ?_;rintro e w' ⟨rfl,rfl⟩)
        exact⟨rfl,.inr ⟨b.oQ,rfl⟩,rfl⟩
     ·have q:¬(k:Int)<(s.size:Int):=om
      have e:s.data.toList.take k=s.data.toList:=ltl so;have b:Hid (aV s=n):=by rw[Hid,aV,i.oQ,←e,F.oQ,G.oQ];rfl
      clear e;go_wp2
      go_ret;exact⟨.inl ⟨by rw[b.oQ];exact B,by rw[b.oQ];rfl⟩,rfl⟩
 ·have b:Hid (aV s=-1):=by rw[Hid,aV,if_neg (by rw[def0 j];simp)]
  by_cases N:1<=s.size
  case' pos=>
   have p:decide ((1:Int)<=(s.size:Int))=true:=by simp;omega
   have A:decide ((s.size:Int)<=5)=false:=by simp;omega
  case' neg=>
   have p:decide ((1:Int)<=(s.size:Int))=false:=by simp;omega
  all_goals
   clear j
   go_enter func84,ntmps84
   go_wp2_with (go_at_call 45;refine(jU _).mono ?_;rintro e w' ⟨rfl,rfl⟩)
   exact⟨rfl,.inr ⟨b.oQ,rfl⟩,rfl⟩
open Go.BigFrame
def eE (s:ByteArray):List Value:=[.string s]
theorem JV (s:Ba):ln (eE s)=1:=rfl
def aS (l:List ByteArray):List Int:=l.map aV
theorem AY (l:List Ba)(k:Nat)(h:k<ln l):aS (l.take (k+1))=aS (l.take k)++[aV l[k]]:=by
 rw[aS,tsa h,lmp];rfl
theorem kE (l:List Ba)(a:Oa)(C:Nat)(w:Wd)(Q:Xs 1 eE w a l)(hn:ln l<=1048576):
 aW 70 #[.slice a (ln l) C] w λe w'=>(((∀x∈l,0<=aV x)/\∃v,e=rt v/\w'.ownsRow w.heap.size 3 1 v (ln l) ((aS l).map (Value.int .i64)))∨((∃x∈l,aV x=-1)/\e=V1))/\aG w w':=by
 obtain⟨Z,W,H,J,K⟩:=info_parts Tryz.info3
 go_enter func70,ntmps70
 go_wp2
 go_loopw [3,8] (λv L wr=>∃k:Nat,k<=ln l/\L=I k/\Hid (∀x∈l.take k,0<=aV x)/\Hid (wr.ownsRow w.heap.size 3 1 v k ((aS (l.take k)).map (Value.int .i64)))/\aG w wr) (λ_ L _=>ln l-(intOf L).toNat)
 case atStart=>exact⟨0,nz _,rfl,by simp[Hid],won _ _ _ _,br _ _⟩
 case round=>
  obtain⟨k,hk,rfl,z,p,m⟩:=hrel
  by_cases b:k<ln l
  ·have s:(k:Int)<(ln l:Int):=om
   rcases Q.zL m with h|⟨V,M,F,r⟩
   ·rw[h]at b;simp at b
   subst F;have P:wr.cell? (Y V (M+k*1))=some (.string l[k]):=r k b 0 _ rfl;rw[Nat.mul_one]at P;have B:Hid _:=AY l k b;have N:=aI (lgm b);have O:=aI (tsa b);obtain⟨x,hx⟩:=bQ (l[k]);rw[←hx]at P B N O;clear r hx Q;go_wp2_with fail
   refine(pZ x wr).mono ?_
   rintro e w' ⟨⟨t,rfl⟩|⟨G,rfl⟩,rfl⟩
   ·obtain⟨n,i⟩:=bQ (aV x)
    rw[←i]at t B ⊢
    have f:Hid (∀y∈l.take (k+1),0<=aV y):=λy S=>by
     rw[O.oQ]at S
     rcases lma.1 S with h|h
     ·exact z.oQ y h
     ·rw[lms.1 h,←i];exact t
    clear i
    go_wp2_with (at_builtin;refine wpList_append_own _ rfl (.tmp 12) (.tmp 15) 38 rfl w.heap.size 3 Z _ 1 8 underlying38 W H J K rfl dz _ _ _ rfl (p.oQ.alloc _) (ya w' 0) 1 1 [I n] rfl rfl ?qc1 ?qc2 ?qc3 ?qc4 ?qc5 ?_)
    case qc1=>
     intro j u o
     match j,o with
     |0,o=>simp at o;subst o;exact aB (wnq w' _) rfl
     |j+1,o=>simp at o
    case qc2=>first|rfl|(intro u R;simp at R;subst R;rfl)
    case qc3=>unfold maxLen;omega
    case qc4=>omega
    case qc5=>have:=m.size;simp;omega
    intro v' T d c _;have D:aG w T:=(aC m _).grown c (by have:=m.size;simp;omega) (λq X=>eH p.oQ X);have A:Hid (T.ownsRow w.heap.size 3 1 v' (k+1) ((aS (l.take (k+1))).map (Value.int .i64))):=by rw[Hid,B.oQ,lmp];exact d
    clear d c p;go_wp2
    go_roundw
    case rel=>exact⟨k+1,om,gn,f,A,D⟩
    case measure=>simp[intOf];omega
   ·go_wp2
    exact⟨rfl,.inr ⟨⟨x,N.oQ,G⟩,rfl⟩,m⟩
  ·have s:¬(k:Int)<(ln l:Int):=om
   have g:k=ln l:=om
   have U:Hid (wr.ownsRow w.heap.size 3 1 u3 (ln l) ((aS l).map (Value.int .i64))):=by rw[Hid];have:=p.oQ;rw[g,List.take_length]at this;exact this
   have f:Hid (∀x∈l,0<=aV x):=by rw[Hid];have:=z.oQ;rw[g,List.take_length]at this;exact this
   clear g p z;go_wp2
   go_ret;exact⟨.inl ⟨f.oQ,_,rfl,U.oQ⟩,m⟩
theorem M9 (l:List UInt8)(h:l.all qW=true):0<=JE l:=by
 have:∀(l:List UInt8) (n:Int),0<=n->l.all qW=true->0<=l.foldl (λn b=>n*10+(b.toNat:Int)-48) n:=by
  intro l;induction l with
  |nil=>intro n c _;exact c
  |cons b r ih=>
   intro n c a;simp only[List.all_cons,bat,qW,dte]at a;exact ih _ (by show 0<=n*10+(b.toNat:Int)-48;omega) a.2
 exact this l 0 (ilr _) h
theorem tI (l:List Ba)(a:Oa)(D:Nat)(w:Wd)(R:Xs 1 eE w a l)(hn:ln l<=1048576):
 aW 46 #[.slice a (ln l) D] w λe w'=>(((∀x∈l,0<=aV x)/\∃v,e=rt (.tuple #[v,.bool true])/\w'.ownsRow w.heap.size 3 1 v (ln l) ((aS l).map (Value.int .i64)))∨((∃x∈l,aV x=-1)/\∃v,e=rt (.tuple #[v,.bool false])))/\aG w w':=by
 obtain⟨i0,hi,J,K,L⟩:=info_parts Tryz.info3;have F:aG w (w.alloc (.cells #[] 3)):=aC (br _ _) _;have A:Hid ((w.alloc (.cells #[] 3)).ownsRow w.heap.size 3 1 (sl w.heap.size 0 0 0) 0 []):=⟨rfl,Or.inr ⟨w.heap.size,0,#[],rfl,nlq _,wnq w _,nlq _,by unfold maxLen;omega,rfl,rfl⟩⟩
 go_enter func46,ntmps46
 go_wp2
 go_loopw [4,5] (λv M wr=>∃k:Nat,k<=ln l/\M=I k/\Hid (∀x∈l.take k,0<=aV x)/\Hid (wr.ownsRow w.heap.size 3 1 v k ((aS (l.take k)).map (Value.int .i64)))/\aG w wr) (λ_ M _=>ln l-(intOf M).toNat)
 case atStart=>exact⟨0,nz _,rfl,by simp[Hid],A,F⟩
 case round=>
  obtain⟨k,hk,rfl,z,r,o⟩:=hrel
  by_cases b:k<ln l
  ·have t:(k:Int)<(ln l:Int):=om
   rcases R.zL o with h|⟨X,N,H,s⟩
   ·rw[h]at b;simp at b
   subst H;have Q:wr.cell? (Y X (N+k*1))=some (.string l[k]):=s k b 0 _ rfl;rw[Nat.mul_one]at Q;have C:Hid _:=AY l k b;have O:=aI (lgm b);have P:=aI (tsa b);obtain⟨x,hx⟩:=bQ (l[k]);rw[←hx]at Q C O P;clear s hx R;go_wp2_with fail
   refine(nD x wr).mono ?_;rintro e w' ⟨rfl,rfl⟩;obtain⟨n,f⟩:=bQ (aV x);rw[←f]at C ⊢
   by_cases d:0<=n
   ·have Z:decide (n<0)=false:=by simp;omega
    have i:Hid (∀y∈l.take (k+1),0<=aV y):=λy T=>by
     rw[P.oQ]at T
     rcases lma.1 T with h|h
     ·exact z.oQ y h
     ·rw[lms.1 h,←f];exact d
    clear f
    go_wp2_with (at_builtin;refine wpList_append_own _ rfl (.tmp 22) (.tmp 24) 38 rfl w.heap.size 3 i0 _ 1 8 underlying38 hi J K L rfl dz _ _ _ rfl (r.oQ.alloc _) (ya w' 0) 1 1 [I n] rfl rfl ?qc1 ?qc2 ?qc3 ?qc4 ?qc5 ?_)
    case qc1=>
     intro j u p
     match j,p with
     |0,p=>simp at p;subst p;exact aB (wnq w' _) rfl
     |j+1,p=>simp at p
    case qc2=>first|rfl|(intro u S;simp at S;subst S;rfl)
    case qc3=>unfold maxLen;omega
    case qc4=>omega
    case qc5=>have:=o.size;simp;omega
    intro v' U g c _;have G:aG w U:=(aC o _).grown c (by have:=o.size;simp;omega) (λq hq=>eH r.oQ hq);have B:Hid (U.ownsRow w.heap.size 3 1 v' (k+1) ((aS (l.take (k+1))).map (Value.int .i64))):=by rw[Hid,C.oQ,lmp];exact g
    clear g c r;go_wp2
    go_roundw
    case rel=>exact⟨k+1,om,gn,i,B,G⟩
    case measure=>simp[intOf];omega
   ·have Z:decide (n<0)=true:=by simp;omega
    have W:Hid (aV x=-1):=by
     rw[Hid];rw[f]at d;unfold aV at d ⊢
     split at d
     ·rename_i h
      exact absurd (M9 _ (by simp only[bat]at h;exact h.2)) d
     ·rename_i h;rw[if_neg h]
    clear f;go_wp2
    exact bpr (v:=.tuple #[u4,.bool false]) (by simp[results,results46,go_sem]) rfl ⟨.inr ⟨⟨x,O.oQ,W.oQ⟩,_,rfl⟩,o⟩
  ·have t:¬(k:Int)<(ln l:Int):=om
   have m:k=ln l:=om
   have V:Hid (wr.ownsRow w.heap.size 3 1 u4 (ln l) ((aS l).map (Value.int .i64))):=by rw[Hid];have:=r.oQ;rw[m,List.take_length]at this;exact this
   have i:Hid (∀x∈l,0<=aV x):=by rw[Hid];have:=z.oQ;rw[m,List.take_length]at this;exact this
   clear m r z;go_wp2
   exact bpr (v:=.tuple #[u4,.bool true]) (by simp[results,results46,go_sem]) rfl ⟨.inl ⟨i.oQ,_,rfl,V.oQ⟩,o⟩
variable {r n q:Int}{s t:Ba}
def dg1 (d:Nat):ByteArray:=⟨#[UInt8.ofNat (48+d)]⟩
theorem conv1 (w:Wd)(p:Nat)(b:Int)(h:w.heap[p]?=some (.cells #[.int .u8 b] 5)):Sem.run prog (convert 22 9 (.slice (some (Y p 0)) 1 1)) w=.ok (.string (strOfNums [b])) w:=
 run_convert_bytes_arg w 22 5 underlying22 underlying5 p 0 1 1 [b] rfl (λi hi=>by
  have e:i=0:=om;subst e;exact aB h rfl) 9 underlying9
theorem ME (h:0<=r):strOfNums [48+r]=dg1 r.toNat:=by
 rw[strOfNums,dg1];simp only[List.map_cons,List.map_nil];rw[show(48+r).toNat=48+r.toNat from by omega]
theorem ZV (u:Nat):ln (Lib.decDigits u)<=u+1:=by
 induction u using Nat.strongRecOn with
 |_ u ih=>
  rw[Lib.decDigits];split;·simp
  ·have:=ih (u/10) om;rw[lla];simp;omega
theorem EQ:∀(k n:Nat),n<10^(k+1)->ln (Lib.decDigits n)<=k+1:=by
 intro k;induction k with
 |zero=>
  intro n h;rw[Lib.decDigits_one om];simp
 |succ k ih=>
  intro n h;rw[Lib.decDigits];split;·simp
  ·have:=ih (n/10) (by rw[Nat.pow_succ]at h;omega);rw[lla];simp;omega
theorem w64 (h:-9223372036854775808<=r/\r<=9223372036854775807):wrap64 r=r:=by unfold wrap64;omega
def D8 (n q r:Int)(s t:ByteArray)(j:Nat)(v:Value)(w:World):Prop:=
 match j with
 |0|3=>v=I n
 |1=>v=I q
 |2=>v=.string s
 |4=>v=I r
 |5=>v=I (48+r)
 |6=>v=.int .u8 (48+r)
 |7=>∃p,v=.slice (some (Y p 0)) 1 1/\w.heap[p]?=some (.cells #[.int .u8 (48+r)] 5)
 |8=>v=.string (dg1 r.toNat)
 |9=>v=.string t
 |_=>True
theorem D8.zL (j:Nat)(v:Va)(w w':Wd)(h:D8 n q r s t j v w)(c:aG w w'):D8 n q r s t j v w':=by
 unfold D8 at*;split at h
 all_goals first
  |exact h
  |(obtain⟨p,a,b⟩:=h;exact⟨p,a,bJ b c⟩)
theorem AV (n q r:Int)(s:Ba)(w:Wd)(h10:¬n<10)(hq:wrap64 (n.tdiv 10)=q)(hr:n%10=r)(y:s.size<=1000)(ih:∀w,aW 9 #[I q] w λe w'=>e=rt (.string s)/\aG w w'):
 aW 9 #[I n] w λe w'=>e=rt (.string (s++dg1 r.toNat))/\aG w w':=by
 have k:0<=r/\r<10:=om;obtain⟨t,v⟩:=cI (s++dg1 r.toNat)
 have hlen:¬9223372036854775807<s.size+(dg1 r.toNat).size:=by
  have e:(dg1 r.toNat).size=1:=rfl;omega
 rw[v];go_enter func9,ntmps9;go_upto_region 3 with fail;refine pG 10 [some 10,some 11,some 12,some 13,some 14,some 15,some 16,some 17,some 18,some 19] (D8 n q r s t) D8.zL ?step ?fin
 case step=>
  intro x o d w' j b f a;simp only[aD,Act.put];match x,j with
  |0,_|3,_=>
   cases b;gi_wp2;exact⟨_,uhx,rfl,br _ _⟩
  |1,_|4,_|5,_|6,_|9,_=>
   cases b;simp[Region.binds,D8]at a;simp only[a];gi_wp2;exact⟨_,by simp[aH,a],rfl,br _ _⟩
  |2,_=>
   cases b;simp[Region.binds,D8]at a;simp only[a];gi_wp2_with fail;refine tqx ?_;refine(cw.2 (ih w')).mono ?_;rintro e w5 ⟨rfl,g⟩;gi_wp2;exact⟨_,by simp[aH,a],rfl,g⟩
  |7,_=>
   cases b;simp[Region.binds,D8]at a;simp only[a];gi_wp2;exact⟨_,by simp[aH,a],⟨_,rfl,wnq w' _⟩,aC (br _ _) _⟩
  |8,_=>
   cases b;obtain⟨p,l,c⟩:∃p,d 7=(sl p 0 1 1)/\_:=Zq a 7;have i:=conv1 w' p (48+r) c;rw[ME k.1]at i;clear a c;rw[l];gi_wp2;exact⟨_,by simp[aH,l],rfl,br _ _⟩
  |q+10,h=>omega
 case fin=>
  intro d w8 f c;have m:d 9=.string t:=c 9 dz;have u:=aI f;clear c f;simp only[lds,ldz,aD,Act.put];rw[m];clear m;generalize d=d;gi_wp2_with fail;go_wp2;go_ret;exact⟨rfl,u.oQ⟩
theorem F2 (n:Int)(h:n<10)(b:Int)(hb:IntKind.u8.wrap (wrap64 (48+n))=b)(w:Wd):aW 9 #[I n] w λe w'=>e=rt (.string (strOfNums [b]))/\aG w w':=by
 have hcv:=conv1 (w.alloc (.cells #[.int .u8 b] 5)) w.heap.size b (wnq w _);go_enter func9,ntmps9;go_wp2;go_ret;exact⟨rfl,aC (br _ _) _⟩
theorem TV:∀(n:Nat) (w:Wd),n<=9223372036854775807->aW 9 #[I (n:Int)] w λe w'=>e=rt (.string ⟨(Lib.decDigits n).toArray⟩)/\aG w w':=by
 intro n;induction n using Nat.strongRecOn with
 |_ n ih=>
  intro w hn;by_cases a:n<10
  ·have:=F2 n om (48+(n:Int)) (by rw[w64 om];simp[IntKind.wrap,IntKind.bits,IntKind.signed];omega) w;rw[ME om]at this;rw[Lib.decDigits_one a];exact this
  ·have:=AV n ((n/10:Nat):Int) ((n%10:Nat):Int) _ w om (by rw[Int.tdiv_eq_ediv_of_nonneg om,w64 om];omega) om (by have:=EQ 18 (n/10) om;show(Lib.decDigits (n/10)).toArray.size<=1000;rw[lsz];omega) (λw=>ih (n/10) om w om);rw[Lib.decDigits,dif_neg a];exact this
variable {c:Int}
def dH (n:Int):ByteArray:=⟨(Lib.decDigits n.toNat).toArray⟩
theorem bD {n:Int}(h:n<=2000000):(dH n).size<=2000001:=by
 have:=ZV n.toNat;show(Lib.decDigits n.toNat).toArray.size<=_;rw[lsz];omega
theorem mT (n:Int)(w:Wd)(a:0<=n)(h1:n<=9223372036854775807):aW 9 #[I n] w λe w'=>e=rt (.string (dH n))/\aG w w':=by
 obtain⟨k,rfl⟩:=ieo a;exact TV k w om
abbrev XB:ByteArray:=⟨#[99,111,100,101,32]⟩
def jC (c:Int):ByteArray:=XB++dH c
theorem PF (h:c<=2000000):(jC c).size<=2000006:=by
 have:=bD h;show(XB++dH c).size<=_;rw[bsz];have e:XB.size=5:=rfl;omega
theorem CV (c:Int)(w:Wd)(a:0<=c)(b:c<=2000000):aW 92 #[I c] w λe w'=>e=rt (.string (jC c))/\aG w w':=by
 have f:=bD b;go_enter func92,ntmps92;go_wp2_with fail;refine(mT c w a om).mono ?_;rintro e w' ⟨rfl,d⟩;have hz:¬9223372036854775807<5+(dH c).size:=om;go_wp2;go_ret;exact⟨rfl,d⟩
def iS:List Bx->ByteArray
 |[]=>⟨#[45]⟩
 |b::r=>dH ((b::r).length:Int)++⟨#[64]⟩++dH b.i++⟨#[45]⟩++dH ((b::r).getLast sm).o
def DT (a:Bx)(z:Bx)(n A Z:Nat)(s0 s1 s2 s3 s4 s5 s6:ByteArray)(va:Value)(j:Nat)(v:Value)(_w:World):Prop:=
 match j with
 |0=>v=va
 |1=>v=I (n:Int)
 |2=>v=.string s0
 |3=>v=.string s1
 |4=>v=(E A 4)
 |5=>v=I a.i
 |6=>v=.string s2
 |7=>v=.string s3
 |8=>v=.string s4
 |9=>v=(E Z 5)
 |10=>v=I z.o
 |11=>v=.string s5
 |12=>v=.string s6
 |_=>True
theorem AM (l:List Bx)(ao:Oa)(v:Nat)(w:Wd)(hX:jG w ao l)(hn:ln l<=1048576)(V:∀b∈l,0<=b.i/\b.i<=2000000/\0<=b.o/\b.o<=2000000):
 aW 93 #[.slice ao (ln l) v] w λe w'=>e=rt (.string (iS l))/\aG w w':=by
 cases l with
 |nil=>
  go_enter func93,ntmps93;go_wp2;go_ret;exact⟨rfl,br _ _⟩
 |cons b r=>
  obtain⟨l,G⟩:=bQ (b::r);have c:l≠[]:=by rw[G];simp
  have u:Hid (iS (b::r)=dH (ln l:Int)++⟨#[64]⟩++dH (l.head c).i++⟨#[45]⟩++dH (l.getLast c).o):=by subst G;rfl
  rw[←G]at hX hn V ⊢;rw[←G]at u;clear G b r;rcases hX with h|⟨bl,zr,rfl,hc⟩;·exact absurd h c
  have J:0<ln l:=lpi.2 c;have ca:=hc 0 J;have B:=hc (ln l-1) om;obtain⟨a,k⟩:=bQ (l.head c);obtain⟨z,n⟩:=bQ (l.getLast c);have zs:l[0]=a:=by rw[k,List.head_eq_getElem]
  have ez:l[ln l-1]'om=z:=by rw[n,List.getLast_eq_getElem]
  rw[zs]at ca;rw[ez]at B;obtain⟨zn,ha1,_,_⟩:=V a (by rw[k];exact List.head_mem _);obtain⟨_,_,zq,hz1⟩:=V z (by rw[n];exact List.getLast_mem _);rw[←k,←n]at u;clear k n zs ez c hc V;obtain⟨m,hm⟩:=bQ (ln l-1);have hlm:(ln l:Int)-1=(m:Int):=om;have hml:m<ln l:=om;have hne0:((ln l:Int)==0)=false:=by rw[bfn];omega
  rw[←hm]at B;rw[Nat.zero_mul,naz]at ca;clear hm;obtain⟨W0,t⟩:=cI (w.alloc (.cells #[I a.x,I a.y,I a.lo,I a.hi,I a.i,I a.o] 91));have g:aG w W0:=by rw[←t];exact aC (br _ _) _
  have HA:Hid (W0.heap[w.heap.size]?=some (.cells #[I a.x,I a.y,I a.lo,I a.hi,I a.i,I a.o] 91)):=by rw[Hid,←t];exact wnq w _
  replace B:=B.zL g;obtain⟨zb,zc,zd,ze,zf,zg⟩:=ca;obtain⟨zh,zi,zj,zk,zl,zm⟩:=B;go_enter func93,ntmps93;go_upto_region 5 with fail;obtain⟨A,hA⟩:=bQ w.heap.size;obtain⟨O,j⟩:=cI (W0.alloc (.cells #[I z.x,I z.y,I z.lo,I z.hi,I z.i,I z.o] 91));have p:aG W0 O:=by rw[←j];exact aC (br _ _) _
  have kz:O.cell? (Y W0.heap.size 5)=some (I z.o):=aB (by rw[←j];exact wnq W0 _) rfl;have ka:O.cell? (Y A 4)=some (I a.i):=aB (bJ (by rw[hA];exact HA.oQ) p) rfl;have F:aG w O:=g.trans (p.mono g.size);obtain⟨Z,hZ⟩:=bQ W0.heap.size;rw[←hZ]at kz;rw[j,←hA,←hZ];have HB:=aI F;clear t j g p hA hZ HA zb zc zd ze zf zg zh zi zj zk zl zm F;obtain⟨K,P⟩:∃s,s=dH (ln l:Int):=⟨_,rfl⟩;obtain⟨L,Q⟩:∃s,s=K++⟨#[64]⟩:=⟨_,rfl⟩;obtain⟨M,R⟩:∃s,s=dH a.i:=⟨_,rfl⟩;obtain⟨N,S⟩:∃s,s=L++M:=⟨_,rfl⟩;obtain⟨W,T⟩:∃s,s=N++⟨#[45]⟩:=⟨_,rfl⟩;obtain⟨X,U⟩:∃s,s=dH z.o:=⟨_,rfl⟩;obtain⟨s6,e6⟩:∃s,s=W++X:=⟨_,rfl⟩;have z0:K.size<=2000001:=by rw[P];exact bD om
  have z2:M.size<=2000001:=by rw[R];exact bD om
  have z5:X.size<=2000001:=by rw[U];exact bD om
  have z1:L.size=K.size+1:=by rw[Q,bsz];rfl
  have z3:N.size=L.size+M.size:=by rw[S,bsz]
  have z4:W.size=N.size+1:=by rw[T,bsz];rfl
  have g1:¬9223372036854775807<K.size+1:=om;have g3:¬9223372036854775807<L.size+M.size:=om;have g4:¬9223372036854775807<N.size+1:=om;have g6:¬9223372036854775807<W.size+X.size:=om;rw[←P,←R,←U]at u;rw[←Q,←S,←T,←e6]at u;clear z0 z1 z2 z3 z4 z5;have E0:Hid _:=P;have E2:Hid _:=R;have E5:Hid _:=U;have e1':=Q.symm;have e3':=S.symm;have e4':=T.symm;have e6':=e6.symm;clear P R U Q S T e6;refine pG 13 [some 17,some 18,some 19,some 20,some 21,some 22,some 23,some 24,some 25,some 26,some 27,some 28,some 29] (DT a z (ln l) A Z K L M N W X s6 (.slice (some (Y bl zr)) (ln l) v)) (λ_ _ _ _ h _=>h) ?step ?fin
  case step=>
   intro ii o vs w' zp H D d;have z0z:=ctq D ka;have z1z:=ctq D kz;match ii,zp with
   |1,_|3,_|5,_|7,_|8,_|10,_|12,_=>
    cases H;simp[Region.binds,DT]at d;simp only[aD,Act.put,d];gi_wp2;exact⟨_,by simp[aH,d],rfl,br _ _⟩
   |0,_|4,_|9,_=>
    cases H;gi_wp2;exact⟨_,uhx,rfl,br _ _⟩
   |2,_=>
    cases H;simp[Region.binds,DT]at d;simp only[aD,Act.put,d];gi_wp2_with fail;refine tqx ?_;refine(cw.2 (mT (ln l:Int) w' om om)).mono ?_;rintro e w5 ⟨rfl,f⟩;rw[←E0.out];gi_wp2;exact⟨_,by simp[aH,d],rfl,f⟩
   |6,_=>
    cases H;simp[Region.binds,DT]at d;simp only[aD,Act.put,d];gi_wp2_with fail;refine tqx ?_;refine(cw.2 (mT a.i w' zn om)).mono ?_;rintro e w5 ⟨rfl,f⟩;rw[←E2.out];gi_wp2;exact⟨_,by simp[aH,d],rfl,f⟩
   |11,_=>
    cases H;simp[Region.binds,DT]at d;simp only[aD,Act.put,d];gi_wp2_with fail;refine tqx ?_;refine(cw.2 (mT z.o w' zq om)).mono ?_;rintro e w5 ⟨rfl,f⟩;rw[←E5.out];gi_wp2;exact⟨_,by simp[aH,d],rfl,f⟩
   |q+13,h=>omega
  case fin=>
   intro vs w8 D hp;have C:vs 12=.string s6:=hp 12 dz;have za:=aI D;clear hp D;simp only[lds,ldz,aD,Act.put];rw[C];clear C;generalize vs=vs;gi_wp2_with fail;go_wp2;go_ret;exact⟨by rw[u.oQ];rfl,aE HB.oQ za.oQ⟩
theorem JT (n:Int)(h:n<=9223372036854775807):∃t:Ba,t.size<=19/\∀w,aW 9 #[I n] w λe w'=>e=rt (.string t)/\aG w w':=by
 rcases Int.lt_or_le n 10 with a|a;·exact⟨_,by show(1:Nat)<=19;omega,F2 n a _ rfl⟩
 ·exact⟨dH n,by show(Lib.decDigits n.toNat).toArray.size<=19;rw[lsz];exact EQ 18 _ om,λw=>mT n w om h⟩
theorem iZ (n:Int):∃t:Ba,t.size<=20/\∀w,aW 9 #[I n] w λe w'=>e=rt (.string t)/\aG w w':=by
 rcases Int.lt_or_le n 10 with b|b
 ·obtain⟨t,c,a⟩:=JT n om;exact⟨t,om,a⟩
 ·obtain⟨s,c,a⟩:=JT (wrap64 (n.tdiv 10)) (by unfold wrap64;omega);exact⟨s++dg1 (n%10).toNat,by rw[bsz];show s.size+1<=20;omega,λw=>AV n _ _ s w om rfl rfl om a⟩
def Tx (b:Nat)(v:Value):Prop:=∃t:ByteArray,v=.string t/\t.size<=b
theorem fB {a b c:Nat}(d:s.size<=a)(ht:t.size<=b)(h:a+b<=c):(s++t).size<=c:=by
 rw[bsz];omega
theorem BS (s:Ba)(n:Nat)(w:Wd)(z:n*s.size<=200000)(hs1:s.size<=200000)(u:n<=200000):
 aW 16 #[.string s,I (n:Int)] w λe w'=>(∃t:Ba,e=rt (.string t)/\t.size<=200000)/\w'=w:=by
 go_enter Tryz.func16,Tryz.ntmps16
 go_wp2
 go_loop [0,1,5] (λy i x=>∃(t:Ba) (k:Nat) (o:Ba),y=.string t/\i=I (k:Int)/\x=.string o/\k<=200000/\t.size<=400000/\Hid (o.size+k*t.size=n*s.size)) (λ_ i _=>(intOf i).toNat)
 case atStart=>exact⟨s,n,⟨#[]⟩,rfl,rfl,rfl,u,om,by show(0:Nat)+n*s.size=n*s.size;omega⟩
 case round=>
  obtain⟨t,k,o,rfl,rfl,rfl,hk,ht,b⟩:=hrel;have v:o.size<=200000:=by have:=b.oQ;omega
  by_cases p:0<k
  ·obtain⟨q,g⟩:=bQ (k/2:Nat)
   obtain⟨r,h⟩:=bQ (k%2:Nat);have hq:((k:Int)/2)=(q:Int):=om
   have hr:((k:Int)%2)=(r:Int):=om
   have a:k=2*q+r:=om
   have hqk:q<k:=om
   have ht2:t.size<=200000:=by
    have d:=b.oQ;have l:1*t.size<=k*t.size:=Nat.mul_le_mul_right _ p;omega
   have c:Hid ((t++t).size=t.size+t.size):=bsz;have m:Hid ((o++t).size=o.size+t.size):=bsz;have hz1:¬9223372036854775807<t.size+t.size:=om
   have hz2:¬9223372036854775807<o.size+t.size:=om
   have j:Hid (k*t.size=q*(t.size+t.size)+r*t.size):=by
    rw[Hid,a,Nat.add_mul,Nat.mul_add,Nat.mul_assoc,Nat.two_mul]
   have hr2:r<2:=om
   clear g h a
   by_cases d:r=1
   ·subst d
    go_wp2
    go_round
    case rel=>exact⟨t++t,q,o++t,rfl,rfl,rfl,om,by rw[c.oQ];omega,by rw[Hid,c.oQ,m.oQ];have d:=b.oQ;have l:=j.oQ;omega⟩
    case measure=>simp[intOf];omega
   ·have f:r=0:=om
    subst f;go_wp2
    go_round
    case rel=>exact⟨t++t,q,o,rfl,rfl,rfl,om,by rw[c.oQ];omega,by rw[Hid,c.oQ];have d:=b.oQ;have l:=j.oQ;omega⟩
    case measure=>simp[intOf];omega
  ·go_wp2
   go_ret;exact⟨⟨o,rfl,v⟩,rfl⟩
def Kb6 (Z b:Nat)(j:Nat)(v:Value)(_:World):Prop:=
 match j with
 |2=>v=(E Z 0)
 |7=>v=(E Z 1)
 |12=>v=(E Z 2)
 |17=>v=(E Z 3)
 |22=>v=(E Z 4)
 |27=>v=(E Z 5)
 |3|8|13|18|23|28=>∃m,v=I m
 |4|9|14|19|24|29=>Tx 20 v
 |_=>Tx (b+20*j) v
theorem JW (l:List Bx)(R:Oa)(K:Nat)(w:Wd)(S:jG w R l)(hn:ln l<=1000):
 aW 14 #[.slice R (ln l) K] w λe w'=>(∃t:Ba,e=rt (.string t)/\t.size<=700000)/\aG w w':=by
 go_enter Tryz.func14,Tryz.ntmps14
 go_wp2
 go_loopw [3,4] (λov P wr=>∃(k:Nat) (F:Ba),k<=ln l/\ov=.string F/\P=I k/\F.size<=k*700/\aG w wr) (λ_ P _=>ln l-(intOf P).toNat)
 case atStart=>exact⟨0,⟨#[]⟩,nz _,rfl,rfl,nlq _,br _ _⟩
 case round=>
  obtain⟨k,F,hk,rfl,rfl,hsz,D⟩:=hrel
  by_cases j:k<ln l
  ·have B:(k:Int)<(ln l:Int):=om
   rcases S.zL D with h|⟨g,off,L,A⟩
   ·rw[h]at j;simp at j
   subst L;obtain⟨V,W,X,Z,k4,k5⟩:=A k j;obtain⟨p,C⟩:=bQ (l[k]);rw[←C]at V W X Z k4 k5;have T:=aI D;obtain⟨W0,d⟩:=cI (wr.alloc (xo p));have H:Hid (aG wr W0):=by rw[Hid,←d];exact aC (br _ _) _
   have Q:W0.heap[wr.heap.size]?=some (xo p):=by rw[←d];exact wnq wr _
   obtain⟨q0,q1,q2,q3,q4,q5⟩:=rG Q;clear C A Q D S
   go_upto_region 6 with fail
   clear d;refine pG 32 [some 16,some 17,some 18,some 19,some 20,some 21,some 22,some 23,some 24,some 25,some 26,some 27,some 28,some 29,some 30,some 31,some 32,some 33,some 34,some 35,some 36,some 37,some 38,some 39,some 40,some 41,some 42,some 43,some 44,some 45,some 46,some 47] (Kb6 wr.heap.size (k*700)) (λ_ _ _ _ h _=>h) ?step ?fin
   case step=>
    intro U o G w' N n c a;have z0:=ctq c q0;have z1:=ctq c q1;have z2:=ctq c q2;have z3:=ctq c q3;have z4:=ctq c q4;have z5:=ctq c q5;simp only[aD,Act.put]
    match U,N with
    |0,_=>
     cases n
     gi_wp2;exact⟨_,by simp[aH];rfl,⟨_,rfl,om⟩,br _ _⟩
    |2,_|7,_|12,_|17,_|22,_|27,_=>
     cases n
     gi_wp2;exact⟨_,uhx,rfl,br _ _⟩
    |3,_|8,_|13,_|18,_|23,_|28,_=>
     cases n
     simp[Region.binds,Kb6]at a
     simp only[a];gi_wp2;exact⟨_,by simp[aH,a];rfl,⟨_,rfl⟩,br _ _⟩
    |4,_=>
     cases n
     simp[Region.binds,Kb6]at a
     obtain⟨m,u⟩:=a;obtain⟨t,r,M⟩:=iZ m;simp only[u];gi_wp2_with fail
     refine tqx ?_;refine(cw.2 (M w')).mono ?_;rintro e w5 ⟨rfl,f⟩;gi_wp2;exact⟨_,by simp[aH,u],⟨_,rfl,r⟩,f⟩
    |9,_|14,_|19,_|24,_|29,_=>
     cases n
     simp[Region.binds,Kb6]at a
     obtain⟨⟨m,u⟩,-⟩:=a;obtain⟨t,r,M⟩:=iZ m;simp only[u];gi_wp2_with fail
     refine tqx ?_;refine(cw.2 (M w')).mono ?_;rintro e w5 ⟨rfl,f⟩;gi_wp2;exact⟨_,by simp[aH,u],⟨_,rfl,r⟩,f⟩
    |5,_|10,_|15,_|20,_|25,_|30,_=>
     cases n
     simp[Region.binds,Kb6]at a
     obtain⟨⟨s,v,O⟩,t,z,r⟩:=a;have hz:¬9223372036854775807<s.size+t.size:=om
     simp only[v,z];gi_wp2;exact⟨_,by simp[aH,v,z],⟨_,rfl,fB O r om⟩,br _ _⟩
    |1,_|6,_|11,_|16,_|21,_|26,_|31,_=>
     cases n
     simp[Region.binds,Kb6]at a
     obtain⟨s,v,O⟩:=a;simp only[v];gi_wp2;exact⟨_,by simp[aH,v];rfl,⟨_,rfl,fB O (b:=20) dz om⟩,br _ _⟩
    |q+32,h=>omega
   case fin=>
    intro G w8 c C;obtain⟨t,z,r⟩:Tx (k*700+20*31) (G 31):=C 31 dz;have J:=aI c;clear C c;simp only[lds,ldz,aD,Act.put];rw[z];clear z;generalize G=G;gi_wp2_with fail
    go_wp2
    go_roundw
    case rel=>exact⟨k+1,t,om,rfl,gn,om,aE T.oQ (aE H.oQ J.oQ)⟩
    case measure=>simp[intOf];omega
  ·have B:¬(k:Int)<(ln l:Int):=om
   go_wp2
   go_ret;exact⟨⟨F,rfl,om⟩,D⟩
def Kc (Z g off n cap k b:Nat)(j:Nat)(v:Value)(_:World):Prop:=
 match j with
 |2|11=>v=(E Z 0)
 |3|12=>v=.slice (some (Y g off)) n cap
 |4|13=>v=I (k:Int)
 |5|6|14=>v=(E g (off+k*2))
 |15=>v=(E g (off+k*2+1))
 |7|16=>∃m,v=I m
 |8|17=>Tx 20 v
 |_=>Tx (b+20*j) v
theorem MS (y:Yx)(w:Wd)(R:Xs 2 Cx.cells w y.a y.l)(hn:ln y.l<=1000):
 aW 32 #[.agg #[.slice y.a (ln y.l) y.c]] w λe w'=>(∃t:Ba,e=rt (.string t)/\t.size<=400000)/\aG w w':=by
 obtain⟨W0,j⟩:=cI (w.alloc (.cells #[.slice y.a (ln y.l) y.c] 89));have D:aG w W0:=by rw[←j];exact aC (br _ _) _
 have Q:Hid (W0.cell? (ya w 0)=some (.slice y.a (ln y.l) y.c)):=aB (by rw[←j];exact wnq w _) rfl
 go_enter Tryz.func32,Tryz.ntmps32
 go_wp2
 go_loopw [3,4] (λov P wr=>∃(k:Nat) (J:Ba),k<=ln y.l/\ov=.string J/\P=I k/\J.size<=k*400/\aG w wr/\aG W0 wr) (λ_ P _=>ln y.l-(intOf P).toNat)
 case atStart=>exact⟨0,⟨#[]⟩,nz _,rfl,rfl,nlq _,D,br _ _⟩
 case round=>
  obtain⟨k,J,hk,rfl,rfl,hsz,H,L⟩:=hrel;have T:wr.cell? (ya w 0)=some (.slice y.a (ln y.l) y.c):=ctq L Q.oQ
  by_cases f:k<ln y.l
  ·have G:(k:Int)<(ln y.l:Int):=om
   rcases R.zL H with h|⟨g,r,F,p⟩
   ·rw[h]at f;simp at f
   rw[F]at T;have X:wr.cell? (Y g (r+k*2))=some (I y.l[k].x):=p k f 0 _ rfl;have Z:wr.cell? (Y g (r+k*2+1))=some (I y.l[k].y):=p k f 1 _ rfl;have V:=aI H;have U:=aI L;clear p F H L R Q D j
   go_upto_region 5 with fail
   refine pG 19 [some 12,some 13,some 14,some 15,some 16,some 17,some 18,some 19,some 20,some 21,some 22,some 23,some 24,some 25,some 26,some 27,some 28,some 29,some 30] (Kc w.heap.size g r (ln y.l) y.c k (k*400)) (λ_ _ _ _ h _=>h) ?step ?fin
   case step=>
    intro W o K w' N i u d;have z0:=ctq u T;have y0:=ctq u X;have y1:=ctq u Z;simp only[aD,Act.put]
    match W,N with
    |0,_=>
     cases i
     gi_wp2;exact⟨_,by simp[aH];rfl,⟨_,rfl,om⟩,br _ _⟩
    |2,_|4,_|11,_|13,_=>
     cases i
     gi_wp2;exact⟨_,uhx,rfl,br _ _⟩
    |3,_|5,_|6,_|12,_|14,_|15,_=>
     cases i
     simp[Region.binds,Kc]at d
     simp only[d];gi_wp2;exact⟨_,by simp[aH,d],rfl,br _ _⟩
    |7,_|16,_=>
     cases i
     simp[Region.binds,Kc]at d
     simp only[d];gi_wp2;exact⟨_,by simp[aH,d];rfl,⟨_,rfl⟩,br _ _⟩
    |8,_=>
     cases i
     simp[Region.binds,Kc]at d
     obtain⟨m,A⟩:=d;obtain⟨t,v,M⟩:=iZ m;simp only[A];gi_wp2_with fail
     refine tqx ?_;refine(cw.2 (M w')).mono ?_;rintro e w5 ⟨rfl,n⟩;gi_wp2;exact⟨_,by simp[aH,A],⟨_,rfl,v⟩,n⟩
    |17,_=>
     cases i
     simp[Region.binds,Kc]at d
     obtain⟨⟨m,A⟩,-⟩:=d;obtain⟨t,v,M⟩:=iZ m;simp only[A];gi_wp2_with fail
     refine tqx ?_;refine(cw.2 (M w')).mono ?_;rintro e w5 ⟨rfl,n⟩;gi_wp2;exact⟨_,by simp[aH,A],⟨_,rfl,v⟩,n⟩
    |9,_|18,_=>
     cases i
     simp[Region.binds,Kc]at d
     obtain⟨⟨s,B,O⟩,t,C,v⟩:=d;have hz:¬9223372036854775807<s.size+t.size:=om
     simp only[B,C];gi_wp2;exact⟨_,by simp[aH,B,C],⟨_,rfl,fB O v om⟩,br _ _⟩
    |1,_|10,_=>
     cases i
     simp[Region.binds,Kc]at d
     obtain⟨s,B,O⟩:=d;simp only[B];gi_wp2;exact⟨_,by simp[aH,B];rfl,⟨_,rfl,fB O (b:=20) dz om⟩,br _ _⟩
    |q+19,h=>omega
   case fin=>
    intro K w8 u S;obtain⟨t,C,v⟩:Tx (k*400+20*18) (K 18):=S 18 dz;have z:=aI u;clear S u;simp only[lds,ldz,aD,Act.put];rw[C];clear C;generalize K=K;gi_wp2_with fail
    go_wp2
    go_roundw
    case rel=>exact⟨k+1,t,om,rfl,gn,om,aE V.oQ z.oQ,aE U.oQ z.oQ⟩
    case measure=>simp[intOf];omega
  ·have G:¬(k:Int)<(ln y.l:Int):=om
   go_wp2
   go_ret;exact⟨⟨J,rfl,om⟩,H⟩
def Kl (Z:Nat)(j:Nat)(v:Value)(_:World):Prop:=
 match j with
 |0=>v=(E Z 0)
 |4=>v=(E Z 1)
 |9=>v=(E Z 2)
 |14=>v=(E Z 3)
 |19=>v=(E Z 4)
 |24=>v=(E Z 5)
 |5|10|15|20|25=>∃m,v=I m
 |6|11|16|21|26=>Tx 20 v
 |_=>Tx (1000+20*j) v
theorem OQ (x:Wx)(w:Wd)(hx:x.In w)(hn:x.n.size<=1000)(hw:ln x.wl<=3)(hl:ln x.ll<=3)(hy:∀y∈x.wl,ln y.l<=1000):
 aW 13 #[x.val] w λe w'=>(∃t:Ba,e=rt (.string t)/\t.size<=1500000)/\aG w w':=by
 obtain⟨W0,K⟩:=cI (w.alloc (wo x));have C:Hid (aG w W0):=by rw[Hid,←K];exact aC (br _ _) _
 have HA:W0.heap[w.heap.size]?=some (wo x):=by rw[←K];exact wnq w _
 obtain⟨q0,q1,q2,q3,q4,q5,U,V⟩:=gT HA;have HQ:Hid (W0.cell? (ya w 6)=some (.slice x.wa (ln x.wl) x.wc)/\W0.cell? (ya w 7)=some (.slice x.la (ln x.ll) x.lc)):=⟨U,V⟩;clear U V;clear HA
 go_enter Tryz.func13,Tryz.ntmps13
 go_upto_region 1 with fail
 clear K;refine pG 29 [some 6,some 7,some 8,some 9,some 10,some 11,some 12,some 13,some 14,some 15,some 16,some 17,some 18,some 19,some 20,some 21,some 22,some 23,some 24,some 25,some 26,some 27,some 28,some 29,some 30,some 31,some 32,some 33,some 34] (Kl w.heap.size) (λ_ _ _ _ h _=>h) ?step ?fin
 case step=>
  intro ii o W w' Z H D p;have z0:=ctq D q0;have z1:=ctq D q1;have z2:=ctq D q2;have z3:=ctq D q3;have z4:=ctq D q4;have z5:=ctq D q5;simp only[aD,Act.put]
  match ii,Z with
  |0,_|4,_|9,_|14,_|19,_|24,_=>
   cases H
   gi_wp2;exact⟨_,uhx,rfl,br _ _⟩
  |1,_=>
   cases H
   simp[Region.binds,Kl]at p
   simp only[p];gi_wp2;exact⟨_,by simp[aH,p];rfl,⟨_,rfl,om⟩,br _ _⟩
  |5,_|10,_|15,_|20,_|25,_=>
   cases H
   simp[Region.binds,Kl]at p
   simp only[p];gi_wp2;exact⟨_,by simp[aH,p];rfl,⟨_,rfl⟩,br _ _⟩
  |6,_=>
   cases H
   simp[Region.binds,Kl]at p
   obtain⟨m,P⟩:=p;obtain⟨t,v,F⟩:=iZ m;simp only[P];gi_wp2_with fail
   refine tqx ?_;refine(cw.2 (F w')).mono ?_;rintro e T ⟨rfl,d⟩;gi_wp2;exact⟨_,by simp[aH,P],⟨_,rfl,v⟩,d⟩
  |11,_|16,_|21,_|26,_=>
   cases H
   simp[Region.binds,Kl]at p
   obtain⟨⟨m,P⟩,-⟩:=p;obtain⟨t,v,F⟩:=iZ m;simp only[P];gi_wp2_with fail
   refine tqx ?_;refine(cw.2 (F w')).mono ?_;rintro e T ⟨rfl,d⟩;gi_wp2;exact⟨_,by simp[aH,P],⟨_,rfl,v⟩,d⟩
  |7,_|12,_|17,_|22,_|27,_=>
   cases H
   simp[Region.binds,Kl]at p
   obtain⟨⟨s,G,S⟩,t,Q,v⟩:=p;have hz:¬9223372036854775807<s.size+t.size:=om
   simp only[G,Q];gi_wp2;exact⟨_,by simp[aH,G,Q],⟨_,rfl,fB S v om⟩,br _ _⟩
  |2,_=>
   cases H
   simp[Region.binds,Kl]at p
   obtain⟨s,G,S⟩:=p;simp only[G];gi_wp2;exact⟨_,by simp[aH,G];rfl,⟨_,rfl,fB (a:=20) dz S om⟩,br _ _⟩
  |3,_|8,_|13,_|18,_|23,_|28,_=>
   cases H
   simp[Region.binds,Kl]at p
   obtain⟨s,G,S⟩:=p;simp only[G];gi_wp2;exact⟨_,by simp[aH,G];rfl,⟨_,rfl,fB S (b:=20) dz om⟩,br _ _⟩
  |q+29,h=>omega
 case fin=>
  intro W w8 D hp;obtain⟨t0,Q,ht0⟩:Tx (1000+20*28) (W 28):=hp 28 dz;have X:=aI D;clear hp D q0 q1 q2 q3 q4 q5;simp only[lds,ldz,aD,Act.put];rw[Q];clear Q;generalize W=W;gi_wp2_with fail
  go_wp2
  go_loopw [3,4] (λov M wr=>∃(k:Nat) (j:Ba),k<=ln x.ll/\ov=.string j/\M=I k/\j.size<=2000+k*100/\aG W0 wr) (λ_ M _=>ln x.ll-(intOf M).toNat)
  case atStart=>exact⟨0,t0,nz _,rfl,rfl,om,X.oQ⟩
  case round=>
   obtain⟨k,j,hk,rfl,rfl,r,u⟩:=hrel;have V:=ctq u HQ.oQ.2
   by_cases i:k<ln x.ll
   ·have B:(k:Int)<(ln x.ll:Int):=om
    rcases(hx.ls.zL C.oQ).zL u with h|⟨g,N,z,A⟩
    ·rw[h]at i;simp at i
    rw[z]at V;have k0:wr.cell? (Y g (N+k))=some (I x.ll[k]):=by have:=A k i 0 _ rfl;simpa using this
    obtain⟨t,v,F⟩:=iZ x.ll[k];have O:=aI u;clear A z u;have zb:¬9223372036854775807<j.size+1:=om
    rcases Nat.eq_zero_or_pos k with R|R
    ·have J:¬(0:Int)<(k:Int):=om
     clear R;have L:¬9223372036854775807<j.size+t.size:=om
     go_wp2_with fail
     refine(F wr).mono ?_;rintro e T ⟨rfl,d⟩;go_wp2
     go_roundw
     case rel=>exact⟨k+1,j++t,om,rfl,gn,fB r v om,aE O.oQ d⟩
     case measure=>simp[intOf];omega
    ·have J:(0:Int)<(k:Int):=om
     have L:¬9223372036854775807<j.size+1+t.size:=om
     go_wp2_with fail
     refine(F wr).mono ?_;rintro e T ⟨rfl,d⟩;go_wp2
     go_roundw
     case rel=>exact⟨k+1,j++⟨#[44]⟩++t,om,rfl,gn,fB (fB r (b:=1) dz (nlq _)) v om,aE O.oQ d⟩
     case measure=>simp[intOf];omega
   ·have B:¬(k:Int)<(ln x.ll:Int):=om
    have za:j.size<=3000:=om
    clear i hk r;go_wp2
    go_loopw [3,5] (λov M wr=>∃(k:Nat) (j:Ba),k<=ln x.wl/\ov=.string j/\M=I k/\j.size<=3000+k*400010/\aG W0 wr) (λ_ M _=>ln x.wl-(intOf M).toNat)
    case atStart=>exact⟨0,j,nz _,rfl,rfl,om,u⟩
    case round=>
     clear u za;obtain⟨k,j,hk,rfl,rfl,r,u⟩:=hrel;have U:=ctq u HQ.oQ.1
     by_cases i:k<ln x.wl
     ·have B:(k:Int)<(ln x.wl:Int):=om
      rcases(hx.ws.zL C.oQ).zL u with h|⟨g,N,z,A⟩
      ·rw[h]at i;simp at i
      rw[z]at U;have k0:wr.cell? (Y g (N+k))=some (.slice x.wl[k].a x.wl[k].l.length x.wl[k].c):=by have:=A k i 0 _ rfl;simpa using this
      have F:=MS x.wl[k] wr (((hx.yn _ (lgm i)).zL C.oQ).zL u) (hy _ (lgm i));have O:=aI u;clear A z u;have zb:¬9223372036854775807<j.size+2:=om
      rcases Nat.eq_zero_or_pos k with R|R
      ·have J:¬(0:Int)<(k:Int):=om
       clear R;go_wp2_with fail
       refine F.mono ?_;rintro e T ⟨⟨t,rfl,v⟩,d⟩;have L:¬9223372036854775807<j.size+t.size:=om
       go_wp2
       go_roundw
       case rel=>exact⟨k+1,j++t,om,rfl,gn,fB r v om,aE O.oQ d⟩
       case measure=>simp[intOf];omega
      ·have J:(0:Int)<(k:Int):=om
       go_wp2_with fail
       refine F.mono ?_;rintro e T ⟨⟨t,rfl,v⟩,d⟩;have L:¬9223372036854775807<j.size+2+t.size:=om
       go_wp2
       go_roundw
       case rel=>exact⟨k+1,j++⟨#[32,47]⟩++t,om,rfl,gn,fB (fB r (b:=2) dz (nlq _)) v om,aE O.oQ d⟩
       case measure=>simp[intOf];omega
     ·have B:¬(k:Int)<(ln x.wl:Int):=om
      have hz:¬9223372036854775807<j.size+1:=om
      go_wp2
      go_ret;exact⟨⟨j++⟨#[10]⟩,rfl,fB r (b:=1) dz om⟩,aE C.oQ u⟩
