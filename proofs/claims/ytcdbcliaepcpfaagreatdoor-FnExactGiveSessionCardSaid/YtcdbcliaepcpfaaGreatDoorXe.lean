import Derived.Test.YtcdbcliaepcpfaaGreatDoorXa
import Derived.Test.YtcdbcliaepcpfaaGreatDoorWi
import Derived.Lib.ItoaNum
import Derived.Laws.BytesArg
import Derived.Deep.DeepCutAuto
import Derived.Deep.RegionWith
namespace Go.Proofs.YtcdbcliaepcpfaaGreatDoor
set_option maxRecDepth 100000
set_option maxHeartbeats 4000000
open Go.RowKit Go.BigFrame
def dS (s:ByteArray):List Value:=[.string s]
theorem JA (s:ByteArray):(dS s).length=1:=rfl
def aS (l:List ByteArray):List Int:=l.map aV
theorem Tryz.infoInt:(Tryz.prog.info? 3).map (λi=>(i.zero,i.size,i.bytes))=some (some (.int .i64 0),1,8):=by kernel_rfl
theorem z7 (l:List ByteArray)(k:Nat)(h:k<l.length):aS (l.take (k+1))=aS (l.take k)++[aV l[k]]:=by
 rw[aS,List.take_succ_eq_append_getElem h,List.map_append];rfl
theorem jM (l:List ByteArray)(a:Option Addr)(C:Nat)(w:World)(O:Xs 1 dS w a l)(hn:l.length<=1048576):
 aY 53 #[.slice a l.length C] w λe w'=>(((∀x∈l,0<=aV x)/\∃v,e=.returned v/\w'.ownsRow w.heap.size 3 1 v l.length ((aS l).map (Value.int .i64)))∨((∃x∈l,aV x=-1)/\e=S8))/\aF w w':=by
 obtain⟨W,U,G,H,I⟩:=info_parts Tryz.infoInt
 go_enter Tryz.func53,Tryz.ntmps53
 go_wp2
 go_loopw [3,8] (λv J wr=>∃k:Nat,k<=l.length/\J=.int .i64 k/\Hid (∀x∈l.take k,0<=aV x)/\Hid (wr.ownsRow w.heap.size 3 1 v k ((aS (l.take k)).map (Value.int .i64)))/\aF w wr) (λ_ J _=>l.length-(intOf J).toNat)
 case atStart=>exact⟨0,nz _,rfl,by simp[Hid],World.ownsRow_nil _ _ _ _,br _ _⟩
 case round=>
  obtain⟨k,hk,rfl,z,p,m⟩:=hrel
  by_cases b:k<l.length
  ·have s:(k:Int)<(l.length:Int):=by omega
   rcases O.zL m with h|⟨T,K,E,r⟩
   ·rw[h]at b;simp at b
   subst E;have N:wr.cell? ⟨T,K+k*1,none⟩=some (.string l[k]):=r k b 0 _ rfl;rw[Nat.mul_one]at N;have B:Hid _:=z7 l k b;have L:=aG (lgm b);have M:=aG (List.take_succ_eq_append_getElem b);obtain⟨x,hx⟩:=bP (l[k]);rw[←hx]at N B L M;clear r hx O;go_wp2_with fail
   refine(oR x wr).mono ?_
   rintro e w' ⟨⟨t,rfl⟩|⟨F,rfl⟩,rfl⟩
   ·obtain⟨n,i⟩:=bP (aV x)
    rw[←i]at t B ⊢
    have f:Hid (∀y∈l.take (k+1),0<=aV y):=λy Q=>by
     rw[M.oQ]at Q
     rcases lma.1 Q with h|h
     ·exact z.oQ y h
     ·rw[List.mem_singleton.1 h,←i];exact t
    clear i
    go_wp2_with (at_builtin;refine wpList_append_own _ rfl (.tmp 12) (.tmp 15) 51 rfl w.heap.size 3 W _ 1 8 Tryz.underlying51 U G H I rfl (by decide) _ _ _ rfl (p.oQ.alloc _) ⟨w'.heap.size,0,none⟩ 1 1 [.int .i64 n] rfl rfl ?qc1 ?qc2 ?qc3 ?qc4 ?qc5 ?_)
    case qc1=>
     intro j u o
     match j,o with
     |0,o=>simp at o;subst o;exact aJ (wnq w' _) rfl
     |j+1,o=>simp at o
    case qc2=>first|rfl|(intro u P;simp at P;subst P;rfl)
    case qc3=>unfold maxLen;omega
    case qc4=>omega
    case qc5=>have:=m.size;simp;omega
    intro X R d c _;have D:aF w R:=(aB m _).grown c (by have:=m.size;simp;omega) (λq V=>fB p.oQ V);have A:Hid (R.ownsRow w.heap.size 3 1 X (k+1) ((aS (l.take (k+1))).map (Value.int .i64))):=by rw[Hid,B.oQ,List.map_append];exact d
    clear d c p;go_wp2
    go_roundw
    case rel=>exact⟨k+1,by omega,by go_num,f,A,D⟩
    case measure=>simp[intOf];omega
   ·go_wp2
    exact⟨rfl,.inr ⟨⟨x,L.oQ,F⟩,rfl⟩,m⟩
  ·have s:¬(k:Int)<(l.length:Int):=by omega
   have g:k=l.length:=by omega
   have S:Hid (wr.ownsRow w.heap.size 3 1 u3 l.length ((aS l).map (Value.int .i64))):=by rw[Hid];have:=p.oQ;rw[g,List.take_length]at this;exact this
   have f:Hid (∀x∈l,0<=aV x):=by rw[Hid];have:=z.oQ;rw[g,List.take_length]at this;exact this
   clear g p z;go_wp2
   go_ret;exact⟨.inl ⟨f.oQ,_,rfl,S.oQ⟩,m⟩
theorem I9 (l:List UInt8)(h:l.all pR=true):0<=FF l:=by
 have:∀(l:List UInt8) (n:Int),0<=n->l.all pR=true->0<=l.foldl (λn b=>n*10+(b.toNat:Int)-48) n:=by
  intro l;induction l with
  |nil=>intro n c _;exact c
  |cons b r ih=>
   intro n c a;simp only[List.all_cons,bat,pR,dte]at a;exact ih _ (by show 0<=n*10+(b.toNat:Int)-48;omega) a.2
 exact this l 0 (Int.le_refl _) h
theorem rV (l:List ByteArray)(a:Option Addr)(D:Nat)(w:World)(P:Xs 1 dS w a l)(hn:l.length<=1048576):
 aY 13 #[.slice a l.length D] w λe w'=>(((∀x∈l,0<=aV x)/\∃v,e=.returned (.tuple #[v,.bool true])/\w'.ownsRow w.heap.size 3 1 v l.length ((aS l).map (Value.int .i64)))∨((∃x∈l,aV x=-1)/\∃v,e=.returned (.tuple #[v,.bool false])))/\aF w w':=by
 obtain⟨Z,X,H,I,J⟩:=info_parts Tryz.infoInt;have E:aF w (w.alloc (.cells #[] 3)):=aB (br _ _) _;have A:Hid ((w.alloc (.cells #[] 3)).ownsRow w.heap.size 3 1 (.slice (some ⟨w.heap.size,0,none⟩) 0 0) 0 []):=⟨rfl,Or.inr ⟨w.heap.size,0,#[],rfl,nlq _,wnq w _,nlq _,by unfold maxLen;omega,rfl,rfl⟩⟩
 go_enter Tryz.func13,Tryz.ntmps13
 go_wp2
 go_loopw [4,5] (λv K wr=>∃k:Nat,k<=l.length/\K=.int .i64 k/\Hid (∀x∈l.take k,0<=aV x)/\Hid (wr.ownsRow w.heap.size 3 1 v k ((aS (l.take k)).map (Value.int .i64)))/\aF w wr) (λ_ K _=>l.length-(intOf K).toNat)
 case atStart=>exact⟨0,nz _,rfl,by simp[Hid],A,E⟩
 case round=>
  obtain⟨k,hk,rfl,z,r,o⟩:=hrel
  by_cases b:k<l.length
  ·have t:(k:Int)<(l.length:Int):=by omega
   rcases P.zL o with h|⟨V,L,G,s⟩
   ·rw[h]at b;simp at b
   subst G;have O:wr.cell? ⟨V,L+k*1,none⟩=some (.string l[k]):=s k b 0 _ rfl;rw[Nat.mul_one]at O;have C:Hid _:=z7 l k b;have M:=aG (lgm b);have N:=aG (List.take_succ_eq_append_getElem b);obtain⟨x,hx⟩:=bP (l[k]);rw[←hx]at O C M N;clear s hx P;go_wp2_with fail
   refine(mM x wr).mono ?_;rintro e w' ⟨rfl,rfl⟩;obtain⟨n,f⟩:=bP (aV x);rw[←f]at C ⊢
   by_cases d:0<=n
   ·have W:decide (n<0)=false:=by simp;omega
    have i:Hid (∀y∈l.take (k+1),0<=aV y):=λy R=>by
     rw[N.oQ]at R
     rcases lma.1 R with h|h
     ·exact z.oQ y h
     ·rw[List.mem_singleton.1 h,←f];exact d
    clear f
    go_wp2_with (at_builtin;refine wpList_append_own _ rfl (.tmp 22) (.tmp 24) 51 rfl w.heap.size 3 Z _ 1 8 Tryz.underlying51 X H I J rfl (by decide) _ _ _ rfl (r.oQ.alloc _) ⟨w'.heap.size,0,none⟩ 1 1 [.int .i64 n] rfl rfl ?qc1 ?qc2 ?qc3 ?qc4 ?qc5 ?_)
    case qc1=>
     intro j u p
     match j,p with
     |0,p=>simp at p;subst p;exact aJ (wnq w' _) rfl
     |j+1,p=>simp at p
    case qc2=>first|rfl|(intro u Q;simp at Q;subst Q;rfl)
    case qc3=>unfold maxLen;omega
    case qc4=>omega
    case qc5=>have:=o.size;simp;omega
    intro v' S g c _;have F:aF w S:=(aB o _).grown c (by have:=o.size;simp;omega) (λq Y=>fB r.oQ Y);have B:Hid (S.ownsRow w.heap.size 3 1 v' (k+1) ((aS (l.take (k+1))).map (Value.int .i64))):=by rw[Hid,C.oQ,List.map_append];exact g
    clear g c r;go_wp2
    go_roundw
    case rel=>exact⟨k+1,by omega,by go_num,i,B,F⟩
    case measure=>simp[intOf];omega
   ·have W:decide (n<0)=true:=by simp;omega
    have U:Hid (aV x=-1):=by
     rw[Hid];rw[f]at d;unfold aV at d ⊢
     split at d
     ·rename_i h
      exact absurd (I9 _ (by simp only[bat]at h;exact h.2)) d
     ·rename_i h;rw[if_neg h]
    clear f;go_wp2
    exact bpr (v:=.tuple #[u4,.bool false]) (by simp[results,Tryz.results13,go_sem]) rfl ⟨.inr ⟨⟨x,M.oQ,U.oQ⟩,_,rfl⟩,o⟩
  ·have t:¬(k:Int)<(l.length:Int):=by omega
   have m:k=l.length:=by omega
   have T:Hid (wr.ownsRow w.heap.size 3 1 u4 l.length ((aS l).map (Value.int .i64))):=by rw[Hid];have:=r.oQ;rw[m,List.take_length]at this;exact this
   have i:Hid (∀x∈l,0<=aV x):=by rw[Hid];have:=z.oQ;rw[m,List.take_length]at this;exact this
   clear m r z;go_wp2
   exact bpr (v:=.tuple #[u4,.bool true]) (by simp[results,Tryz.results13,go_sem]) rfl ⟨.inl ⟨i.oQ,_,rfl,T.oQ⟩,o⟩
def WH (d:Nat):ByteArray:=⟨#[UInt8.ofNat (48+d)]⟩
theorem WN (w:World)(p d:Nat)(h:w.heap[p]?=some (.cells #[.int .u8 (48+(d:Int))] 5)):Sem.run Tryz.prog (convert 42 9 (.slice (some ⟨p,0,none⟩) 1 1)) w=.ok (.string (WH d)) w:=by
 have a:∀i,i<1->w.cell? ⟨p,0+i,none⟩=some (.int .u8 ([48+(d:Int)].getD i 0)):=λi hi=>by
  have e:i=0:=by omega
  subst e;exact aJ h rfl
 have e:strOfNums [48+(d:Int)]=WH d:=by
  rw[strOfNums,WH];simp only[List.map_cons,List.map_nil];rw[show(48+(d:Int)).toNat=48+d from by omega]
 rw[run_convert_bytes_arg w 42 5 Tryz.underlying42 Tryz.underlying5 p 0 1 1 [48+(d:Int)] rfl a 9 Tryz.underlying9,e]
theorem OJ (u:Nat):(Lib.decDigits u).length<=u+1:=by
 induction u using Nat.strongRecOn with
 |_ u ih=>
  rw[Lib.decDigits];split;·simp
  ·have:=ih (u/10) (by omega);rw[List.length_append];simp;omega
def D8 (n q r:Nat)(j:Nat)(v:Value)(w:World):Prop:=
 match j with
 |0|3=>v=.int .i64 (n:Int)
 |1=>v=.int .i64 (q:Int)
 |2=>v=.string ⟨(Lib.decDigits q).toArray⟩
 |4=>v=.int .i64 (r:Int)
 |5=>v=.int .i64 (48+(r:Int))
 |6=>v=.int .u8 (48+(r:Int))
 |7=>∃p,v=.slice (some ⟨p,0,none⟩) 1 1/\w.heap[p]?=some (.cells #[.int .u8 (48+(r:Int))] 5)
 |8=>v=.string (WH r)
 |9=>v=.string ⟨(Lib.decDigits n).toArray⟩
 |_=>True
theorem D8.zL {n q r:Nat}(j:Nat)(v:Value)(w w':World)(h:D8 n q r j v w)(c:aF w w'):D8 n q r j v w':=by
 unfold D8 at*;split at h
 all_goals first
  |exact h
  |(obtain⟨p,a,b⟩:=h;exact⟨p,a,bJ b c⟩)
theorem PW:∀(n:Nat) (w:World),n<=9223372036854775807->aY 42 #[.int .i64 (n:Int)] w λe w'=>e=.returned (.string ⟨(Lib.decDigits n).toArray⟩)/\aF w w':=by
 intro n;induction n using Nat.strongRecOn with
 |_ n ih=>
  intro w hn;by_cases f:n<10
  ·have g:(n:Int)<10:=by omega
   have I:Hid _:=Lib.decDigits_one f;go_enter Tryz.func42,Tryz.ntmps42;have H:Hid _:=WN (w.alloc (.cells #[.int .u8 (48+(n:Int))] 5)) w.heap.size n (wnq w _);have s:=H.oQ;go_wp2;go_ret;exact⟨by rw[I.oQ];rfl,aB (br _ _) _⟩
  ·have g:¬(n:Int)<10:=by omega
   obtain⟨q,j⟩:=bP (n/10:Nat);obtain⟨r,k⟩:=bP (n%10:Nat);have hq:((n:Int)/10)=(q:Int):=by omega
   have hr:((n:Int)%10)=(r:Int):=by omega
   have hr9:r<10:=by omega
   have u:q<n:=by omega
   have d:Hid (Value.string (⟨(Lib.decDigits q).toArray⟩++WH r)=Value.string ⟨(Lib.decDigits n).toArray⟩):=by
    have e:Lib.decDigits n=Lib.decDigits q++[UInt8.ofNat (48+r)]:=by rw[Lib.decDigits,dif_neg f,←j,←k]
    rw[Hid,e,WH];congr 1
   have hlen:¬9223372036854775807<(Lib.decDigits q).length+(WH r).size:=by
    have:=OJ q;have e:(WH r).size=1:=rfl;omega
   clear j k;go_enter Tryz.func42,Tryz.ntmps42;go_upto_region 3 with fail;refine pG 10 [some 10,some 11,some 12,some 13,some 14,some 15,some 16,some 17,some 18,some 19] (D8 n q r) D8.zL ?step ?fin
   case step=>
    intro J o b w' t a l c;match J,t with
    |0,_|3,_=>
     simp at a;subst a;simp only[aE,Act.put];gi_wp2;exact⟨_,by simp[aH],rfl,br _ _⟩
    |1,_=>
     simp at a;subst a;have v:b 0=_:=Zq c 0;simp only[aE,Act.put];rw[v];gi_wp2;exact⟨_,by simp[aH,v],rfl,br _ _⟩
    |2,_=>
     simp at a;subst a;have x:b 1=_:=Zq c 1;simp only[aE,Act.put];rw[x];gi_wp2_with fail;refine⟨trivial,rfl,?_⟩;refine(cw.2 (ih q u w' (by omega))).mono ?_;rintro e w5 ⟨rfl,m⟩;gi_wp2;exact⟨_,by simp[aH,x],rfl,m⟩
    |4,_=>
     simp at a;subst a;have z:b 3=_:=Zq c 3;simp only[aE,Act.put];rw[z];gi_wp2;exact⟨_,by simp[aH,z],rfl,br _ _⟩
    |5,_=>
     simp at a;subst a;have A:b 4=_:=Zq c 4;simp only[aE,Act.put];rw[A];gi_wp2;exact⟨_,by simp[aH,A],rfl,br _ _⟩
    |6,_=>
     simp at a;subst a;have B:b 5=_:=Zq c 5;simp only[aE,Act.put];rw[B];gi_wp2;exact⟨_,by simp[aH,B],rfl,br _ _⟩
    |7,_=>
     simp at a;subst a;have C:b 6=_:=Zq c 6;simp only[aE,Act.put];rw[C];gi_wp2;exact⟨_,by simp[aH,C],⟨_,rfl,wnq w' _⟩,aB (br _ _) _⟩
    |8,_=>
     simp at a;subst a;obtain⟨p,D,i⟩:∃p,b 7=.slice (some ⟨p,0,none⟩) 1 1/\_:=Zq c 7;have s:=WN w' p r i;clear c i;simp only[aE,Act.put];rw[D];gi_wp2;exact⟨_,by simp[aH,D],rfl,br _ _⟩
    |9,_=>
     simp at a;subst a;have y:b 2=_:=Zq c 2;have E:b 8=_:=Zq c 8;simp only[aE,Act.put];rw[y,E];gi_wp2;exact⟨_,by simp[aH,y,E],d.oQ,br _ _⟩
    |q+10,h=>exact absurd h (by omega)
   case fin=>
    intro b w8 l i;have F:b 9=.string ⟨(Lib.decDigits n).toArray⟩:=i 9 (by decide);have G:=aG l;clear i l;simp only[lds,List.drop_zero,aE,Act.put];rw[F];clear F;generalize b=b;gi_wp2_with fail;go_wp2;go_ret;exact⟨rfl,G.oQ⟩
def dD (n:Int):ByteArray:=⟨(Lib.decDigits n.toNat).toArray⟩
theorem bG {n:Int}(h:n<=2000000):(dD n).size<=2000001:=by
 have:=OJ n.toNat;show(Lib.decDigits n.toNat).toArray.size<=_;rw[lsz];omega
theorem mR (n:Int)(w:World)(a:0<=n)(h1:n<=9223372036854775807):aY 42 #[.int .i64 n] w λe w'=>e=.returned (.string (dD n))/\aF w w':=by
 obtain⟨k,rfl⟩:=Int.eq_ofNat_of_zero_le a;exact PW k w (by omega)
abbrev UN:ByteArray:=⟨#[99,111,100,101,32]⟩
def iK (c:Int):ByteArray:=UN++dD c
theorem K1 {c:Int}(h:c<=2000000):(iK c).size<=2000006:=by
 have:=bG h;show(UN++dD c).size<=_;rw[ByteArray.size_append];have e:UN.size=5:=rfl;omega
theorem AT (c:Int)(w:World)(a:0<=c)(b:c<=2000000):aY 41 #[.int .i64 c] w λe w'=>e=.returned (.string (iK c))/\aF w w':=by
 have hs:=bG b;go_enter Tryz.func41,Tryz.ntmps41;go_wp2_with fail;refine(mR c w a (by omega)).mono ?_;rintro e w' ⟨rfl,d⟩;have hz:¬9223372036854775807<5+(dD c).size:=by omega
 go_wp2;go_ret;exact⟨rfl,d⟩
def iG:List Bx->ByteArray
 |[]=>⟨#[45]⟩
 |b::r=>dD ((b::r).length:Int)++⟨#[64]⟩++dD b.i++⟨#[45]⟩++dD ((b::r).getLast (by simp)).o
def DT (a:Bx)(z:Bx)(n A Z:Nat)(s0 s1 s2 s3 s4 s5 s6:ByteArray)(va:Value)(j:Nat)(v:Value)(_w:World):Prop:=
 match j with
 |0=>v=va
 |1=>v=.int .i64 (n:Int)
 |2=>v=.string s0
 |3=>v=.string s1
 |4=>v=.pointer (some ⟨A,4,none⟩)
 |5=>v=.int .i64 a.i
 |6=>v=.string s2
 |7=>v=.string s3
 |8=>v=.string s4
 |9=>v=.pointer (some ⟨Z,5,none⟩)
 |10=>v=.int .i64 z.o
 |11=>v=.string s5
 |12=>v=.string s6
 |_=>True
theorem BJ (l:List Bx)(ao:Option Addr)(C:Nat)(w:World)(hX:jJ w ao l)(hn:l.length<=1048576)(U:∀b∈l,0<=b.i/\b.i<=2000000/\0<=b.o/\b.o<=2000000):
 aY 48 #[.slice ao l.length C] w λe w'=>e=.returned (.string (iG l))/\aF w w':=by
 cases l with
 |nil=>
  go_enter Tryz.func48,Tryz.ntmps48;go_wp2;go_ret;exact⟨rfl,br _ _⟩
 |cons b r=>
  obtain⟨l,H⟩:=bP (b::r);have c:l≠[]:=by rw[H];simp
  have B:Hid (iG (b::r)=dD (l.length:Int)++⟨#[64]⟩++dD (l.head c).i++⟨#[45]⟩++dD (l.getLast c).o):=by subst H;rfl
  rw[←H]at hX hn U ⊢;rw[←H]at B;clear H b r;rcases hX with h|⟨bl,zp,rfl,hc⟩;·exact absurd h c
  have I:0<l.length:=List.length_pos_iff.2 c;have ca:=hc 0 I;have D:=hc (l.length-1) (by omega);obtain⟨a,n⟩:=bP (l.head c);obtain⟨z,p⟩:=bP (l.getLast c);have ea:l[0]=a:=by rw[n,List.head_eq_getElem]
  have ez:l[l.length-1]'(by omega)=z:=by rw[p,List.getLast_eq_getElem]
  rw[ea]at ca;rw[ez]at D;obtain⟨zm,ha1,_,_⟩:=U a (by rw[n];exact List.head_mem _);obtain⟨_,_,zo,hz1⟩:=U z (by rw[p];exact List.getLast_mem _);rw[←n,←p]at B;clear n p ea ez c hc U;obtain⟨m,hm⟩:=bP (l.length-1);have hlm:(l.length:Int)-1=(m:Int):=by omega
  have hml:m<l.length:=by omega
  have hne0:((l.length:Int)==0)=false:=by rw[beq_eq_false_iff_ne];omega
  rw[←hm]at D;rw[Nat.zero_mul,Nat.add_zero]at ca;clear hm;obtain⟨t,v⟩:=cK (w.alloc (.cells #[.int .i64 a.x,.int .i64 a.y,.int .i64 a.lo,.int .i64 a.hi,.int .i64 a.i,.int .i64 a.o] 56));have j:aF w t:=by rw[←v];exact aB (br _ _) _
  have HA:Hid (t.heap[w.heap.size]?=some (.cells #[.int .i64 a.x,.int .i64 a.y,.int .i64 a.lo,.int .i64 a.hi,.int .i64 a.i,.int .i64 a.o] 56)):=by rw[Hid,←v];exact wnq w _
  replace D:=D.zL j;obtain⟨za,zb,zc,zd,ze,zf⟩:=ca;obtain⟨zg,zh,zi,zj,zk,zl⟩:=D;go_enter Tryz.func48,Tryz.ntmps48;go_upto_region 5 with fail;obtain⟨A,hA⟩:=bP w.heap.size;obtain⟨N,k⟩:=cK (t.alloc (.cells #[.int .i64 z.x,.int .i64 z.y,.int .i64 z.lo,.int .i64 z.hi,.int .i64 z.i,.int .i64 z.o] 56));have u:aF t N:=by rw[←k];exact aB (br _ _) _
  have kz:N.cell? ⟨t.heap.size,5,none⟩=some (.int .i64 z.o):=aJ (by rw[←k];exact wnq t _) rfl;have ka:N.cell? ⟨A,4,none⟩=some (.int .i64 a.i):=aJ (bJ (by rw[hA];exact HA.oQ) u) rfl;have G:aF w N:=j.trans (u.mono j.size);obtain⟨Z,hZ⟩:=bP t.heap.size;rw[←hZ]at kz;rw[k,←hA,←hZ];have HB:=aG G;clear v k j u hA hZ HA za zb zc zd ze zf zg zh zi zj zk zl G;obtain⟨J,O⟩:∃s,s=dD (l.length:Int):=⟨_,rfl⟩;obtain⟨K,P⟩:∃s,s=J++⟨#[64]⟩:=⟨_,rfl⟩;obtain⟨L,Q⟩:∃s,s=dD a.i:=⟨_,rfl⟩;obtain⟨M,R⟩:∃s,s=K++L:=⟨_,rfl⟩;obtain⟨V,S⟩:∃s,s=M++⟨#[45]⟩:=⟨_,rfl⟩;obtain⟨W,T⟩:∃s,s=dD z.o:=⟨_,rfl⟩;obtain⟨s6,e6⟩:∃s,s=V++W:=⟨_,rfl⟩;have z0:J.size<=2000001:=by rw[O];exact bG (by omega)
  have z2:L.size<=2000001:=by rw[Q];exact bG (by omega)
  have z5:W.size<=2000001:=by rw[T];exact bG (by omega)
  have z1:K.size=J.size+1:=by rw[P,ByteArray.size_append];rfl
  have z3:M.size=K.size+L.size:=by rw[R,ByteArray.size_append]
  have z4:V.size=M.size+1:=by rw[S,ByteArray.size_append];rfl
  have g1:¬9223372036854775807<J.size+1:=by omega
  have g3:¬9223372036854775807<K.size+L.size:=by omega
  have g4:¬9223372036854775807<M.size+1:=by omega
  have g6:¬9223372036854775807<V.size+W.size:=by omega
  rw[←O,←Q,←T]at B;rw[←P,←R,←S,←e6]at B;clear z0 z1 z2 z3 z4 z5;have E0:Hid _:=O;have E2:Hid _:=Q;have E5:Hid _:=T;have e1':=P.symm;have e3':=R.symm;have e4':=S.symm;have e6':=e6.symm;clear O Q T P R S e6;refine pG 13 [some 17,some 18,some 19,some 20,some 21,some 22,some 23,some 24,some 25,some 26,some 27,some 28,some 29] (DT a z l.length A Z J K L M V W s6 (.slice (some ⟨bl,zp,none⟩) l.length C)) (λ_ _ _ _ h _=>h) ?step ?fin
  case step=>
   intro ii o X w' zn g F d;have z0z:=(F.cell (aA ka)).trans ka;have z1z:=(F.cell (aA kz)).trans kz;match ii,zn with
   |1,_|3,_|5,_|7,_|8,_|10,_|12,_=>
    simp at g;subst g;simp[Region.binds,DT]at d;simp only[aE,Act.put,d];gi_wp2;exact⟨_,by simp[aH,d],rfl,br _ _⟩
   |0,_|4,_|9,_=>
    simp at g;subst g;simp only[aE,Act.put];gi_wp2;exact⟨_,by simp[aH],rfl,br _ _⟩
   |2,_=>
    simp at g;subst g;simp[Region.binds,DT]at d;simp only[aE,Act.put,d];gi_wp2_with fail;refine⟨trivial,rfl,?_⟩;refine(cw.2 (mR (l.length:Int) w' (by omega) (by omega))).mono ?_;rintro e w5 ⟨rfl,f⟩;rw[←E0.out];gi_wp2;exact⟨_,by simp[aH,d],rfl,f⟩
   |6,_=>
    simp at g;subst g;simp[Region.binds,DT]at d;simp only[aE,Act.put,d];gi_wp2_with fail;refine⟨trivial,rfl,?_⟩;refine(cw.2 (mR a.i w' zm (by omega))).mono ?_;rintro e w5 ⟨rfl,f⟩;rw[←E2.out];gi_wp2;exact⟨_,by simp[aH,d],rfl,f⟩
   |11,_=>
    simp at g;subst g;simp[Region.binds,DT]at d;simp only[aE,Act.put,d];gi_wp2_with fail;refine⟨trivial,rfl,?_⟩;refine(cw.2 (mR z.o w' zo (by omega))).mono ?_;rintro e w5 ⟨rfl,f⟩;rw[←E5.out];gi_wp2;exact⟨_,by simp[aH,d],rfl,f⟩
   |q+13,h=>exact absurd h (by omega)
  case fin=>
   intro X w8 F hp;have E:X 12=.string s6:=hp 12 (by decide);have Y:=aG F;clear hp F;simp only[lds,List.drop_zero,aE,Act.put];rw[E];clear E;generalize X=X;gi_wp2_with fail;go_wp2;go_ret;exact⟨by rw[B.oQ];rfl,aC HB.oQ Y.oQ⟩
def jG (l:List ByteArray):Bool:=l.all λx=>decide (0<=aV x)
theorem o9 {l:List ByteArray}(h:∀x∈l,0<=aV x):jG l=true:=by simpa[jG]using h
theorem qO {l:List ByteArray}(h:∃x∈l,aV x=-1):jG l=false:=by
 obtain⟨x,hx,h⟩:=h;cases e:jG l with
 |false=>rfl
 |true=>
  have:=lat.1 e x hx;rw[h]at this;simp at this
def iM (o:Option (List (List Cx)))(s:ByteArray):Option (List (List Cx)):=
 o.bind λcs=>if s.toList=[47]then some (cs++[[]])else
  (match bH 44 s with|[x,y]=>if jG [x,y]then some (cs.dropLast++[cs.getLastD []++[⟨aV x,aV y⟩]])else none|_=>none)
def fI (l:List ByteArray):Option (List (List Cx)):=l.foldl iM (some [[]])
theorem KP (l:List ByteArray):l.foldl iM none=none:=by
 induction l with
 |nil=>rfl
 |cons a r ih=>rw[List.foldl_cons];exact ih
theorem BF (l:List ByteArray)(k:Nat)(h:k<l.length):fI (l.take (k+1))=iM (fI (l.take k)) l[k]:=by
 rw[fI,fI,List.take_succ_eq_append_getElem h,List.foldl_append];rfl
theorem wM {l:List ByteArray}{k:Nat}(h:fI (l.take k)=none):fI l=none:=by
 have:l=l.take k++l.drop k:=(List.take_append_drop k l).symm;rw[this,fI,List.foldl_append];show(l.drop k).foldl iM (fI (l.take k))=none;rw[h,KP]
theorem OE {a:List (List Cx)}{s:ByteArray}(h:s.toList=[47]):iM (some a) s=some (a++[[]]):=by simp[iM,h]
theorem KG {a:List (List Cx)}{s x y:ByteArray}(h:¬s.toList=[47])(b:bH 44 s=[x,y])(c:jG [x,y]=true):iM (some a) s=some (a.dropLast++[a.getLastD []++[⟨aV x,aV y⟩]]):=by simp[iM,h,b,c]
theorem FX {b:List (List Cx)}{s:ByteArray}(h:¬s.toList=[47])(a:jG (bH 44 s)=false∨¬(bH 44 s).length=2):iM (some b) s=none:=by
 simp only[iM,Option.bind_some,if_neg h];split
 ·rename_i x y e;rw[e]at a;rcases a with a|a;·simp[a]
  ·simp at a
 ·rfl
theorem NM {α:Type}(f:α->Value):∀l:List α,l.map f=aI (λa=>[f a]) l
 |[]=>rfl
 |a::r=>by rw[List.map_cons,NM f r];rfl
theorem q9 {w:World}{z:Nat}{v:Value}{l:List ByteArray}(h:w.ownsRow z 9 1 v l.length (l.map Value.string)):∃a c,v=.slice a l.length c/\Xs 1 dS w a l:=by
 have e:l.map Value.string=aI dS l:=NM _ l;rw[e]at h;obtain⟨a,c,b,d,_⟩:=nI JA h;exact⟨a,c,b,d⟩
theorem LK (l:List Int):l.map (Value.int .i64)=aI eW l:=NM _ l
theorem pC {w:World}{z:Nat}{v:Value}{l:List Int}{n:Nat}(e:n=l.length)(h:w.ownsRow z 3 1 v n (l.map (Value.int .i64))):∃a c,v=.slice a l.length c/\Xs 1 eW w a l:=by
 subst e;rw[LK]at h;obtain⟨a,c,b,d,_⟩:=nI (c:=eW) (sz:=1) (λ_=>rfl) h;exact⟨a,c,b,d⟩
theorem eC (l:List ByteArray):(aS l).length=l.length:=List.length_map _
theorem i6 {w w':World}{base e sz:Nat}{v:Value}{m:Nat}{xs:List Value}(h:w.ownsRow base e sz v m xs)(n:∀(k:Nat)(i:Array Value),base<=k->w.heap[k]?=some (.cells i e)->w'.heap[k]?=w.heap[k]?):w'.ownsRow base e sz v m xs:=by
 obtain⟨c,h|⟨g,b,a,j,d,f,l⟩⟩:=h;·exact⟨c,.inl h⟩
 ·exact⟨c,.inr ⟨g,b,a,j,d,(n g a d f).trans f,l⟩⟩
theorem VY {w:World}{base e g n a j:Nat}{xs:List Value}(h:w.ownsRow base e 1 (.slice (some ⟨g,0,none⟩) n a) n xs)(u:Value):(w.setCell ⟨g,j,none⟩ u).ownsRow base e 1 (.slice (some ⟨g,0,none⟩) n a) n (xs.set j u):=by
 obtain⟨c,⟨h,_⟩|⟨g',cap',b,d,f,i,k,l,m,o⟩⟩:=h;·cases h
 ·cases d;refine⟨by rw[List.length_set];exact c,.inr ⟨g,a,b.setIfInBounds j u,rfl,f,aO i j u,k,l,by simpa using m,?_⟩⟩;rw[Array.toList_setIfInBounds,List.take_set,o]
def ZS (B:Nat)(w w':World):Prop:=∀k cs,k<B->w.heap[k]?=some (.cells cs 120)->w'.heap[k]?=w.heap[k]?
structure DV (B0:Nat)(v:Value)(cs:List (List Cx))(w:World)(dn:List Yx)(y:Yx)(B:Nat):Prop where
 eq:dn.map Yx.l++[y.l]=cs
 out:w.ownsRow B0 118 1 v (dn.length+1) (aI Yx.cells (dn++[y]))
 lo:B0<=B
 hi:B<=w.heap.size
 dw:∀w',ZS B w w'->∀x∈dn,x.In w'
 dc:∀x∈dn,x.l.length<=x.c/\x.c<=9223372036854775807
 yo:w.ownsRow B 120 2 (.slice y.a y.l.length y.c) y.l.length (aI Cx.cells y.l)
theorem WD (l:List Yx):aI Yx.cells l=l.map λy=>.slice y.a y.l.length y.c:=(NM _ l).symm
theorem DV.zL {d:Nat}{v:Value}{f:List (List Cx)}{w w':World}{g:List Yx}{y:Yx}{B:Nat}(h:DV d v f w g y B)(a:aF w w'):DV d v f w' g y B:=
 ⟨h.eq,eO h.out a,h.lo,Nat.le_trans h.hi a.size,λl i x hx=>h.dw l (λk c j b=>by
  have e:=a.block k (bU b);rw[←e]at b ⊢;exact i k c j b) x hx,h.dc,eO h.yo a⟩
theorem vD {w:World}{base e sz:Nat}{a:Option Addr}{n c:Nat}{xs:List Value}(h:w.ownsRow base e sz (.slice a n c) n xs):n<=c/\c<=9223372036854775807:=by
 obtain⟨h0,⟨h,_⟩|⟨g',cap',cur,b,h2,h3,d,f,h6,h7⟩⟩:=h;·cases h;exact⟨nlq _,nz _⟩
 ·cases b;exact⟨d,f⟩
theorem FT {w:World}{B:Nat}{y:Yx}(h:w.ownsRow B 120 2 (.slice y.a y.l.length y.c) y.l.length (aI Cx.cells y.l)){w':World}(f:∀(k:Nat)(b:Array Value),w.heap[k]?=some (.cells b 120)->w'.heap[k]?=w.heap[k]?):y.In w':=by
 obtain⟨a,c,e,hx,_⟩:=nI Cx.cells_length (i6 h (λk b _ d=>f k b d));cases e;exact hx
theorem qZ {w w':World}{v:Value}{base e sz m:Nat}{xs:List Value}(h:w.ownsRow base e sz v m xs)(i:w.grownBy w' v.ownBlock){k t:Nat}{f:Array Value}(d:w.heap[k]?=some (.cells f t))(j:t≠e):w'.heap[k]?=w.heap[k]?:=by
 have b:=(bU d);refine i.block k b (λa=>?_);obtain⟨_,⟨l,_⟩|⟨g',cap',cur,g,h2,c,_⟩⟩:=h;·subst l;simp[Value.ownBlock]at a
 ·subst g;simp[Value.ownBlock]at a;subst a;rw[d]at c;cases c;exact j rfl
theorem DV.next {B0:Nat} {v v':Value} {cs:List (List Cx)} {w w':World} {dn:List Yx} {y:Yx} {B:Nat} (h:DV B0 v cs w dn y B) (ho:w'.ownsRow B0 118 1 v' (dn.length+1+1) (aI Yx.cells (dn++[y])++[.slice none 0 0])) (hg:w.grownBy w' v.ownBlock):
 DV B0 v' (cs++[[]]) w' (dn++[y]) ⟨none,[],0⟩ w'.heap.size:=by
 have hk:∀(k:Nat) (c:Array Value),w.heap[k]?=some (.cells c 120)->w'.heap[k]?=w.heap[k]?:=fun k c hc=>qZ h.out hg hc (by decide);have hs:w.heap.size<=w'.heap.size:=by have:=hg.size;omega
 have hk2:∀w2,ZS w'.heap.size w' w2->∀(k:Nat) (c:Array Value),w.heap[k]?=some (.cells c 120)->w2.heap[k]?=w.heap[k]?:=fun w2 h2 k c hc=>by
  have e:=hk k c hc;rw[←e];exact h2 k c (by have:=(bU hc);omega) (e.trans hc)
 refine⟨by rw[←h.eq];simp,?_,by have:=h.lo;have:=h.hi;omega,nlq _,fun w2 h2 x hx=>?_,fun x hx=>?_,⟨rfl,.inl ⟨rfl,rfl⟩⟩⟩
 · have e:aI Yx.cells (dn++[y]++[⟨none,[],0⟩])=aI Yx.cells (dn++[y])++[.slice none 0 0]:=by rw[gB,rK];rfl
   rw[e,List.length_append];exact ho
 · rcases lma.1 hx with hx|hx
   · exact h.dw w2 (fun k c _ hc=>hk2 w2 h2 k c hc) x hx
   · rw[List.mem_singleton.1 hx]
     exact FT h.yo (hk2 w2 h2)
 · rcases lma.1 hx with hx|hx
   · exact h.dc x hx
   · rw[List.mem_singleton.1 hx]
     exact vD h.yo
theorem DV.cell {C O n b:Nat} {z:Value} {v:List (List Cx)} {w i:World} {f:List Yx} {y:Yx} {B:Nat} (c:Cx) (h:DV C (.slice (some ⟨O,0,none⟩) n b) v w f y B)
 (K:i.ownsRow B 120 2 z (y.l.length+1) (aI Cx.cells y.l++c.cells)) (E:w.grownBy i (Value.slice y.a y.l.length y.c).ownBlock):
 ∃A,z=.slice A.a A.l.length A.c/\DV C (.slice (some ⟨O,0,none⟩) n b) (v.dropLast++[v.getLastD []++[c]]) (i.setCell ⟨O,f.length,none⟩ z) f A B:=by
 obtain⟨o,p,rfl⟩:∃o p,z=.slice o (y.l.length+1) p:=by
  obtain⟨_,⟨_,h⟩|⟨g,b,d,h,_⟩⟩:=K;·omega
  ·exact⟨_,_,h⟩
 have P:n=f.length+1:=by
  obtain⟨_,⟨h',J⟩|⟨g,b,d,h',_⟩⟩:=h.out;·omega
  ·cases h';rfl
 subst P;have u:(y.l++[c]).length=y.l.length+1:=by simp
 have s:i.ownsRow C 118 1 (.slice (some ⟨O,0,none⟩) (f.length+1) b) (f.length+1) (aI Yx.cells (f++[y])):=i6 h.out (λk v _ m=>qZ h.yo E m (by decide))
 have I:∃d,i.heap[O]?=some (.cells d 118):=by
  obtain⟨_,⟨h',_⟩|⟨g,b,d,h',_,M,_⟩⟩:=s;·cases h'
  ·cases h';exact⟨d,M⟩
 obtain⟨d,t⟩:=I
 have q:∀(k:Nat) (r:Array Value),i.heap[k]?=some (.cells r 120)->(i.setCell ⟨O,f.length,none⟩ (.slice o (y.l.length+1) p)).heap[k]?=i.heap[k]?:=λk r m=>Below.heap_setCell _ _ _ _ (λe=>by
  have D:k=O:=e;rw[D,t]at m;cases m)
 have hs:w.heap.size<=i.heap.size:=by have:=E.size;omega
 have H:(i.setCell ⟨O,f.length,none⟩ (.slice o (y.l.length+1) p)).heap.size=i.heap.size:=by simp[World.setCell]
 refine⟨⟨o,y.l++[c],p⟩,by simp,?_,?_,h.lo,by rw[H];have:=h.hi;omega,λQ J x hx=>h.dw Q (λk r N m=>?_) x hx,h.dc,?_⟩;·rw[←h.eq];simp
 ·have:=VY s (j:=f.length) (.slice o (y.l.length+1) p)
  have e:(aI Yx.cells (f++[y])).set f.length (.slice o (y.l.length+1) p)=aI Yx.cells (f++[⟨o,y.l++[c],p⟩]):=by
   rw[WD,WD,List.map_append,List.map_append,List.set_append_right _ _ (by simp)];simp
  rw[e]at this;exact this
 ·have G:i.heap[k]?=w.heap[k]?:=by
   have F:=(bU m);refine E.block k F (λD=>?_);have:=(h.yo.lt k D.symm).1;omega
  rw[←G]at m ⊢;have L:=q k r m;rw[←L]at m ⊢;exact J k r N m
 ·have:i.ownsRow B 120 2 (.slice o (y.l++[c]).length p) (y.l++[c]).length (aI Cx.cells (y.l++[c])):=by
   rw[gB,rK,u];exact K
  exact i6 this (λk r _ m=>q k r m)
structure SJ (B0:Nat)(w:World)(v:Value)(cs:List (List Cx)):Prop where
 e:∃wa wl wc,v=.slice wa wl.length wc/\wl.map Yx.l=cs/\Xs 1 Yx.cells w wa wl/\∀y∈wl,y.In w/\y.l.length<=y.c/\y.c<=9223372036854775807
theorem DV.done {f:Nat}{v:Value}{g:List (List Cx)}{w:World}{d:List Yx}{y:Yx}{B:Nat}(h:DV f v g w d y B):SJ f w v g:=by
 have i:=h.out;rw[show d.length+1=(d++[y]).length by simp]at i;obtain⟨a,c,e,hx,_⟩:=nI Yx.cells_length i;refine⟨a,d++[y],c,e,by rw[←h.eq];simp,hx,λx b=>?_⟩;rcases lma.1 b with b|b;·exact⟨h.dw w (λ_ _ _ _=>rfl) x b,h.dc x b⟩
 ·rw[List.mem_singleton.1 b];exact⟨FT h.yo (λ_ _ _=>rfl),vD h.yo⟩
theorem EF {w w':World}{p:Nat}(a:w'.heap[p]?=some (.cells #[.slice none 0 0] 118))(b:w.heap.size<=p):DV w.heap.size (.slice (some ⟨p,0,none⟩) 1 1) [[]] w' [] ⟨none,[],0⟩ w'.heap.size:=by
 have hlt:=(bU a);exact⟨rfl,⟨rfl,.inr ⟨p,1,_,rfl,b,a,nlq _,by unfold maxLen;omega,rfl,rfl⟩⟩,by omega,nlq _,(λ_ _ x hx=>by cases hx),(λx hx=>by cases hx),⟨rfl,.inl ⟨rfl,rfl⟩⟩⟩
set_option maxHeartbeats 8000000
def KV (O n cap k:Nat)(y:Yx)(g off cn:Nat)(n0 n1:Int)(j:Nat)(vs:Nat->Value)(w:World):Prop:=
 match j with
 |0=>vs 0=.slice (some ⟨O,0,none⟩) n cap
 |1=>vs 1=.int .i64 (k:Int)
 |2=>vs 2=.slice (some ⟨O,0,none⟩) n cap
 |3=>vs 3=.int .i64 (k:Int)
 |4=>vs 4=.pointer (some ⟨O,k,none⟩)
 |5=>vs 5=.pointer (some ⟨O,k,none⟩)
 |6=>vs 6=.slice y.a y.l.length y.c
 |7=>vs 7=.slice (some ⟨g,off,none⟩) 2 cn
 |8=>vs 8=.pointer (some ⟨g,off,none⟩)
 |9=>vs 9=.int .i64 n0
 |10=>vs 10=.slice (some ⟨g,off,none⟩) 2 cn
 |11=>vs 11=.pointer (some ⟨g,off+1,none⟩)
 |12=>vs 12=.int .i64 n1
 |13=>vs 13=.agg #[.int .i64 n0,.int .i64 n1]
 |14=>∃p,vs 14=.slice (some ⟨p,0,none⟩) 1 1/\w.heap[p]?=some (.cells #[.int .i64 n0,.int .i64 n1] 120)
 |_=>True
theorem KV.zL {O n a k:Nat}{y:Yx}{g b c:Nat}{d e:Int}(j:Nat)(f:Nat->Value)(w w':World)(h:KV O n a k y g b c d e j f w)(m:aF w w'):KV O n a k y g b c d e j f w':=by
 unfold KV at*;split at h
 all_goals first
  |exact h
  |(obtain⟨p,i,l⟩:=h;exact⟨p,i,bJ l m⟩)
def UI (j:Nat):List Nat:=[j]
def KM (j:Nat):Bool:=j==0||j==1
theorem KV.loc {O n b k:Nat}{y:Yx}{g c f:Nat}{i l:Int}(j:Nat)(d a:Nat->Value)(w:World)(m:∀q∈UI j,d q=a q)(h:KV O n b k y g c f i l j d w):KV O n b k y g c f i l j a w:=by
 have e:d j=a j:=m j (by simp[UI]);unfold KV at*;split at h
 all_goals first
  |(rw[←e];exact h)
  |trivial
def WJ (O n cap k:Nat)(j:Nat)(v:Value):Prop:=
 match j with
 |0=>v=.slice (some ⟨O,0,none⟩) n cap
 |1=>v=.int .i64 (k:Int)
 |_=>True
theorem KV.free {O n a k:Nat}{y:Yx}{g b e:Nat}{f i:Int}(j:Nat)(d:Nat->Value)(w:World)(c:KM j=true)(h:KV O n a k y g b e f i j d w):WJ O n a k j (d j):=by
 simp[KM]at c;rcases c with rfl|rfl<;>exact h
structure ZL (W:World)(O k:Nat)(y:Yx)(B:Nat)(c:Cx)(t:Nat)(vs:Nat->Value)(w':World):Prop where
 a:t=15->aF W w'/\vs 6=.slice y.a y.l.length y.c/\∃p,vs 14=.slice (some ⟨p,0,none⟩) 1 1/\w'.heap[p]?=some (.cells #[.int .i64 c.x,.int .i64 c.y] 120)
 b:16<=t->∃w0,aF W w0/\w'.ownsRow B 120 2 (vs 15) (y.l.length+1) (aI Cx.cells y.l++c.cells)/\w0.grownBy w' (Value.slice y.a y.l.length y.c).ownBlock
 c:17<=t->vs 16=.pointer (some ⟨O,k,none⟩)
 d:18<=t->vs 17=.pointer (some ⟨O,k,none⟩)
theorem sH (c:Int)(s:ByteArray):∀(m f i:Nat),s.size-i=m->(fE c s f i).length<=m+1
 |m,f,i,h=>by
  by_cases a:i<s.size
  ·by_cases b:(s[i].toNat:Int)=c
   ·rw[lF a b,llc];have:=sH c s (s.size-(i+1)) (i+1) (i+1) rfl;omega
   ·rw[jY a b];have:=sH c s (s.size-(i+1)) f (i+1) rfl;omega
  ·rw[lA a];simp
 termination_by m => m
theorem KA {w:World}{base e sz n a b:Nat}{d:Option Addr}{v:Value}{xs:List Value}(h:w.ownsRow base e sz v n xs)(c:v=.slice d a b):a=n:=by
 obtain⟨_,⟨rfl,rfl⟩|⟨g,cap,cur,rfl,_⟩⟩:=h;·cases c;rfl
 ·cases c;rfl
theorem kP (c:Int)(s:ByteArray):(bH c s).length<=s.size+1:=sH c s _ 0 0 rfl
theorem LE (l:List ByteArray)(a:Option Addr)(Y:Nat)(w:World)(hX:Xs 1 dS w a l)(hn:l.length<=1048576)(hs:∀x∈l,x.size<=1048575):
 aY 39 #[.slice a l.length Y] w λe w'=>((∃M,fI l=some M/\∃v,e=.returned (.tuple #[v,.bool true])/\SJ w.heap.size w' v M)∨(fI l=none/\∃v,e=.returned (.tuple #[v,.bool false])))/\aF w w':=by
 obtain⟨iw,yq,yr,ys,yt⟩:=info_parts Tryz.info118;obtain⟨ic,yp,yl,ym,yn⟩:=info_parts Tryz.info120;have yi:aF w (w.alloc (.cells #[.slice none 0 0] 118)):=aB (br _ _) _;have yd:Hid _:=EF (wnq w (.cells #[.slice none 0 0] 118)) (nlq _)
 go_enter Tryz.func39,Tryz.ntmps39
 go_wp2
 go_loopw [4,5] (λv iv wr=>∃(k:Nat) (M:List (List Cx)) (H:List Yx) (y:Yx) (B:Nat),k<=l.length/\iv=.int .i64 k/\Hid (fI (l.take k)=some M)/\Hid (DV w.heap.size v M wr H y B)/\Hid (H.length<=k/\y.l.length<=k)/\aF w wr) (λ_ iv _=>l.length-(intOf iv).toNat)
 case atStart=>exact⟨0,[[]],[],⟨none,[],0⟩,_,nz _,rfl,rfl,yd.oQ,⟨nlq _,nlq _⟩,yi⟩
 case round=>
  obtain⟨k,M,H,y,B,hk,rfl,HC,HO,HL,hN⟩:=hrel
  by_cases Q:k<l.length
  ·have zv:(k:Int)<(l.length:Int):=by omega
   rcases hX.zL hN with h|⟨bl,U,yk,zs⟩
   ·rw[h]at Q;simp at Q
   subst yk;have c0:wr.cell? ⟨bl,U+k*1,none⟩=some (.string l[k]):=zs k Q 0 _ rfl;rw[Nat.mul_one]at c0;have HS:Hid _:=BF l k Q;rw[HC.oQ]at HS;have yv:=hs _ (lgm Q);obtain⟨x,hx⟩:=bP (l[k]);rw[←hx]at c0 HS yv;clear zs hx hX HC
   by_cases T:x.toList=[47]
   ·have X:=aG (HS.oQ.trans (OE T))
    clear HS;have z:Hid _:=HO.oQ.zL (aB (br _ wr) (.cells #[.slice none 0 0] 118));clear HO
    go_wp2_with (at_builtin;refine wpList_append_own _ rfl (.tmp 22) (.tmp 24) 76 rfl w.heap.size 118 iw _ 1 24 Tryz.underlying76 yq yr ys yt rfl (by decide) _ _ _ rfl z.oQ.out ⟨wr.heap.size,0,none⟩ 1 1 [.slice none 0 0] rfl rfl ?qc1 ?qc2 ?qc3 ?qc4 ?qc5 ?_)
    case qc1=>
     intro j u hj
     match j,hj with
     |0,hj=>simp at hj;subst hj;exact aJ (wnq wr _) rfl
     |j+1,hj=>simp at hj
    case qc2=>first|rfl|(intro u hu;simp at hu;subst hu;rfl)
    case qc3=>have:=HL.oQ;unfold maxLen;omega
    case qc4=>have:=HL.oQ;omega
    case qc5=>have:=hN.size;simp;omega
    intro v' w4 S D _;have ye:=aG (z.oQ.next S D);have yj:aF w w4:=(aB hN _).grown D (by have:=hN.size;simp;omega) (λq hq=>fB z.oQ.out hq);clear S D z;go_wp2
    go_roundw
    case rel=>exact⟨k+1,M++[[]],H++[y],⟨none,[],0⟩,_,by omega,by go_num,X,ye,⟨by have:=HL.oQ;simp;omega,nz _⟩,yj⟩
    case measure=>simp[intOf];omega
   ·have hsl2:(x.toList==[47])=false:=by simp[T]
    go_wp2_with fail
    refine(rI x 44 wr (by omega)).mono ?_;rintro e w1 ⟨⟨v1,rfl,zw⟩,zi⟩;obtain⟨a1,c1,rfl,zm⟩:=q9 zw;have zd:=kP 44 x;have V:Hid _:=aC hN zi;have z:Hid _:=HO.oQ.zL zi;clear HO hN zw zi;obtain⟨q,hq⟩:=bP (bH 44 x);rw[←hq]at zm zd ⊢;have HQ:=aG hq;clear hq;go_wp2_with fail
    refine(rV q a1 c1 w1 zm (by omega)).mono ?_
    rintro e w2 ⟨⟨zy,v2,rfl,zx⟩|⟨zb,v2,rfl⟩,N⟩
    ·obtain⟨a2,c2,rfl,yu⟩:=pC (eC q).symm zx
     rw[eC]at*;have W:Hid _:=aC V.oQ N;have F:Hid _:=z.oQ.zL N;clear z V N zx
     by_cases h2:q.length=2
     ·obtain⟨s0,s1,rfl⟩:∃s0 s1,q=[s0,s1]:=by
       match q,h2 with
       |[s0,s1],_=>exact⟨s0,s1,rfl⟩
      have X:=aG (HS.oQ.trans (KG T HQ.oQ.symm (o9 zy)))
      rcases yu with h|⟨g,U,rfl,zj⟩
      ·cases h
      have zn:w2.cell? ⟨g,U,none⟩=some (.int .i64 (aV s0)):=by have:=zj 0 (by simp[aS]) 0 _ rfl;simpa[aS]using this
      have zo:w2.cell? ⟨g,U+1,none⟩=some (.int .i64 (aV s1)):=by have:=zj 1 (by simp[aS]) 0 _ rfl;simpa[aS]using this
      obtain⟨n0,e0⟩:∃n,n=aV s0:=⟨_,rfl⟩;obtain⟨n1,e1⟩:∃n,n=aV s1:=⟨_,rfl⟩;rw[←e0,←e1]at X;rw[←e0]at zn;rw[←e1]at zo;clear e0 e1 zj zy h2 HS HQ zd zm
      obtain⟨O,L,rfl⟩:∃O c,u4=.slice (some ⟨O,0,none⟩) (H.length+1) c:=by
       obtain⟨_,⟨_,e⟩|⟨g,Y,_,e,_⟩⟩:=F.oQ.out
       ·omega
       ·exact⟨g,Y,e⟩
      have yf:Hid (∃G,w2.heap[O]?=some (.cells G 118)):=by
       obtain⟨_,⟨e,_⟩|⟨g,Y,G,e,_,e2,_⟩⟩:=F.oQ.out
       ·cases e
       ·cases e;exact⟨G,e2⟩
      have ko:w2.cell? ⟨O,H.length,none⟩=some (.slice y.a y.l.length y.c):=by
       have hx:Xs 1 Yx.cells w2 (some ⟨O,0,none⟩) (H++[y]):=by
        have r:=F.oQ.out;rw[show H.length+1=(H++[y]).length by simp]at r;obtain⟨a,c,e,hx,_⟩:=nI Yx.cells_length r
        cases e
        exact hx
       rcases hx with h|⟨bb,oo,e,hc⟩
       ·simp at h
       ·cases e
        have:=hc H.length (by simp) 0 _ rfl
        simpa using this
      obtain⟨m,hm⟩:=bP H.length;have HM:=aG hm;rw[←hm]at ko ⊢;clear hm;have K:Hid (m<=k/\y.l.length<=k):=by rw[Hid,HM.oQ];exact HL.oQ
      clear HL;have hmk:m<=1048576:=by have:=K.oQ;omega
      have hm1:((m+1:Nat):Int)-1=(m:Int):=by omega
      go_upto_region 11 with fail
      refine SZ 6 15 18 [some 46,some 47,some 48,some 49,some 50,some 51,some 52,some 53,some 54,some 55,some 56,some 57,some 58,some 59,some 60,some 61,some 62,some 63] KM UI (KV O (m+1) L m y g U c2 n0 n1) (WJ O (m+1) L m) (ZL w2 O m y B ⟨n0,n1⟩) KV.zL KV.loc KV.free ?step ?free ?g0 ?gf ?store ?fin
      case step=>
       intro ii o J w' zu r A I;have z0z:=(A.cell (aA zn)).trans zn;have z1z:=(A.cell (aA zo)).trans zo;have z2z:=(A.cell (aA ko)).trans ko
       match ii,zu with
       |4,_|5,_|6,_|8,_|9,_|11,_|12,_|13,_=>
        simp at r;subst r
        simp[Region.binds,KV]at I
        simp only[aE,Act.put,I];gi_wp2;exact⟨_,by simp[aH,I],rfl,br _ _⟩
       |0,_|1,_|2,_|3,_|7,_|10,_=>
        simp at r;subst r;simp only[aE,Act.put];gi_wp2;exact⟨_,by simp[aH],rfl,br _ _⟩
       |14,_=>
        simp at r;subst r
        simp[Region.binds,KV]at I
        simp only[aE,Act.put,I];gi_wp2;exact⟨_,by simp[aH,I],⟨_,rfl,wnq w' _⟩,aB (br _ _) _⟩
       |q+15,h=>exact absurd h (by omega)
      case free=>
       intro i o J w' t zu zk r ht htM s I
       have zl:i=0∨i=1:=by
        simp[KM]at zk;omega
       clear s
       rcases zl with rfl|rfl
       ·simp at r
        subst r;simp only[aE,Act.put];gi_wp2;exact⟨_,by simp[aH],rfl⟩
       ·simp at r
        subst r;simp only[aE,Act.put];gi_wp2;exact⟨_,by simp[aH],rfl⟩
      case g0=>
       intro J w' A hp;exact⟨λ_=>⟨A,hp 6 (by decide) rfl,hp 14 (by decide) rfl⟩,λh=>absurd h (by decide),λh=>absurd h (by decide),λh=>absurd h (by decide)⟩
      case gf=>
       intro t J w' i v zk s
       have zl:i=0∨i=1:=by
        simp[KM]at zk;omega
       rcases zl with rfl|rfl<;>exact⟨s.a,s.b,s.c,s.d⟩
      case store=>
       intro t o J w' h12 h15 r s I;have ht:t=15∨t=16∨t=17:=by omega
       rcases ht with rfl|rfl|rfl
       ·simp at r
        subst r;obtain⟨A,d6,p,zp,hp⟩:=s.a rfl;have HY:Hid _:=F.oQ.zL A;have zz:=aG A
        have R:∀j u,((⟨n0,n1⟩:Cx).cells)[j]?=some u->w'.cell? ((⟨p,0,none⟩:Addr).add j)=some u:=λj u h=>by
         rw[Addr.add_lit,Nat.zero_add]
         match j,h with
         |0,h=>simp[Cx.cells]at h;subst h;exact aJ hp rfl
         |1,h=>simp[Cx.cells]at h;subst h;exact aJ hp rfl
        have ze:∀u∈(⟨n0,n1⟩:Cx).cells,u.oneCell'=true:=λu hu=>by
         simp[Cx.cells]at hu
         rcases hu with rfl|rfl<;>rfl
        clear s I A;simp only[aE,Act.put,List.setIfInBounds_toArray,List.set_cons_succ,List.set_cons_zero];rw[d6,zp];refine wpListIn_append_own w' rfl (.tmp 52) (.tmp 60) 116 rfl B 120 ic _ 2 16 Tryz.underlying116 yp yl ym yn rfl (by decide) (.slice y.a y.l.length y.c) y.l.length (aI Cx.cells y.l) rfl HY.oQ.yo ⟨p,0,none⟩ 1 1 (⟨n0,n1⟩:Cx).cells rfl rfl R ze (by have:=K.oQ;unfold maxLen;omega) (by have:=K.oQ;omega) HY.oQ.hi (λv1 w1 f C _=>?_);have ya:=aG f;have yb:=aG C;clear f C R ze;gi_wp2;exact⟨v1,by simp[aH,d6,zp],λh=>absurd h (by decide),λ_=>⟨w',zz.oQ,ya.oQ,yb.oQ⟩,λh=>absurd h (by decide),λh=>absurd h (by decide)⟩
       ·simp at r
        subst r;have d0:J 0=_:=I (eD 0) (by simp) rfl (by decide) rfl;have d1:J 1=_:=I (eD 1) (by simp) rfl (by decide) rfl;have zf:Hid (∃w0,aF w2 w0/\w'.ownsRow B 120 2 (J 15) (y.l.length+1) (aI Cx.cells y.l++(⟨n0,n1⟩:Cx).cells)/\w0.grownBy w' (Value.slice y.a y.l.length y.c).ownBlock):=s.b (by decide);clear s I;simp only[aE,Act.put];rw[d0,d1];gi_wp2;exact⟨_,by simp[aH,d0,d1],λh=>absurd h (by decide),λ_=>zf.oQ,λ_=>rfl,λh=>absurd h (by decide)⟩
       ·simp at r
        subst r;have zg:=s.c (by decide);have zf:Hid (∃w0,aF w2 w0/\w'.ownsRow B 120 2 (J 15) (y.l.length+1) (aI Cx.cells y.l++(⟨n0,n1⟩:Cx).cells)/\w0.grownBy w' (Value.slice y.a y.l.length y.c).ownBlock):=s.b (by decide);clear s I;simp only[aE,Act.put];rw[zg];gi_wp2;exact⟨_,by simp[aH,zg],λh=>absurd h (by decide),λ_=>zf.oQ,λ_=>zg,λ_=>rfl⟩
      case fin=>
       intro J w' s hp;have zq:=s.d (by decide);obtain⟨w0,A,f,C⟩:=s.b (by decide);have HY:Hid _:=F.oQ.zL A;obtain⟨v1,Z⟩:=bP (J 15);rw[←Z]at f;have zt:=DV.cell ⟨n0,n1⟩ HY.oQ f C;rw[←HM.oQ]at zt;obtain⟨y',za,zh⟩:=zt;obtain⟨G,zc⟩:=yf.oQ;have E:w0.heap[O]?=some (.cells G 118):=bJ zc A;have P:w'.heap[O]?=some (.cells G 118):=(qZ HY.oQ.yo C E (by decide)).trans E
       have hk2:w'.cell? ⟨O,m,none⟩=some (.slice y.a y.l.length y.c):=by
        have h1:w0.cell? ⟨O,m,none⟩=some (.slice y.a y.l.length y.c):=(A.cell (aA ko)).trans ko;unfold World.cell? at h1 ⊢;rw[E]at h1;rw[P];exact h1
       have hkf:=iQ P
       have yh:Hid (y'.l.length<=k+1):=by
        have h3:=KA f za;have:=K.oQ;rw[Hid];omega
       rw[Z]at za
       have yg:Hid (DV w.heap.size (.slice (some ⟨O,0,none⟩) (m+1) L) (M.dropLast++[M.getLastD []++[⟨n0,n1⟩]]) (w'.setCell ⟨O,m,none⟩ (.slice y'.a y'.l.length y'.c)) H y' B):=by
        rw[Z,za]at zh;exact zh
       have yc:Hid (aF w (w'.setCell ⟨O,m,none⟩ (.slice y'.a y'.l.length y'.c))):=by
        have zr:w.heap.size<=O:=fB F.oQ.out rfl;have h1:=aC W.oQ A;have h2:aF w w':=h1.grown C h1.size (λq hq=>by have:=fB HY.oQ.yo hq;have:=HY.oQ.lo;omega);exact h2.setCell zr _
       simp only[lds,List.drop_zero,aE,Act.put];rw[zq,za];clear hp s A f C zh zc E P HY Z zq;generalize J=J;gi_wp2_with fail
       go_wp2
       go_roundw
       case rel=>exact⟨k+1,_,H,y',B,by omega,by go_num,X,yg.oQ,⟨by have:=K.oQ;have:=HM.oQ;omega,yh.oQ⟩,yc.oQ⟩
       case measure=>simp[intOf];omega
     ·have HZ:Hid (fI l=none):=wM (HS.oQ.trans (FX T (.inr (by rw[←HQ.oQ];exact h2))))
      have h2':((q.length:Int) !=2)=true:=by simp;omega
      go_wp2
      exact bpr (v:=.tuple #[u4,.bool false]) (by simp[results,Tryz.results39,go_sem]) rfl ⟨.inr ⟨HZ.oQ,_,rfl⟩,W.oQ⟩
    ·have HZ:Hid (fI l=none):=wM (HS.oQ.trans (FX T (.inl (by rw[←HQ.oQ];exact qO zb))))
     have W:Hid _:=aC V.oQ N;clear N V zb;go_wp2
     exact bpr (v:=.tuple #[u4,.bool false]) (by simp[results,Tryz.results39,go_sem]) rfl ⟨.inr ⟨HZ.oQ,_,rfl⟩,W.oQ⟩
  ·have zv:¬(k:Int)<(l.length:Int):=by omega
   have HZ:Hid (fI l=some M):=by rw[Hid];have:=HC.oQ;rw[ltl (by omega)]at this;exact this
   clear HC;go_wp2
   exact bpr (v:=.tuple #[u4,.bool true]) (by simp[results,Tryz.results39,go_sem]) rfl ⟨.inl ⟨M,HZ.oQ,_,rfl,HO.oQ.done⟩,hN⟩
end Go.Proofs.YtcdbcliaepcpfaaGreatDoor
namespace Go.Proofs.YtcdbcliaepcpfaaGreatDoor
set_option maxRecDepth 100000
set_option maxHeartbeats 4000000
open Go.RowKit
theorem QX (l:List Sp)(s:Sp)(d:Int):dO (l++[⟨s.lo,d⟩])=(dO (l++[s])).set (l.length*2+1) (.int .i64 d):=by
 rw[dG,dG,List.set_append_right _ _ (by rw[g9];omega),g9,show l.length*2+1-l.length*2=1 by omega];rfl
theorem EO (b:Bk)(nm:ByteArray)(t:List Bx)(ta:Option Addr)(tc:Nat)(n:Int)(w:World)(ha:pU w b t ta):
 aY 50 #[b.val,.string nm,.slice ta t.length tc,.int .i64 n] w λe w'=>(∃v l,e=.returned v/\kW w' w.heap.size v l/\eL b nm t n l)/\aF w w':=by
 obtain⟨i0,hi,za,zb,zc⟩:=info_parts Tryz.info98;have F:aF w ((w.alloc (.cells #[.int .i64 b.now,.slice b.fa b.fl.length b.fc,.slice b.ha b.hl.length b.hc] 30)).alloc (.cells #[] 98)):=aB (aB (br _ _) _) _;have J:=(halq (w.alloc (.cells #[.int .i64 b.now,.slice b.fa b.fl.length b.fc,.slice b.ha b.hl.length b.hc] 30)) (.cells #[] 98) w.heap.size (by simp)).trans (wnq w _)
 have O0:((w.alloc (.cells #[.int .i64 b.now,.slice b.fa b.fl.length b.fc,.slice b.ha b.hl.length b.hc] 30)).alloc (.cells #[] 98)).ownsRow (w.heap.size+1) 98 2 (.slice (some ⟨w.heap.size+1,0,none⟩) 0 0) 0 []:=by
  simpa using World.ownsRow_lit (base:=w.heap.size+1) (e:=98) (size:=2) (w.alloc (.cells #[.int .i64 b.now,.slice b.fa b.fl.length b.fc,.slice b.ha b.hl.length b.hc] 30)) #[] 0 (by simp) (nz _) rfl
 obtain⟨v1,S⟩:∃v,dA b t n=v:=⟨_,rfl⟩;have k0:=aW (j:=0) J rfl;have k1:=aW (j:=1) J rfl;have k2:=aW (j:=2) J rfl
 go_enter Tryz.func50,Tryz.ntmps50
 go_wp2_with fail
 obtain⟨W0,U⟩:=cK ((w.alloc (.cells #[.int .i64 b.now,.slice b.fa b.fl.length b.fc,.slice b.ha b.hl.length b.hc] 30)).alloc (.cells #[] 98));rw[U]at F J O0 ⊢;clear k0 k1 k2 U;refine(sE b t ta tc n _ (ha.zL F)).mono ?_;rintro e w1 ⟨rfl,G⟩;rw[S];have N1:=aC F G;have D:=(G.block _ (bU J)).trans J;have O1:=eO O0 G;clear J F G O0
 cases v1 with
 |false=>
  go_wp2
  go_ret;exact⟨⟨_,[],rfl,(kW.of_owns (l:=[]) O1).weak (by omega),eL.no S⟩,N1⟩
 |true=>
 have HA:=aG S;simp only[dA,bat,dte]at S;obtain⟨⟨m0,m1⟩,zg,Y⟩:=S;go_wp2
 go_loopw [9,10] (λv i wr=>∃(d:Int) (l:List Sp),0<=d/\d<=n+1/\i=.int .i64 d/\wr.ownsRow (w.heap.size+1) 98 2 v l.length (dO l)/\aF w wr/\wr.heap[w.heap.size]?=some (.cells #[.int .i64 b.now,.slice b.fa b.fl.length b.fc,.slice b.ha b.hl.length b.hc] 30)/\Hid (sP (kU b nm t) l d)) (λ_ i _=>(n+1-intOf i).toNat)
 case atStart=>exact⟨0,[],Int.le_refl _,by omega,rfl,O1,N1,D,UP _⟩
 case round=>
  clear O1 N1 D;obtain⟨d,l,I,hd1,rfl,C,hN,D,y⟩:=hrel;have zh:l.length<=301:=y.out.len (by omega)
  by_cases hlt:d<=n
  ·have k0:wr.cell? ⟨w.heap.size,0,none⟩=some (.int .i64 b.now):=aW D rfl
   have k1:wr.cell? ⟨w.heap.size,1,none⟩=some (.slice b.fa b.fl.length b.fc):=aW D rfl;have k2:wr.cell? ⟨w.heap.size,2,none⟩=some (.slice b.ha b.hl.length b.hc):=aW D rfl;obtain⟨v2,T⟩:∃v,CE b nm t d=v:=⟨_,rfl⟩;have z:=yQ (nm:=nm) zg Y I;go_wp2_with fail
   refine(DE b nm t ta tc d _ (ha.zL hN) Y I (by omega)).mono ?_;rintro e P ⟨rfl,H⟩;rw[T];have A:=aC hN H;have K:=(H.block _ (bU D)).trans D;have x:=eO C H;clear k0 k1 k2 D hN C H
   cases v2 with
   |true=>
    have W:¬kU b nm t d:=λh=>by rw[z.1 h]at T;cases T
    have L:=aG (y.out.pass W);clear z W y;go_wp2
    go_roundw
    case rel=>exact⟨d+1,l,by omega,by omega,by go_num,x,A,K,L⟩
    case measure=>simp[intOf];omega
   |false=>
    have V:kU b nm t d:=z.2 T;have HD:=aG V;clear z V T;have X:=(bU K)
    rcases List.eq_nil_or_concat l with hl|⟨r,s,hl⟩
    ·subst hl
     have L:Hid (sP (kU b nm t) ([]++[⟨d,d⟩]) (d+1)):=y.out.new I HD.oQ (by simp);clear y
     have hv:∃ao E,u9=.slice ao 0 E:=by
      rcases x.2 with⟨hv,_⟩|⟨g,E,_,hv,_⟩
      ·exact⟨_,_,hv⟩
      ·exact⟨_,_,hv⟩
     obtain⟨ao,E,rfl⟩:=hv
     go_wp2_with (at_builtin;refine wpList_append_own_at _ rfl (.tmp 50) (.tmp 54) 95 rfl (w.heap.size+1) 98 i0 _ 2 16 Tryz.underlying95 hi za zb zc rfl (by decide) _ _ _ rfl (x.alloc _) ⟨P.heap.size,0,none⟩ 1 1 (Sp.cells ⟨d,d⟩) rfl rfl ?qc1 ?qc2 ?qc3 ?qc4 ?qc5 ?_)
     case qc1=>first|exact λ_ _ h=>h|exact GF _ _ rfl ⟨d,d⟩
     case qc2=>intro u Z;simp[Sp.cells]at Z;rcases Z with rfl|rfl<;>rfl
     case qc3=>unfold maxLen;simp
     case qc4=>simp
     case qc5=>simp;omega
     intro v' w3 q f _ M;have B:aF w w3:=(aB A _).grown f (by simp;omega) (λk e=>by have:=tS x k e;omega);have R:=(f.block w.heap.size (by simp;omega) (λe=>by have:=tS x _ e.symm;omega)).trans ((halq P (Sp.obj2 ⟨d,d⟩) w.heap.size X).trans K);have Q:w3.ownsRow (w.heap.size+1) 98 2 v' ([]++[(⟨d,d⟩:Sp)]).length (dO ([]++[⟨d,d⟩])):=by simpa[dO]using q
     clear x q f M A K;go_wp2
     go_roundw
     case rel=>exact⟨d+1,_,by omega,by omega,by go_num,Q,B,R,L⟩
     case measure=>simp[intOf];omega
    ·rw[List.concat_eq_append]at hl
     subst hl;have o:(r++[s]).length=r.length+1:=by simp
     have hl1:r.length+1<=301:=by rw[←o];exact zh
     rcases x.2 with⟨_,h0⟩|⟨g,E,cur,rfl,hbg,_,hnc,_⟩
     ·rw[o]at h0;omega
     have cH:=x.cellAt (r.length*2+1) (by rw[o];omega)
     have O:(dO (r++[s]))[r.length*2+1]?=some (.int .i64 s.hi):=by
      rw[dG,List.getElem?_append_right (by rw[g9];omega),g9,show r.length*2+1-r.length*2=1 by omega];rfl
     rw[O]at cH;have fr:=λj=>x.frozenAt j;have hgz:g<P.heap.size:=aA cH;have hw1:((r.length+1:Nat):Int)-1=(r.length:Int):=by omega
     rw[o]
     by_cases N:s.hi=d-1
     ·have L:=aG (y.out.grow N HD.oQ)
      have Q:=x.stored (r.length*2+1) (.int .i64 d);rw[←QX,o]at Q;have B:aF w (P.setCell ⟨g,r.length*2+1,none⟩ (.int .i64 d)):=A.setCell (p:=⟨g,r.length*2+1,none⟩) (by show w.heap.size<=g;omega) _;have R:=(Below.heap_setCell P ⟨g,r.length*2+1,none⟩ (.int .i64 d) w.heap.size (by show w.heap.size≠g;omega)).trans K;rw[N]at cH;clear y O;go_wp2
      go_roundw
      case rel=>exact⟨d+1,r++[⟨s.lo,d⟩],by omega,by omega,by go_num,by simpa using Q.1,B,R,L⟩
      case measure=>simp[intOf];omega
     ·have hsb:=y.out.b s (by simp)
      have L:Hid (sP (kU b nm t) (r++[s]++[⟨d,d⟩]) (d+1)):=y.out.new I HD.oQ (λa ha=>by
       obtain⟨_,hn,zf⟩:=y.out.c.snoc
       rcases lma.1 ha with g|g
       ·have:=zf a g;unfold kF at this;omega
       ·simp at g;subst g;omega)
      have hne:(s.hi==d-1)=false:=by simpa using N
      rw[o]at x;clear y O
      go_wp2_with (at_builtin;refine wpList_append_own_at _ rfl (.tmp 50) (.tmp 54) 95 rfl (w.heap.size+1) 98 i0 _ 2 16 Tryz.underlying95 hi za zb zc rfl (by decide) _ _ _ rfl (x.alloc _) ⟨P.heap.size,0,none⟩ 1 1 (Sp.cells ⟨d,d⟩) rfl rfl ?qc1 ?qc2 ?qc3 ?qc4 ?qc5 ?_)
      case qc1=>first|exact λ_ _ h=>h|exact GF _ _ rfl ⟨d,d⟩
      case qc2=>intro u Z;simp[Sp.cells]at Z;rcases Z with rfl|rfl<;>rfl
      case qc3=>unfold maxLen;omega
      case qc4=>omega
      case qc5=>simp;omega
      intro v' w3 q f _ M;have B:aF w w3:=(aB A _).grown f (by simp;omega) (λk e=>by have:=tS x k e;omega);have R:=(f.block w.heap.size (by simp;omega) (λe=>by have:=tS x _ e.symm;omega)).trans ((halq P (Sp.obj2 ⟨d,d⟩) w.heap.size X).trans K)
      have Q:w3.ownsRow (w.heap.size+1) 98 2 v' (r++[s]++[(⟨d,d⟩:Sp)]).length (dO (r++[s]++[⟨d,d⟩])):=by
       rw[dG (r++[s]),List.length_append,o]
       simpa[dO]using q
      clear x q f M A K cH;go_wp2
      go_roundw
      case rel=>exact⟨d+1,_,by omega,by omega,by go_num,Q,B,R,L⟩
      case measure=>simp[intOf];omega
  ·have hde:d=n+1:=by omega
   go_wp2
   go_ret;have zd:eL b nm t n l:=eL.yes HA.oQ ⟨y.out.c,λs hs=>by have:=y.out.b s hs;omega⟩ (λe e0 e1=>y.out.m e e0 (by omega));have ze:=(kW.of_owns C).weak (base':=w.heap.size) (by omega);exact⟨⟨_,rfl,_,ze,zd⟩,hN⟩
theorem TK {l m:List Hx}(h:aU l m){F:Hx->Prop}(hF:∀a b:Hx,a.Like b->(F a↔F b)):(∃x∈l,F x)↔∃x∈m,F x:=by
 constructor
 ·rintro⟨x,hx,d⟩;obtain⟨i,e,rfl⟩:=lgo hx;have c:i<m.length:=by have:=h.len;omega
  exact⟨m[i],lgm c,(hF _ _ (h.like i e)).1 d⟩
 ·rintro⟨x,hx,d⟩;obtain⟨i,e,rfl⟩:=lgo hx;have c:i<l.length:=by have:=h.len;omega
  exact⟨l[i],lgm c,(hF _ _ (h.like i c)).2 d⟩
end Go.Proofs.YtcdbcliaepcpfaaGreatDoor
