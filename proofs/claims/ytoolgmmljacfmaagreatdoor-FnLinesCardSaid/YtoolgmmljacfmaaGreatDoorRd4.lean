import Derived.Maps.AppendAt
import Derived.Test.YtoolgmmljacfmaaGreatDoorRd
import Derived.Test.YtoolgmmljacfmaaGreatDoorBehind
set_option maxRecDepth 100000
set_option maxHeartbeats 2000000
open List renaming length → ln
open Go.Proofs.Tryz Go.RowKit
namespace Go.Proofs.YtoolgmmljacfmaaGreatDoor
open Go.BigFrame
variable {w w' a:Wd}{R l s n:Nat}{e:TypeId}{v:Va}{xs:List Va}{c:Option Nat}{k b m d p:Int}
def FO:List Fx->List Value
 |[]=>[]
 |f::r=>f.cells++FO r
theorem wE (h:w.ownsRow l e s v n xs)(i:aZ R w w')(hR:R<l):w'.ownsRow l e s v n xs:=by
 obtain⟨c,f|⟨g,a,b,k,j,d,r⟩⟩:=h;·exact⟨c,Or.inl f⟩
 ·exact⟨c,Or.inr ⟨g,a,b,k,j,(i.block g (cE d) om).trans d,r⟩⟩
theorem aZ.grown (h:aZ R a w)(e:w.grownBy w' c)(f:∀k,c=some k->a.heap.size<=k):aZ R a w':=by
 have b:Below a.heap.size w w':=(br _ w).grown e (by have:=h.size;omega) f;exact⟨b.os.trans h.os,b.tape.trans h.tape,b.output.trans h.output,nlt h.size b.size,λk d g=>(b.block k d).trans (h.block k d g)⟩
theorem flds2 (ha:0<=k/\k<=3)(hb:0<=b/\b<=3)(hc:6<=m/\m<=8)(hd:5<=d/\d<=7):bU [⟨⟨#[104,111,109,101]⟩,k,b⟩,⟨⟨#[111,117,116]⟩,m,d⟩]=true:=by
 have f:cO ⟨#[104,111,109,101]⟩=true:=by decide+kernel
 have g:cO ⟨#[111,117,116]⟩=true:=by decide+kernel
 have e:gE ⟨#[104,111,109,101]⟩ ⟨#[111,117,116]⟩=true:=by decide+kernel
 simp[bU,bX,kR,jH,jJ,iW,zS,gW,f,g,e];omega
theorem flds3 (ha:0<=k/\k<=3)(hb:0<=b/\b<=3)(hc:6<=m/\m<=8)(hd:5<=d/\d<=7)(he:0<=p/\p<=15):bU [⟨⟨#[104,111,109,101]⟩,k,b⟩,⟨⟨#[111,117,116]⟩,m,d⟩,⟨⟨#[122,117,108,117]⟩,15,p⟩]=true:=by
 have h:cO ⟨#[104,111,109,101]⟩=true:=by decide+kernel
 have i:cO ⟨#[111,117,116]⟩=true:=by decide+kernel
 have j:cO ⟨#[122,117,108,117]⟩=true:=by decide+kernel
 have f:gE ⟨#[104,111,109,101]⟩ ⟨#[111,117,116]⟩=true:=by decide+kernel
 have g:gE ⟨#[111,117,116]⟩ ⟨#[122,117,108,117]⟩=true:=by decide+kernel
 simp[bU,bX,kR,jH,jJ,iW,zS,gW,h,i,j,f,g];omega
theorem NV (R n a:Nat)(i:Oa)(p:Int)(w:Wd)(h:Rd w R i n a p)(hp:p<=999000):
 aW 8 #[E R 0] w λe w'=>(∃v l,e=rt v/\w'.ownsRow w.heap.size 34 3 v (ln l) (FO l)/\2<=ln l/\(ln l)<=3/\(∀f∈l,f.n.size<=4/\0<=f.x/\f.x<=15/\0<=f.y/\f.y<=15)/\bU l=true)/\
  (∃p',p'<=p+6/\Rd w' R i n a p')/\aZ R w w':=by
 obtain⟨i0,hi,X,Z,za⟩:=info_parts Tryz.info34
 go_enter Tryz.func8,Tryz.ntmps8
 go_wp2_with fail
 refine(bP R n a i _ _ _ h om om).mono ?_;rintro e w1 ⟨⟨J,rfl,r10,z,-⟩,h1,B1⟩
 replace z:=z om
 go_wp2_with fail
 refine(bP R n a i _ _ _ h1 om om).mono ?_;rintro e w2 ⟨⟨K,rfl,r20,A,-⟩,h2,B2⟩
 replace A:=A om
 go_wp2_with fail
 refine(bP R n a i _ _ _ h2 om om).mono ?_;rintro e w3 ⟨⟨L,rfl,r30,B,-⟩,h3,B3⟩
 replace B:=B om
 go_wp2_with fail
 refine(bP R n a i _ _ _ h3 om om).mono ?_;rintro e q ⟨⟨M,rfl,r40,C,-⟩,U,B4⟩
 replace C:=C om
 have S:aZ R w q:=((B1.trans B2).trans B3).trans B4;clear B1 B2 B3 B4 h1 h2 h3;have t:=h.lt;obtain⟨G,c⟩:=bQ (⟨⟨#[104,111,109,101]⟩,1+J,1+K⟩:Fx);obtain⟨H,d⟩:=bQ (⟨⟨#[111,117,116]⟩,6+L,5+M⟩:Fx)
 have O4:(q.alloc (.cells #[.string ⟨#[104,111,109,101]⟩,I (1+J),I (1+K),.string ⟨#[111,117,116]⟩,I (6+L),I (5+M)] 34)).ownsRow w.heap.size 34 3 (sl q.heap.size 0 2 2) 2 (FO [G,H]):=by
  refine⟨rfl,Or.inr ⟨q.heap.size,2,_,rfl,S.size,wnq _ _,om,by unfold maxLen;omega,rfl,?_⟩⟩;rw[c,d];rfl
 have hl:∀f∈[G,H],f.n.size<=4/\0<=f.x/\f.x<=15/\0<=f.y/\f.y<=15:=by
  intro f m;simp only[lmc,List.not_mem_nil,or_false]at m
  rcases m with rfl|rfl
  ·rw[c];refine⟨by show 4<=4;omega,?_⟩;dsimp only;omega
  ·rw[d];refine⟨by show 3<=4;omega,?_⟩;dsimp only;omega
 have r:=S.trans (aZ.below (R:=R) ((br _ q).alloc (nlq _) (.cells #[.string ⟨#[104,111,109,101]⟩,I (1+J),I (1+K),.string ⟨#[111,117,116]⟩,I (6+L),I (5+M)] 34)));have s:=U.zL ((br _ q).alloc (by have:=U.lt;omega) (.cells #[.string ⟨#[104,111,109,101]⟩,I (1+J),I (1+K),.string ⟨#[111,117,116]⟩,I (6+L),I (5+M)] 34));go_wp2_with fail
 refine(bP R n a i _ _ _ s om om).mono ?_;rintro e w5 ⟨⟨r5,rfl,r50,D,-⟩,V,N⟩
 replace D:=D om
 have T:=r.trans N;have P:=wE O4 N t;clear S r U s N O4
 by_cases hr:r5=0
 ·go_wp2_with fail
  refine(bP R n a i _ _ _ V om om).mono ?_;rintro e w6 ⟨⟨r6,rfl,r60,F,-⟩,h6,O⟩
  replace F:=F om
  have T6:=T.trans O;have Q:=wE P O t;clear T V O P;obtain⟨fc,o⟩:=bQ (⟨⟨#[122,117,108,117]⟩,15,r6⟩:Fx);have hw6:=T6.size
  go_wp2_with (at_builtin;refine wpList_append_own_at _ rfl (.tmp 22) (.tmp 26) 28 rfl w.heap.size 34 i0 _ 3 32 Tryz.underlying28 hi X Z za rfl dz _ _ _ rfl (Q.alloc _) (ya w6 0) 1 1 [.string ⟨#[122,117,108,117]⟩,I 15,I r6] rfl rfl ?qc1 ?qc2 ?qc3 ?qc4 ?qc5 ?_)
  case qc1=>
   intro j u b
   match j,b with
   |0,b=>simp at b;subst b;simp[Addr.add]
   |1,b=>simp at b;subst b;simp[Addr.add]
   |2,b=>simp at b;subst b;simp[Addr.add]
   |n+3,b=>simp at b
  case qc2=>intro u hu;simp at hu;rcases hu with rfl|rfl|rfl<;>rfl
  case qc3=>unfold maxLen;omega
  case qc4=>omega
  case qc5=>simp;omega
  intro v' w7 O7 g _ _;have T7:aZ R w w7:=(T6.trans (aZ.below ((br _ w6).alloc (nlq _) _))).grown g (λk W=>eH Q W);have H7:Rd w7 R i n a _:=h6.zL (((br (R+1) w6).alloc om _).grown g so (λk W=>by have:=eH Q W;omega));go_wp2
  go_ret;refine⟨⟨v',[G,H,fc],rfl,?_,sm,sm,?_,by rw[c,d,o];exact flds3 om om om om om⟩,⟨_,?_,H7⟩,T7⟩
  ·rw[c,d,o];exact O7
  ·intro f m
   rcases lma.1 (show f∈[G,H]++[fc]from m)with m|m
   ·exact hl f m
   ·rw[lms.1 m,o];refine⟨by show 4<=4;omega,?_⟩;dsimp only;omega
  ·omega
 ·go_wp2
  go_ret;exact⟨⟨_,_,rfl,P,sm,sm,hl,by rw[c,d];exact flds2 om om om om⟩,⟨_,om,V⟩,T⟩
def sgn (n:Int):Int:=if n<0 then-1 else if 0<n then 1 else 0
theorem WV (n:Int):-1<=sgn n/\sgn n<=1:=by unfold sgn;split;omega;split<;>omega
theorem J6 (n:Int)(w:Wd):
 aW 96 #[I n] w λe w'=>e=rt (I (sgn n))/\w'=w:=by
 by_cases h0:n<0
 ·go_enter func96,ntmps96;go_wp2;go_ret;exact⟨mC (by unfold sgn;rw[if_pos om]),rfl⟩
 ·by_cases h1:0<n
  ·go_enter func96,ntmps96;go_wp2;go_ret;exact⟨mC (by unfold sgn;rw[if_neg om,if_pos om]),rfl⟩
  ·go_enter func96,ntmps96;go_wp2;go_ret;exact⟨mC (by unfold sgn;rw[if_neg om,if_neg om]),rfl⟩
theorem WG (f:Fx)(w:Wd):
 aW 55 #[f.val] w λe w'=>e=rt (.agg #[I f.x,I f.y])/\aG w w':=by
 go_enter func55,ntmps55;go_wp2;refine bpr (v:=.agg #[I f.x,I f.y]) (by simp[results,go_sem]) rfl ⟨rfl,aC (aC (br _ _) _) _⟩
theorem QU (R n a:Nat)(d:Oa)(p:Int)(w:Wd)(h:Rd w R d n a p)(hp:p<=999999)(b m c:Nat)(s:Nat->Ba)(g:R≠b)(h1:1<=m)(h2:m<=1000)(k:∀i,i<m->w.cell? (Y b i)=some (.string (s i))):
 aW 15 #[E R 0,.slice (some (Y b 0)) m c] w λe w'=>(∃i,i<m/\e=rt (.string (s i)))/\Rd w' R d n a (p+1)/\aZ R w w':=by
 go_enter func15,ntmps15;go_wp2_with fail;refine(bP R n a d _ _ _ h om om).mono ?_;rintro e w1 ⟨⟨r,rfl,l,f,-⟩,j,B⟩;replace f:=f om;obtain⟨i,rfl⟩:=ieo l;have hc:=B.cell (p:=(Y b i)) (Ne.symm g) (k i om);go_wp2;go_ret;exact⟨⟨i,om,rfl⟩,j,B⟩
