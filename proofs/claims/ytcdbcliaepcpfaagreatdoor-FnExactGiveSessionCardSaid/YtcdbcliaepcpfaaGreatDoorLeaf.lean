import Derived.WalkSpells
import Derived.WalkLawsBesides
import Derived.BigGuardPart
import Derived.Test.YtcdbcliaepcpfaaGreatDoorSq
namespace Go.Proofs.YtcdbcliaepcpfaaGreatDoor
set_option maxRecDepth 100000
set_option maxHeartbeats 800000
open Go.RowKit
theorem oG (x y:Int)(w:World):
 aY 171 #[.int .i64 x,.int .i64 y] w λe w'=>e=.returned (.bool (iD x y))/\w'=w:=by
 go_enter Tryz.func171,Tryz.ntmps171
 go_wp2
 all_goals go_ret
 all_goals refine⟨aD ?_,rfl⟩
 all_goals (rw[Bool.eq_iff_iff];simp only[iD,dte,Bool.false_eq_true,false_iff];omega)
theorem dV (n b a:Int)(w:World):
 aY 49 #[.int .i64 n,.int .i64 b,.int .i64 a] w λe w'=>e=.returned (.bool (fO n b a))/\w'=w:=by
 go_enter Tryz.func49,Tryz.ntmps49
 go_wp2
 all_goals go_ret
 all_goals refine⟨aD ?_,rfl⟩
 all_goals (rw[Bool.eq_iff_iff];simp only[fO,dte,Bool.false_eq_true,false_iff];omega)
theorem rF (b:Bx)(w:World):
 aY 178 #[b.val] w λe w'=>e=.returned (.bool (aK b))/\aF w w':=by
 go_enter Tryz.func178,Tryz.ntmps178
 go_wp2_with (go_at_call 171;refine(oG _ _ _).mono ?_;rintro e w' ⟨rfl,rfl⟩)
 all_goals go_ret
 all_goals refine⟨aD ?_,(br _ _).alloc (nlq _) _⟩
 all_goals (rw[Bool.eq_iff_iff];simp only[iD,aK,dte,decide_eq_false_iff_not,Bool.false_eq_true,false_iff]at*;omega)
theorem nG (b:Bx)(w:World):
 aY 81 #[b.val] w λe w'=>e=.returned (.bool (aK b))/\aF w w':=by
 go_enter Tryz.func81,Tryz.ntmps81
 go_wp2_with (go_at_call 49;refine(dV _ _ _ _).mono ?_;rintro e w' ⟨rfl,rfl⟩)
 all_goals go_ret
 all_goals refine⟨aD ?_,(br _ _).alloc (nlq _) _⟩
 all_goals (rw[Bool.eq_iff_iff];simp only[fO,aK,dte,decide_eq_false_iff_not,Bool.false_eq_true,false_iff]at*;omega)
theorem CO (a b:Bx)(w:World):
 aY 229 #[a.val,b.val] w λe w'=>e=.returned (.bool (pO a b))/\aF w w':=by
 go_enter Tryz.func229,Tryz.ntmps229
 go_wp2
 all_goals go_ret
 all_goals refine⟨aD ?_,((br _ _).alloc (nlq _) _).alloc (by simp) _⟩
 all_goals (rw[Bool.eq_iff_iff];simp only[pO,dte,Bool.false_eq_true,false_iff];omega)
theorem kG (a b:Bx)(w:World):
 aY 220 #[a.val,b.val] w λe w'=>e=.returned (.bool (jS a b))/\aF w w':=by
 go_enter Tryz.func220,Tryz.ntmps220
 go_wp2
 all_goals go_ret
 all_goals refine⟨aD ?_,((br _ _).alloc (nlq _) _).alloc (by simp) _⟩
 all_goals (rw[Bool.eq_iff_iff];simp only[jS,dte,Bool.false_eq_true,false_iff];omega)
theorem kX (a b:Int)(w:World)(h1:0<=a)(h2:a<16)(h3:0<=b)(h4:b<16):
 aY 252 #[.int .i64 a,.int .i64 b] w λe w'=>e=.returned (.int .i64 (max (a-b) (b-a)))/\w'=w:=by
 go_enter Tryz.func252,Tryz.ntmps252
 go_wp2
 all_goals go_ret
 all_goals exact⟨oO (by omega),rfl⟩
theorem sD (a b:Bx)(w:World)(ha:aK a=true)(c:aK b=true):
 aY 221 #[a.val,b.val] w λe w'=>e=.returned (.bool (lL a b))/\aF w w':=by
 simp only[aK,dte]at ha c;obtain⟨a1,a2,a3,a4,_⟩:=ha;obtain⟨b1,b2,b3,b4,_⟩:=c
 go_enter Tryz.func221,Tryz.ntmps221
 go_wp2_with (go_at_call 252;refine(kX _ _ _ (by assumption) (by assumption) (by assumption) (by assumption)).mono ?_;rintro e w' ⟨rfl,rfl⟩)
 all_goals go_ret
 all_goals refine⟨aD ?_,((br _ _).alloc (nlq _) _).alloc (by simp) _⟩
 all_goals (rw[Bool.eq_iff_iff];simp only[lL,dte,Bool.false_eq_true,false_iff];omega)
set_option maxHeartbeats 1000000
def oB (c:Int):Bool:=decide ((97<=c/\c<=122)∨(48<=c/\c<=57)∨c=45)
def nD (l:List UInt8):Bool:=l.all λc=>oB (c.toNat:Int)
def xF (n:Nat):Bool:=decide (1<=n/\n<=8)
def cS (s:ByteArray):Bool:=xF s.size&&nD s.data.toList
theorem vZ (s:ByteArray)(k:Nat)(h:k<s.size):s.data.toList.take (k+1)=s.data.toList.take k++[s[k]]:=by
 rw[List.take_succ_eq_append_getElem (by simpa using h)];rfl
theorem JK (l:List UInt8)(c:UInt8):nD (l++[c])=(nD l&&oB (c.toNat:Int)):=by simp[nD,List.all_append]
theorem xI (s:ByteArray)(k:Nat)(h:k<s.size)(v:Bool)(a:oB (s[k].toNat:Int)=v):nD (s.data.toList.take (k+1))=(nD (s.data.toList.take k)&&v):=by
 rw[vZ s k h,JK,a]
theorem DY (s:ByteArray)(k:Nat)(h:k<s.size)(a:oB (s[k].toNat:Int)=false):nD s.data.toList=false:=by
 rw[Bool.eq_false_iff];intro ha
 have:=lat.1 ha s[k] (by
  have:s[k]=s.data.toList[k]'(by simpa using h):=rfl;rw[this];exact lgm _)
 rw[a]at this;cases this
theorem EY (c:Int)(w:World):
 aY 225 #[.int .u8 c] w λe w'=>e=.returned (.bool (oB c))/\w'=w:=by
 go_enter Tryz.func225,Tryz.ntmps225
 go_wp2
 all_goals go_ret
 all_goals refine⟨aD ?_,rfl⟩
 all_goals first
  |(rw[Bool.eq_iff_iff];simp only[oB,beq_iff_eq,dte];omega)
  |(rw[eq_comm,oB,dte];omega)
theorem sG (s:ByteArray)(w:World)(hs:s.size<=9223372036854775807):
 aY 169 #[.string s] w λe w'=>e=.returned (.bool (cS s))/\w'=w:=by
 obtain⟨V,j⟩:=bP (cS s);rw[←j];have g:Hid (V=cS s):=j;clear j
 by_cases n:1<=s.size
 ·by_cases o:s.size<=8
  ·have c:Hid (xF s.size=true):=decide_eq_true ⟨n,o⟩
   have m:decide ((s.size:Int)<1)=false:=by simp;omega
   go_enter Tryz.func169,Tryz.ntmps169
   go_wp2
   go_loop [14,3] (λi _=>∃k:Nat,k<=s.size/\i=.int .i64 k/\Hid (nD (s.data.toList.take k)=true)) (λi _=>s.size-(intOf i).toNat)
   case atStart=>exact⟨0,nz _,rfl,by simp[Hid,nD]⟩
   case round=>
    obtain⟨k,hk,rfl,a⟩:=hrel
    by_cases f:k<s.size
    ·have d:=xI s k f
     have b:=DY s k f;have p:=aG d;have q:=aG b;clear d b
     go_wp2_with (go_at_call 225;refine(EY _ _).mono ?_;rintro e w' ⟨rfl,rfl⟩)
     ·have l:oB (s[k].toNat:Int)=false:=nf (by assumption)
      go_ret;exact⟨aD (by rw[g.oQ,cS,q.oQ l,Bool.and_false]),rfl⟩
     ·have l:oB (s[k].toNat:Int)=true:=nt (by assumption)
      go_round
      case rel=>exact⟨k+1,by omega,by go_num,by rw[Hid,p.oQ true l,a.out];rfl⟩
      case measure=>simp[intOf];omega
    ·go_wp2
     go_ret;rw[ltl (by simp;omega)]at a;exact⟨aD (by rw[g.oQ,cS,c.oQ,a.out];rfl),rfl⟩
  ·have c:Hid (xF s.size=false):=decide_eq_false (λh=>o h.2)
   have m:decide ((s.size:Int)<1)=false:=by simp;omega
   go_enter Tryz.func169,Tryz.ntmps169
   go_wp2
   go_ret;exact⟨aD (by rw[g.oQ,cS,c.oQ];rfl),rfl⟩
 ·have c:Hid (xF s.size=false):=decide_eq_false (λh=>n h.1)
  have m:decide ((s.size:Int)<1)=true:=by simp;omega
  go_enter Tryz.func169,Tryz.ntmps169
  go_wp2
  go_ret;exact⟨aD (by rw[g.oQ,cS,c.oQ];rfl),rfl⟩
theorem uF (s:ByteArray) (w:World) (hs:s.size<=9223372036854775807):
 aY 113 #[.string s] w fun e w'=>e=.returned (.bool (cS s))/\w'=w:=by
 obtain⟨V,l⟩:=bP (cS s);rw[← l];have h:Hid (V=cS s):=l;clear l
 by_cases d:1<=s.size/\s.size<=8
 · have m:fO (s.size:Int) 1 8=true:=by simp only[fO,dte];omega
   have g:Hid (xF s.size=true):=decide_eq_true d;obtain⟨d,h2⟩:=d
   go_enter Tryz.func113,Tryz.ntmps113
   go_wp2_with (go_at_call 49;refine(dV _ _ _ _).mono ?_;rintro e w ⟨rfl,rfl⟩)
   go_loop [3,4] (fun i _=>∃ k:Nat,k<=s.size/\i=.int .i64 k/\Hid (nD (s.data.toList.take k)=true)) (fun i _=>s.size-(intOf i).toNat)
   case atStart=>exact⟨0,nz _,rfl,by simp[Hid,nD]⟩
   case round=>
    obtain⟨k,hk,rfl,a⟩:=hrel
    by_cases f:k<s.size
    · have o:=aG (xI s k f)
      have p:=aG (DY s k f);obtain⟨c,q⟩:=bP ((s[k].toNat:Int):Int);have HC:=aG q;go_wp2
      all_goals first
       | (have n:oB (s[k].toNat:Int)=true:=by(simp only[oB,dte];first | omega | (have:=nt (b:=((s[k].toNat:Int)==45)) (by assumption);simp only[beq_iff_eq]at this;omega))
          go_round
          case rel=>exact⟨k+1,by omega,by go_num,by rw[Hid,o.oQ true n,a.out];rfl⟩
          case measure=>simp[intOf];omega)
       | (have n:oB (s[k].toNat:Int)=false:=by(have j:=nf (b:=((s[k].toNat:Int)==45)) (by assumption);simp only[beq_eq_false_iff_ne,ne_eq]at j;simp only[oB,decide_eq_false_iff_not];omega)
          go_ret
          exact⟨aD (by rw[h.oQ,cS,p.oQ n,Bool.and_false]),rfl⟩)
    · go_wp2
      go_ret;rw[ltl (by simp;omega)]at a;exact⟨aD (by rw[h.oQ,cS,g.oQ,a.out];rfl),rfl⟩
 · have m:fO (s.size:Int) 1 8=false:=by simp only[fO,decide_eq_false_iff_not];omega
   have g:Hid (xF s.size=false):=decide_eq_false d;clear d
   go_enter Tryz.func113,Tryz.ntmps113
   go_wp2_with (go_at_call 49;refine(dV _ _ _ _).mono ?_;rintro e w ⟨rfl,rfl⟩)
   go_ret;exact⟨aD (by rw[h.oQ,cS,g.oQ];rfl),rfl⟩
theorem IT (a b:Bx)(w:World):
 aY 120 #[a.val,b.val] w λe w'=>e=.returned (.bool (dQ a b))/\aF w w':=by
 have f:aF w w:=br _ _
 rcases Bool.eq_false_or_eq_true (aK a)with ha|ha
 · rcases Bool.eq_false_or_eq_true (aK b)with k|k
   · obtain⟨a1,a2,a3,a4⟩:=tL ha
     obtain⟨b1,b2,b3,b4⟩:=tL k
     go_enter Tryz.func120,Tryz.ntmps120
     go_wp2_with (first
      |(go_at_call 81;refine(nG _ _).mono ?_;rintro e d ⟨rfl,c⟩;have f:aF w d:=aC (by repeat (first|exact f|refine aB ?_ _)) c;obtain⟨g,h⟩:=qV c;have i:w.heap.size<d.heap.size:=(by have:=c.size;(try simp at this);omega);have j:w.heap.size+1<d.heap.size:=(by have:=c.size;(try simp at this);omega))
      |(go_at_call 49;refine(dV _ _ _ _).mono ?_;rintro e w' ⟨rfl,rfl⟩))
     all_goals go_ret
     all_goals refine⟨aD ?_,f⟩
     all_goals (rw[Bool.eq_iff_iff];simp only[dQ,ha,k,Bool.true_and,bat,fO,lL,jS,pO,dte,decide_eq_false_iff_not,Bool.false_eq_true,false_iff]at*;omega)
   · go_enter Tryz.func120,Tryz.ntmps120
     go_wp2_with (first
      |(go_at_call 81;refine(nG _ _).mono ?_;rintro e d ⟨rfl,c⟩;have f:aF w d:=aC (by repeat (first|exact f|refine aB ?_ _)) c;obtain⟨g,h⟩:=qV c;have i:w.heap.size<d.heap.size:=(by have:=c.size;(try simp at this);omega);have j:w.heap.size+1<d.heap.size:=(by have:=c.size;(try simp at this);omega))
      |(go_at_call 49;refine(dV _ _ _ _).mono ?_;rintro e w' ⟨rfl,rfl⟩))
     all_goals go_ret
     all_goals refine⟨aD ?_,f⟩
     all_goals simp[dQ,k]
 · go_enter Tryz.func120,Tryz.ntmps120
   go_wp2_with (first
    |(go_at_call 81;refine(nG _ _).mono ?_;rintro e d ⟨rfl,c⟩;have f:aF w d:=aC (by repeat (first|exact f|refine aB ?_ _)) c;obtain⟨g,h⟩:=qV c;have i:w.heap.size<d.heap.size:=(by have:=c.size;(try simp at this);omega);have j:w.heap.size+1<d.heap.size:=(by have:=c.size;(try simp at this);omega))
    |(go_at_call 49;refine(dV _ _ _ _).mono ?_;rintro e w' ⟨rfl,rfl⟩))
   all_goals go_ret
   all_goals refine⟨aD ?_,f⟩
   all_goals simp[dQ,ha]
theorem JQ (a:Bx)(l:List Bx)(B:Option Addr)(z:Nat)(w:World)(ha:aK a=true)(D:jJ w B l)(hn:l.length<=1048576):
 aY 179 #[a.val,.slice B l.length z] w λe w'=>e=.returned (.bool (l.any (dQ a)))/\aF w w':=by
 have j:w.heap.size+1<=(w.alloc (.cells #[.int .i64 a.x,.int .i64 a.y,.int .i64 a.lo,.int .i64 a.hi,.int .i64 a.i,.int .i64 a.o] 56)).heap.size:=by simp
 go_enter Tryz.func179,Tryz.ntmps179
 go_wp2
 go_loopw [9] (λi wr=>∃k:Nat,k<=l.length/\i=.int .i64 k/\Below (w.heap.size+1) (w.alloc (.cells #[.int .i64 a.x,.int .i64 a.y,.int .i64 a.lo,.int .i64 a.hi,.int .i64 a.i,.int .i64 a.o] 56)) wr/\Hid ((l.take k).any (dQ a)=false)) (λi _=>l.length-(intOf i).toNat)
 case atStart=>exact⟨0,nz _,rfl,br _ _,by simp[Hid]⟩
 case round=>
  obtain⟨k,hk,rfl,f,s⟩:=hrel;obtain⟨hcA,hfA⟩:=qV f;have hzA:w.heap.size<wr.heap.size:=by have:=f.size;simp at this;omega
  have m:aF w wr:=(aB (br _ _) _).trans (f.mono (by omega))
  by_cases g:k<l.length
  · rcases D with h|⟨bl,off,rfl,C⟩
    · subst h;simp at g
    · have v:=(C k g).zL m
      obtain⟨b,n⟩:=bP (l[k]);rw[←n]at v;have A:=aG n;clear n C m;obtain⟨c0,c1,c2,c3,c4,c5⟩:=v
      go_wp2_with (first
       |(go_at_call 229;refine(CO _ _ _).mono ?_;rintro e d ⟨rfl,c⟩;have f:Below (w.heap.size+1) (w.alloc (.cells #[.int .i64 a.x,.int .i64 a.y,.int .i64 a.lo,.int .i64 a.hi,.int .i64 a.i,.int .i64 a.o] 56)) d:=bL (by repeat (first|exact f|refine lP ?_ j _)) j c;obtain⟨p,r⟩:=qV c;have t:w.heap.size<d.heap.size:=(by have:=c.size;(try simp at this);omega);have u:wr.heap.size<d.heap.size:=(by have:=c.size;(try simp at this);omega))
       |(go_at_call 178;refine(rF _ _).mono ?_;rintro e d ⟨rfl,c⟩;have f:Below (w.heap.size+1) (w.alloc (.cells #[.int .i64 a.x,.int .i64 a.y,.int .i64 a.lo,.int .i64 a.hi,.int .i64 a.i,.int .i64 a.o] 56)) d:=bL (by repeat (first|exact f|refine lP ?_ j _)) j c;obtain⟨p,r⟩:=qV c;have t:w.heap.size<d.heap.size:=(by have:=c.size;(try simp at this);omega);have u:wr.heap.size<d.heap.size:=(by have:=c.size;(try simp at this);omega))
       |(go_at_call 220;refine(kG _ _ _).mono ?_;rintro e d ⟨rfl,c⟩;have f:Below (w.heap.size+1) (w.alloc (.cells #[.int .i64 a.x,.int .i64 a.y,.int .i64 a.lo,.int .i64 a.hi,.int .i64 a.i,.int .i64 a.o] 56)) d:=bL (by repeat (first|exact f|refine lP ?_ j _)) j c;obtain⟨p,r⟩:=qV c;have t:w.heap.size<d.heap.size:=(by have:=c.size;(try simp at this);omega);have u:wr.heap.size<d.heap.size:=(by have:=c.size;(try simp at this);omega))
       |(go_at_call 221;refine(sD _ _ _ (by assumption) (by assumption)).mono ?_;rintro e d ⟨rfl,c⟩;have f:Below (w.heap.size+1) (w.alloc (.cells #[.int .i64 a.x,.int .i64 a.y,.int .i64 a.lo,.int .i64 a.hi,.int .i64 a.i,.int .i64 a.o] 56)) d:=bL (by repeat (first|exact f|refine lP ?_ j _)) j c;obtain⟨p,r⟩:=qV c;have t:w.heap.size<d.heap.size:=(by have:=c.size;(try simp at this);omega);have u:wr.heap.size<d.heap.size:=(by have:=c.size;(try simp at this);omega)))
      all_goals have q:dQ a b=(aK a&&aK b&&lL a b&&jS a b&&pO a b):=rfl
      all_goals simp only[*,Bool.and_true,Bool.and_false]at q
      · go_ret
        exact⟨aD (gI _ l k g (by rw[←A.oQ];exact q)).symm,(aB (br _ _) _).trans (f.mono (by omega))⟩
      all_goals
       go_roundw
       case rel=>exact⟨k+1,by omega,by go_num,f,by rw[Hid,gQ _ l k g,s.out,←A.oQ,q];rfl⟩
       case measure=>simp[intOf];omega
  · go_wp2
    go_ret;refine⟨aD ?_,m⟩;rw[ltl (by omega)]at s;exact s.out.symm
theorem Tryz.info56:(Tryz.prog.info? 56).map (λi=>(i.zero,i.size,i.bytes))=some (some (.agg #[.int .i64 0,.int .i64 0,.int .i64 0,.int .i64 0,.int .i64 0,.int .i64 0]),6,48):=by kernel_rfl
end Go.Proofs.YtcdbcliaepcpfaaGreatDoor
