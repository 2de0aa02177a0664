import Derived.Test.YtoolgmmljacfmaaGreatDoorAl
import Derived.WalkSpells
import Derived.WalkLawsBesides
import Derived.BigGuardPart
import Derived.Deep.RegionWith
set_option maxRecDepth 100000
set_option maxHeartbeats 1000000
open List renaming length → ln
open Go.Proofs.Tryz Go.RowKit
namespace Go.Proofs.YtoolgmmljacfmaaGreatDoor
theorem qE (x y:Int)(w:Wd):
 aW 187 #[I x,I y] w λe w'=>e=rt (.bool (gW x y))/\w'=w:=by
 go_enter func187,ntmps187
 go_wp2
 all_goals go_ret
 all_goals refine⟨aF ?_,rfl⟩
 all_goals (rw[beii];simp only[gW,dte,bft,false_iff];omega)
theorem eM (n b a:Int)(w:Wd):
 aW 57 #[I n,I b,I a] w λe w'=>e=rt (.bool (fQ n b a))/\w'=w:=by
 go_enter func57,ntmps57
 go_wp2
 all_goals go_ret
 all_goals refine⟨aF ?_,rfl⟩
 all_goals (rw[beii];simp only[fQ,dte,bft,false_iff];omega)
theorem sX (b:Bx)(w:Wd):
 aW 194 #[b.val] w λe w'=>e=rt (.bool (aK b))/\aG w w':=by
 go_enter func194,ntmps194
 go_wp2_with (go_at_call 187;refine(qE _ _ _).mono ?_;rintro e w' ⟨rfl,rfl⟩)
 all_goals go_ret
 all_goals refine⟨aF ?_,(br _ _).alloc (nlq _) _⟩
 all_goals (rw[beii];simp only[gW,aK,dte,dfi,bft,false_iff]at*;omega)
theorem oA (b:Bx)(w:Wd):
 aW 105 #[b.val] w λe w'=>e=rt (.bool (aK b))/\aG w w':=by
 go_enter func105,ntmps105
 go_wp2_with (go_at_call 57;refine(eM _ _ _ _).mono ?_;rintro e w' ⟨rfl,rfl⟩)
 all_goals go_ret
 all_goals refine⟨aF ?_,(br _ _).alloc (nlq _) _⟩
 all_goals (rw[beii];simp only[fQ,aK,dte,dfi,bft,false_iff]at*;omega)
theorem D7 (a b:Bx)(w:Wd):
 aW 245 #[a.val,b.val] w λe w'=>e=rt (.bool (qT a b))/\aG w w':=by
 go_enter func245,ntmps245
 go_wp2
 all_goals go_ret
 all_goals refine⟨aF ?_,((br _ _).alloc (nlq _) _).alloc sm _⟩
 all_goals (rw[beii];simp only[qT,dte,bft,false_iff];omega)
theorem lA (a b:Bx)(w:Wd):
 aW 236 #[a.val,b.val] w λe w'=>e=rt (.bool (kJ a b))/\aG w w':=by
 go_enter func236,ntmps236
 go_wp2
 all_goals go_ret
 all_goals refine⟨aF ?_,((br _ _).alloc (nlq _) _).alloc sm _⟩
 all_goals (rw[beii];simp only[kJ,dte,bft,false_iff];omega)
theorem lX (a b:Int)(w:Wd)(h1:0<=a)(h2:a<16)(h3:0<=b)(h4:b<16):
 aW 268 #[I a,I b] w λe w'=>e=rt (I (max (a-b) (b-a)))/\w'=w:=by
 go_enter func268,ntmps268
 go_wp2
 all_goals go_ret
 all_goals exact⟨mC om,rfl⟩
theorem tQ (a b:Bx)(w:Wd)(ha:aK a=true)(c:aK b=true):
 aW 237 #[a.val,b.val] w λe w'=>e=rt (.bool (lV a b))/\aG w w':=by
 simp only[aK,dte]at ha c;obtain⟨a1,a2,a3,a4,_⟩:=ha;obtain⟨b1,b2,b3,b4,_⟩:=c
 go_enter func237,ntmps237
 go_wp2_with (go_at_call 268;refine(lX _ _ _ aq aq aq aq).mono ?_;rintro e w' ⟨rfl,rfl⟩)
 all_goals go_ret
 all_goals refine⟨aF ?_,((br _ _).alloc (nlq _) _).alloc sm _⟩
 all_goals (rw[beii];simp only[lV,dte,bft,false_iff];omega)
def oY (c:Int):Bool:=decide ((97<=c/\c<=122)∨(48<=c/\c<=57)∨c=45)
def nX (l:List UInt8):Bool:=l.all λc=>oY (c.toNat:Int)
def wI (n:Nat):Bool:=decide (1<=n/\n<=8)
def cO (s:ByteArray):Bool:=wI s.size&&nX s.data.toList
theorem xW (s:Ba)(k:Nat)(h:k<s.size):s.data.toList.take (k+1)=s.data.toList.take k++[s[k]]:=by
 rw[tsa (by simpa using h)];rfl
theorem MV (l:List UInt8)(c:UInt8):nX (l++[c])=(nX l&&oY (c.toNat:Int)):=by simp[nX]
theorem zA (s:Ba)(k:Nat)(h:k<s.size)(v:Bool)(a:oY (s[k].toNat:Int)=v):nX (s.data.toList.take (k+1))=(nX (s.data.toList.take k)&&v):=by
 rw[xW s k h,MV,a]
theorem FB (s:Ba)(k:Nat)(h:k<s.size)(a:oY (s[k].toNat:Int)=false):nX s.data.toList=false:=by
 rw[befq];intro ha
 have:=lat.1 ha s[k] (by
  have:s[k]=s.data.toList[k]'(by simpa using h):=rfl;rw[this];exact lgm _)
 rw[a]at this;cases this
theorem IOo (c:Int)(w:Wd):
 aW 241 #[.int .u8 c] w λe w'=>e=rt (.bool (oY c))/\w'=w:=by
 go_enter func241,ntmps241
 go_wp2
 all_goals go_ret
 all_goals refine⟨aF ?_,rfl⟩
 all_goals first
  |(rw[beii];simp only[oY,beq_iff_eq,dte];omega)
  |(rw[eq_comm,oY,dte];omega)
theorem uC (s:Ba)(w:Wd)(r:s.size<=9223372036854775807):
 aW 185 #[.string s] w λe w'=>e=rt (.bool (cO s))/\w'=w:=by
 obtain⟨V,j⟩:=bQ (cO s);rw[←j];have g:Hid (V=cO s):=j;clear j
 by_cases n:1<=s.size
 ·by_cases o:s.size<=8
  ·have c:Hid (wI s.size=true):=det ⟨n,o⟩
   have m:decide ((s.size:Int)<1)=false:=by simp;omega
   go_enter func185,ntmps185
   go_wp2
   go_loop [14,3] (λi _=>∃k:Nat,k<=s.size/\i=I k/\Hid (nX (s.data.toList.take k)=true)) (λi _=>s.size-(intOf i).toNat)
   case atStart=>exact⟨0,nz _,rfl,by simp[Hid,nX]⟩
   case round=>
    obtain⟨k,hk,rfl,a⟩:=hrel
    by_cases f:k<s.size
    ·have d:=zA s k f
     have b:=FB s k f;have p:=aI d;have q:=aI b;clear d b
     go_wp2_with (go_at_call 241;refine(IOo _ _).mono ?_;rintro e w' ⟨rfl,rfl⟩)
     ·have l:oY (s[k].toNat:Int)=false:=nf aq
      go_ret;exact⟨aF (by rw[g.oQ,cO,q.oQ l,Bool.and_false]),rfl⟩
     ·have l:oY (s[k].toNat:Int)=true:=nt aq
      go_round
      case rel=>exact⟨k+1,om,gn,by rw[Hid,p.oQ true l,a.out];rfl⟩
      case measure=>simp[intOf];omega
    ·go_wp2
     go_ret;rw[ltl so]at a;exact⟨aF (by rw[g.oQ,cO,c.oQ,a.out];rfl),rfl⟩
  ·have c:Hid (wI s.size=false):=def0 (λh=>o h.2)
   have m:decide ((s.size:Int)<1)=false:=by simp;omega
   go_enter func185,ntmps185
   go_wp2
   go_ret;exact⟨aF (by rw[g.oQ,cO,c.oQ];rfl),rfl⟩
 ·have c:Hid (wI s.size=false):=def0 (λh=>n h.1)
  have m:decide ((s.size:Int)<1)=true:=by simp;omega
  go_enter func185,ntmps185
  go_wp2
  go_ret;exact⟨aF (by rw[g.oQ,cO,c.oQ];rfl),rfl⟩
theorem GO (s:Ba) (w:Wd) (q:s.size<=9223372036854775807):
 aW 101 #[.string s] w fun e w'=>e=rt (.bool (cO s))/\w'=w:=by
 obtain⟨V,l⟩:=bQ (cO s);rw[← l];have h:Hid (V=cO s):=l;clear l
 by_cases d:1<=s.size/\s.size<=8
 · have m:fQ (s.size:Int) 1 8=true:=by simp only[fQ,dte];omega
   have g:Hid (wI s.size=true):=det d;obtain⟨d,h2⟩:=d
   go_enter func101,ntmps101
   go_wp2_with (go_at_call 57;refine(eM _ _ _ _).mono ?_;rintro e w ⟨rfl,rfl⟩)
   go_loop [3,4] (fun i _=>∃ k:Nat,k<=s.size/\i=I k/\Hid (nX (s.data.toList.take k)=true)) (fun i _=>s.size-(intOf i).toNat)
   case atStart=>exact⟨0,nz _,rfl,by simp[Hid,nX]⟩
   case round=>
    obtain⟨k,hk,rfl,a⟩:=hrel
    by_cases f:k<s.size
    · have o:=aI (zA s k f)
      have p:=aI (FB s k f);obtain⟨c,hc⟩:=bQ ((s[k].toNat:Int):Int);go_wp2
      all_goals first
       | (have n:oY (s[k].toNat:Int)=true:=by(simp only[oY,dte];first | omega | (have:=nt (b:=((s[k].toNat:Int)==45)) aq;simp only[beq_iff_eq]at this;omega))
          go_round
          case rel=>exact⟨k+1,om,gn,by rw[Hid,o.oQ true n,a.out];rfl⟩
          case measure=>simp[intOf];omega)
       | (have n:oY (s[k].toNat:Int)=false:=by(have j:=nf (b:=((s[k].toNat:Int)==45)) aq;simp only[bfn,ne_eq]at j;simp only[oY,dfi];omega)
          go_ret
          exact⟨aF (by rw[h.oQ,cO,p.oQ n,Bool.and_false]),rfl⟩)
    · go_wp2
      go_ret;rw[ltl so]at a;exact⟨aF (by rw[h.oQ,cO,g.oQ,a.out];rfl),rfl⟩
 · have m:fQ (s.size:Int) 1 8=false:=by simp only[fQ,dfi];omega
   have g:Hid (wI s.size=false):=def0 d;clear d
   go_enter func101,ntmps101
   go_wp2_with (go_at_call 57;refine(eM _ _ _ _).mono ?_;rintro e w ⟨rfl,rfl⟩)
   go_ret;exact⟨aF (by rw[h.oQ,cO,g.oQ];rfl),rfl⟩
theorem LC (a b:Bx)(w:Wd):
 aW 136 #[a.val,b.val] w λe w'=>e=rt (.bool (dY a b))/\aG w w':=by
 have d:aG w w:=br _ _
 rcases bfo (aK a)with ha|ha
 · rcases bfo (aK b)with j|j
   · obtain⟨a1,a2,a3,a4⟩:=vL ha
     obtain⟨b1,b2,b3,b4⟩:=vL j
     go_enter func136,ntmps136
     go_wp2_with (first
      |(go_at_call 105;refine(oA _ _).mono ?_;rintro e w1 ⟨rfl,c⟩;have d:aG w w1:=aE (by repeat (first|exact d|refine aC ?_ _)) c;obtain⟨f,g⟩:=rX c;have h:w.heap.size<w1.heap.size:=(by have:=c.size;(try simp at this);omega);have i:w.heap.size+1<w1.heap.size:=(by have:=c.size;(try simp at this);omega))
      |(go_at_call 57;refine(eM _ _ _ _).mono ?_;rintro e w' ⟨rfl,rfl⟩))
     all_goals go_ret
     all_goals refine⟨aF ?_,d⟩
     all_goals (rw[beii];simp only[dY,ha,j,Bool.true_and,bat,fQ,lV,kJ,qT,dte,dfi,bft,false_iff]at*;omega)
   · go_enter func136,ntmps136
     go_wp2_with (first
      |(go_at_call 105;refine(oA _ _).mono ?_;rintro e w1 ⟨rfl,c⟩;have d:aG w w1:=aE (by repeat (first|exact d|refine aC ?_ _)) c;obtain⟨f,g⟩:=rX c;have h:w.heap.size<w1.heap.size:=(by have:=c.size;(try simp at this);omega);have i:w.heap.size+1<w1.heap.size:=(by have:=c.size;(try simp at this);omega))
      |(go_at_call 57;refine(eM _ _ _ _).mono ?_;rintro e w' ⟨rfl,rfl⟩))
     all_goals go_ret
     all_goals refine⟨aF ?_,d⟩
     all_goals simp[dY,j]
 · go_enter func136,ntmps136
   go_wp2_with (first
    |(go_at_call 105;refine(oA _ _).mono ?_;rintro e w1 ⟨rfl,c⟩;have d:aG w w1:=aE (by repeat (first|exact d|refine aC ?_ _)) c;obtain⟨f,g⟩:=rX c;have h:w.heap.size<w1.heap.size:=(by have:=c.size;(try simp at this);omega);have i:w.heap.size+1<w1.heap.size:=(by have:=c.size;(try simp at this);omega))
    |(go_at_call 57;refine(eM _ _ _ _).mono ?_;rintro e w' ⟨rfl,rfl⟩))
   all_goals go_ret
   all_goals refine⟨aF ?_,d⟩
   all_goals simp[dY,ha]
theorem LE (a:Bx)(l:List Bx)(A:Oa)(v:Nat)(w:Wd)(ha:aK a=true)(C:jG w A l)(hn:ln l<=1048576):
 aW 195 #[a.val,.slice A (ln l) v] w λe w'=>e=rt (.bool (l.any (dY a)))/\aG w w':=by
 have g:w.heap.size+1<=(w.alloc (xo a)).heap.size:=by simp
 go_enter func195,ntmps195
 go_wp2
 go_loopw [9] (λi wr=>∃k:Nat,k<=ln l/\i=I k/\Below (w.heap.size+1) (w.alloc (xo a)) wr/\Hid ((l.take k).any (dY a)=false)) (λi _=>ln l-(intOf i).toNat)
 case atStart=>exact⟨0,nz _,rfl,br _ _,by simp[Hid]⟩
 case round=>
  obtain⟨k,hk,rfl,d,r⟩:=hrel;obtain⟨hcA,hfA⟩:=rX d;have hzA:w.heap.size<wr.heap.size:=by have:=d.size;simp at this;omega
  have j:aG w wr:=(aC (br _ _) _).trans (d.mono om)
  by_cases f:k<ln l
  · rcases C with h|⟨bl,off,rfl,B⟩
    · subst h;simp at f
    · have u:=(B k f).zL j
      obtain⟨b,m⟩:=bQ (l[k]);rw[←m]at u;have z:=aI m;clear m B j;obtain⟨c0,c1,c2,c3,c4,c5⟩:=u
      go_wp2_with (first
       |(go_at_call 245;refine(D7 _ _ _).mono ?_;rintro e w1 ⟨rfl,c⟩;have d:Below (w.heap.size+1) (w.alloc (xo a)) w1:=bI (by repeat (first|exact d|refine mG ?_ g _)) g c;obtain⟨n,q⟩:=rX c;have s:w.heap.size<w1.heap.size:=(by have:=c.size;(try simp at this);omega);have t:wr.heap.size<w1.heap.size:=(by have:=c.size;(try simp at this);omega))
       |(go_at_call 194;refine(sX _ _).mono ?_;rintro e w1 ⟨rfl,c⟩;have d:Below (w.heap.size+1) (w.alloc (xo a)) w1:=bI (by repeat (first|exact d|refine mG ?_ g _)) g c;obtain⟨n,q⟩:=rX c;have s:w.heap.size<w1.heap.size:=(by have:=c.size;(try simp at this);omega);have t:wr.heap.size<w1.heap.size:=(by have:=c.size;(try simp at this);omega))
       |(go_at_call 236;refine(lA _ _ _).mono ?_;rintro e w1 ⟨rfl,c⟩;have d:Below (w.heap.size+1) (w.alloc (xo a)) w1:=bI (by repeat (first|exact d|refine mG ?_ g _)) g c;obtain⟨n,q⟩:=rX c;have s:w.heap.size<w1.heap.size:=(by have:=c.size;(try simp at this);omega);have t:wr.heap.size<w1.heap.size:=(by have:=c.size;(try simp at this);omega))
       |(go_at_call 237;refine(tQ _ _ _ aq aq).mono ?_;rintro e w1 ⟨rfl,c⟩;have d:Below (w.heap.size+1) (w.alloc (xo a)) w1:=bI (by repeat (first|exact d|refine mG ?_ g _)) g c;obtain⟨n,q⟩:=rX c;have s:w.heap.size<w1.heap.size:=(by have:=c.size;(try simp at this);omega);have t:wr.heap.size<w1.heap.size:=(by have:=c.size;(try simp at this);omega)))
      all_goals have p:dY a b=(aK a&&aK b&&lV a b&&kJ a b&&qT a b):=rfl
      all_goals simp only[*,Bool.and_true,Bool.and_false]at p
      · go_ret
        exact⟨aF (gU _ l k f (by rw[←z.oQ];exact p)).symm,(aC (br _ _) _).trans (d.mono om)⟩
      all_goals
       go_roundw
       case rel=>exact⟨k+1,om,gn,d,by rw[Hid,iH _ l k f,r.out,←z.oQ,p];rfl⟩
       case measure=>simp[intOf];omega
  · go_wp2
    go_ret;refine⟨aF ?_,j⟩;rw[ltl om]at r;exact r.out.symm
theorem Tryz.info91:(Tryz.prog.info? 91).map (λi=>(i.zero,i.size,i.bytes))=some (some (.agg #[I 0,I 0,I 0,I 0,I 0,I 0]),6,48):=kr
variable {w:Wd}{a o:Nat}
structure Fx where
 n:ByteArray
 x:Int
 y:Int
abbrev fo (x:Fx):Obj:=.cells #[.string x.n,.int .i64 x.x,.int .i64 x.y] 34
abbrev Fx.val (f:Fx):Value:=.agg #[.string f.n,I f.x,I f.y]
def Fx.cells (f:Fx):List Value:=[.string f.n,I f.x,I f.y]
theorem Fx.cells_length (f:Fx):ln f.cells=3:=rfl
theorem Tryz.info34:(Tryz.prog.info? 34).map (λi=>(i.zero,i.size,i.bytes))=some (some (.agg #[.string ByteArray.empty,I 0,I 0]),3,32):=kr
theorem kH {f:Fx}(h:bC w a o f.cells):w.cell? (Y a o)=some (.string f.n)/\w.cell? (Y a (o+1))=some (I f.x)/\w.cell? (Y a (o+2))=some (I f.y):=
 ⟨h 0 _ rfl,h 1 _ rfl,h 2 _ rfl⟩
variable {b:Bx}
def dW (a b:Bx):Bool:=decide (a.x-b.x<=1/\b.x-a.x<=1/\a.y-b.y<=1/\b.y-a.y<=1/\a.lo<=b.hi/\b.lo<=a.hi/\a.i<=b.i/\a.o<=b.o/\b.i<=a.o+1)
def fJ:List Bx->Bool
 |a::b::r=>dW a b&&fJ (b::r)
 |_=>true
theorem fO:∀l:List Bx,fJ l=true↔∀i (h:i+1<ln l),dW l[i] l[i+1]=true
 |[]=>by simp[fJ]
 |[a]=>by simp[fJ]
 |a::b::r=>by
  rw[fJ,bat,fO (b::r)];constructor
  ·rintro⟨d,h⟩ i c;cases i with
   |zero=>exact d
   |succ i=>exact h i (by simpa using c)
  ·intro h;exact⟨h 0 sm,λi c=>h (i+1) (by simpa using c)⟩
def zS (fl:List Fx)(x y:Int):Bool:=fl.any λf=>decide (f.x=x/\f.y=y)
def lT (fl:List Fx)(l:List Bx):Bool:=
 match l[l.length-1]? with
 |some b=>decide (b.lo=0)&&zS fl b.x b.y
 |none=>false
def oO (n:Nat):Bool:=decide (1<=n/\n<=40)
def aQ (fl:List Fx)(l:List Bx):Bool:=oO l.length&&(l.all aK&&(fJ l&&lT fl l))
theorem l9 (a:List Fx)(l:List Bx)(h:ln l-1<ln l):lT a l=(decide (l[ln l-1].lo=0)&&zS a l[ln l-1].x l[ln l-1].y):=by
 rw[lT,lge h]
theorem uW (p:Bx->Bool)(l:List Bx)(k:Nat)(h:k<ln l):(l.take (k+1)).all p=((l.take k).all p&&p l[k]):=by
 rw[tsa h,laa];simp only[List.all_cons,List.all_nil,Bool.and_true]
theorem uP (p:Bx->Bool)(l:List Bx)(k:Nat)(h:k<ln l)(a:p l[k]=false):l.all p=false:=by
 rw[befq];intro ha;have:=lat.1 ha l[k] (lgm h);rw[a]at this;cases this
theorem wU (l:List Bx)(k:Nat)(h:k+1<ln l)(a:dW l[k] l[k+1]=false):fJ l=false:=by
 rw[befq];intro ha;have:=(fO l).1 ha k h;rw[a]at this;cases this
theorem sJ (h:aK b=true):0<=b.x/\b.x<16/\0<=b.y/\b.y<16/\0<=b.lo/\b.lo<=b.hi/\b.hi<=6/\0<=b.i/\b.i<=b.o/\b.o<=10000:=by
 simp only[aK,dte]at h;exact h
def rO (f:Fx)(x y:Int):Bool:=decide (f.x=x/\f.y=y)
theorem QJ (a b:Bx)(w:Wd)(ha:aK a=true)(c:aK b=true):
 aW 106 #[a.val,b.val] w λe w'=>e=rt (.bool (dW a b))/\aG w w':=by
 obtain⟨a1,a2,a3,a4,_,_,_,a5,a6,a7⟩:=sJ ha;obtain⟨b1,b2,b3,b4,_⟩:=sJ c;clear ha c
 go_enter func106,ntmps106
 go_wp2_with (go_at_call 57;refine(eM _ _ _ _).mono ?_;rintro e w' ⟨rfl,rfl⟩)
 all_goals go_ret
 all_goals refine⟨aF ?_,((br _ _).alloc (nlq _) _).alloc sm _⟩
 all_goals (rw[beii];simp only[fQ,dW,dte,dfi,bft,false_iff]at*;omega)
theorem OW (a b:Bx)(w:Wd)(ha:aK a=true)(f:aK b=true):
 aW 267 #[a.val,b.val] w λe w'=>e=rt (.bool (dW a b))/\aG w w':=by
 have d:aG w w:=br _ _;obtain⟨a1,a2,a3,a4,_,_,_,a5,a6,a7⟩:=sJ ha;obtain⟨b1,b2,b3,b4,_⟩:=sJ f;clear ha f
 go_enter func267,ntmps267
 go_wp2_with (first
  |(go_at_call 268;refine(lX _ _ _ aq aq aq aq).mono ?_;rintro e w' ⟨rfl,rfl⟩)
  |(go_at_call 236;refine(lA _ _ _).mono ?_;rintro e w1 ⟨rfl,c⟩;have d:aG w w1:=aE (by repeat (first|exact d|refine aC ?_ _)) c;obtain⟨hc1,hf1⟩:=rX c))
 all_goals go_ret
 all_goals refine⟨aF ?_,by repeat (first|exact d|refine aC ?_ _)⟩
 all_goals (rw[beii];simp only[kJ,dW,dte,dfi,bft,false_iff]at*;omega)
theorem IH (n a:Nat)(b:Oa)(w:Wd)(hn:n<=1048576):
 aW 225 #[.slice b n a] w λe w'=>e=rt (.bool (oO n))/\w'=w:=by
 go_enter func225,ntmps225
 go_wp2
 all_goals go_ret
 all_goals refine⟨aF ?_,rfl⟩
 all_goals (rw[beii];simp only[oO,dte,bft,false_iff];omega)
theorem oB (l:List Fx)(q:Oa)(p:Nat)(x y:Int)(w:Wd)(u:Xs 3 Fx.cells w q l)(hn:ln l<=1048576):
 aW 188 #[.slice q (ln l) p,I x,I y] w λe w'=>e=rt (.bool (zS l x y))/\aG w w':=by
 go_enter func188,ntmps188
 go_wp2
 go_loopw [11] (λi wr=>∃k:Nat,k<=ln l/\i=I k/\aG w wr/\Hid ((l.take k).any (λf=>rO f x y)=false)) (λi _=>ln l-(intOf i).toNat)
 case atStart=>exact⟨0,nz _,rfl,br _ _,by simp[Hid]⟩
 case round=>
  obtain⟨k,hk,rfl,d,c⟩:=hrel
  by_cases a:k<ln l
  ·rcases u with h|⟨bl,off,rfl,s⟩
   ·subst h;simp at a
   ·have j:=(s k a).zL d
    obtain⟨b,g⟩:=bQ (l[k]);rw[←g]at j;have o:=aI g;clear g s;obtain⟨c0,c1,c2⟩:=kH j;clear j
    by_cases hx:b.x=x
    ·by_cases m:b.y=y
     ·have r:(b.x==x)=true:=by simp[hx]
      have t:(b.y==y)=true:=by simp[m]
      have n:Hid (b.x=x/\b.y=y):=⟨hx,m⟩;clear hx m;go_wp2
      go_ret;exact⟨aF (gU _ l k a (by rw[←o.oQ];exact det n.oQ)).symm,d.alloc d.size _⟩
     ·have r:(b.x==x)=true:=by simp[hx]
      have t:(b.y==y)=false:=by simp[m]
      have n:Hid (¬(b.x=x/\b.y=y)):=λh=>m h.2;clear hx m;go_wp2
      go_roundw
      case rel=>exact⟨k+1,om,gn,d.alloc d.size _,by rw[Hid,iH _ l k a,c.out,←o.oQ,rO,def0 n.oQ];rfl⟩
      case measure=>simp[intOf];omega
    ·have r:(b.x==x)=false:=by simp[hx]
     have n:Hid (¬(b.x=x/\b.y=y)):=λh=>hx h.1;clear hx;go_wp2
     go_roundw
     case rel=>exact⟨k+1,om,gn,d.alloc d.size _,by rw[Hid,iH _ l k a,c.out,←o.oQ,rO,def0 n.oQ];rfl⟩
     case measure=>simp[intOf];omega
  ·go_wp2
   go_ret;refine⟨aF ?_,d⟩;rw[ltl om]at c;exact c.out.symm
theorem KL (l:List Bx)(p:Oa)(j:Nat)(w:Wd)(r:jG w p l)(hn:ln l<=1048576):
 aW 226 #[.slice p (ln l) j] w λe w'=>e=rt (.bool (l.all aK))/\aG w w':=by
 go_enter func226,ntmps226
 go_wp2
 go_loopw [7] (λi wr=>∃k:Nat,k<=ln l/\i=I k/\aG w wr/\Hid ((l.take k).all aK=true)) (λi _=>ln l-(intOf i).toNat)
 case atStart=>exact⟨0,nz _,rfl,br _ _,by simp[Hid]⟩
 case round=>
  obtain⟨k,hk,rfl,f,d⟩:=hrel
  by_cases a:k<ln l
  ·rcases r with h|⟨bl,off,rfl,q⟩
   ·subst h;simp at a
   ·have g:=(q k a).zL f
    obtain⟨b,c⟩:=bQ (l[k]);rw[←c]at g;have o:=aI c;clear c q;obtain⟨c0,c1,c2,c3,c4,c5⟩:=g
    go_wp2_with (go_at_call 194;refine(sX _ _).mono ?_;rintro e w1 ⟨rfl,m⟩;have f:aG w w1:=bI (by repeat (first|exact f|refine mG ?_ (nlq _) _)) (nlq _) m)
    ·have n:aK b=false:=nf aq
     go_ret;exact⟨aF (uP _ l k a (by rw[←o.oQ];exact n)).symm,f⟩
    ·have n:aK b=true:=nt aq
     go_roundw
     case rel=>exact⟨k+1,om,gn,f,by rw[Hid,uW _ l k a,d.out,←o.oQ,n];rfl⟩
     case measure=>simp[intOf];omega
  ·go_wp2
   go_ret;refine⟨aF ?_,f⟩;rw[ltl om]at d;exact d.out.symm
variable {l:List Fx}{k:Nat}{f:Fx}
theorem NW (h:k<ln l)(a:f=l[k])(hx:b.lo=0/\f.x=b.x/\f.y=b.y):(decide (b.lo=0)&&zS l b.x b.y)=true:=by
 have c:zS l b.x b.y=true:=gU _ l k h (by rw[←a];exact det hx.2);rw[c,det hx.1];rfl
def oT (l:List Fx)(b:Bx)(k:Nat):Prop:=(decide (b.lo=0)&&(l.take k).any (λf=>rO f b.x b.y))=false
theorem xA (h:k<ln l)(d:f=l[k])(a:oT l b k)(hx:¬(b.lo=0/\f.x=b.x/\f.y=b.y)):oT l b (k+1):=by
 unfold oT at*;rw[iH _ l k h,←d];by_cases e:b.lo=0
 ·have c:rO f b.x b.y=false:=def0 (λq=>hx ⟨e,q⟩);rw[c,Bool.or_false];exact a
 ·simp[e]
theorem GZ (l:List Fx)(z:Oa)(s:Nat)(b:Bx)(w:Wd)(D:Xs 3 Fx.cells w z l)(hn:ln l<=1048576):
 aW 107 #[.slice z (ln l) s,b.val] w λe w'=>e=rt (.bool (decide (b.lo=0)&&zS l b.x b.y))/\aG w w':=by
 obtain⟨V,u⟩:∃V,V=(decide (b.lo=0)&&zS l b.x b.y):=⟨_,rfl⟩;rw[←u];have v:=aI u;clear u
 go_enter Tryz.func107,Tryz.ntmps107
 go_wp2
 go_loopw [5] (λi wr=>∃k:Nat,k<=ln l/\i=I k/\Below (w.heap.size+1) (w.alloc (xo b)) wr/\Hid (oT l b k)) (λi _=>ln l-(intOf i).toNat)
 case atStart=>exact⟨0,nz _,rfl,br _ _,by simp[Hid,oT]⟩
 case round=>
  obtain⟨k,hk,rfl,m,c⟩:=hrel;have j:aG w wr:=(aC (br _ _) _).trans (m.mono om);have a0:wr.cell? (ya w 0)=some (I b.x):=(m.cell sm).trans sm;have a1:wr.cell? (ya w 1)=some (I b.y):=(m.cell sm).trans sm;have a2:wr.cell? (ya w 2)=some (I b.lo):=(m.cell sm).trans sm
  by_cases a:k<ln l
  ·rcases D with h|⟨bl,off,rfl,B⟩
   ·subst h;simp at a
   ·have p:=(B k a).zL j
    obtain⟨f,n⟩:=bQ (l[k]);rw[←n]at p;have r:=aI n;clear n B;obtain⟨c0,c1,c2⟩:=kH p;clear p
    by_cases hx:f.x=b.x
    ·by_cases d:f.y=b.y
     ·by_cases q:b.lo=0
      ·have t:(f.x==b.x)=true:=by simp[hx]
       have A:(f.y==b.y)=true:=by simp[d]
       have C:(b.lo==0)=true:=by simp[q]
       have g:Hid (b.lo=0/\f.x=b.x/\f.y=b.y):=⟨q,hx,d⟩;clear hx d q;go_wp2
       go_region
       all_goals
        go_wp2
        go_ret;exact⟨aF (by rw[v.oQ,NW a r.oQ g.oQ]),j.drew⟩
      ·have t:(f.x==b.x)=true:=by simp[hx]
       have A:(f.y==b.y)=true:=by simp[d]
       have C:(b.lo==0)=false:=by simp[q]
       have g:Hid (¬(b.lo=0/\f.x=b.x/\f.y=b.y)):=λh=>q h.1;clear hx d q;go_wp2
       go_region
       all_goals
        go_wp2
        go_roundw
        case rel=>exact⟨k+1,om,gn,m.drew,xA a r.oQ c.out g.oQ⟩
        case measure=>simp[intOf];omega
     ·have t:(f.x==b.x)=true:=by simp[hx]
      have A:(f.y==b.y)=false:=by simp[d]
      have g:Hid (¬(b.lo=0/\f.x=b.x/\f.y=b.y)):=λh=>d h.2.2;clear hx d;go_wp2
      go_region
      all_goals
       go_wp2
       go_roundw
       case rel=>exact⟨k+1,om,gn,m.drew,xA a r.oQ c.out g.oQ⟩
       case measure=>simp[intOf];omega
    ·have t:(f.x==b.x)=false:=by simp[hx]
     have g:Hid (¬(b.lo=0/\f.x=b.x/\f.y=b.y)):=λh=>hx h.2.1;clear hx;go_wp2
     go_region
     all_goals
      go_wp2
      go_roundw
      case rel=>exact⟨k+1,om,gn,m.drew,xA a r.oQ c.out g.oQ⟩
      case measure=>simp[intOf];omega
  ·go_wp2
   go_ret;refine⟨aF ?_,j⟩;unfold oT at c;rw[ltl om]at c;rw[v.oQ];exact c.out.symm
