import Derived.Recover
import Derived.Test.YtcdbcliaepcpfaaGreatDoorZa
namespace Go.Proofs.YtcdbcliaepcpfaaGreatDoor
set_option maxRecDepth 100000
set_option maxHeartbeats 2000000
open Go.RowKit Go.BigFrame
theorem VZ (k:ByteArray)(l:Array UInt8):(k==⟨l⟩)=decide (k.toList=l.toList):=by
 rw[ByteArray.toList_eq];show(k.data==l)=_;rw[Bool.eq_iff_iff];simp[←Array.toList_inj]
theorem SP {α:Type}(a:Array α)(x y:α):(a.push x).setIfInBounds a.size y=a.push y:=by
 apply Array.ext';simp
def yE (k:ByteArray):Option Nat:=
 if k.toList=pA then some 25 else if k.toList=vE then some 26 else if k.toList=FI then some 27 else if k.toList=oI then some 28 else if k.toList=uN then some 29 else if k.toList=FK then some 30 else if k.toList=tW then some 31 else if k.toList=uR then some 32 else if k.toList=tZ then some 33 else none
abbrev eM (S f:Nat):Value:=.func (.func f) #[.pointer (some ⟨S,0,none⟩)] #[]
def CD (S:Nat):Array MapEntry:=#[⟨.string ⟨#[102,105,101,108,100]⟩,eM S 25,0⟩,⟨.string ⟨#[119,105,115,104]⟩,eM S 26,1⟩,⟨.string ⟨#[98,111,120]⟩,eM S 27,2⟩,⟨.string ⟨#[97,109,101,110,100]⟩,eM S 28,3⟩,⟨.string ⟨#[116,111,111,107]⟩,eM S 29,4⟩,⟨.string ⟨#[114,101,102,117,115,101,100]⟩,eM S 30,5⟩,⟨.string ⟨#[116,105,99,107]⟩,eM S 31,6⟩,⟨.string ⟨#[98,97,114,115]⟩,eM S 32,7⟩,⟨.string ⟨#[104,101,108,100]⟩,eM S 33,8⟩]
theorem GV (a:Bool)(k:ByteArray)(w:World):(Instr.checkKey a 10000 9 (.string k)).run Tryz.prog w=.ok () w:=by
 rw[show(10000:Nat)=9999+1 from rfl,Instr.checkKey];simp[Sem.run_bind,run_underlying Tryz.underlying9,Result.andThen_ok]
theorem mN (w:World)(a:Array MapEntry)(c:Nat)(k:ByteArray)(v:Value)(h:Instr.findNow .string (.string k) a.toList 0=some none):
 (Instr.mapUpdate 39 (.map (some w.heap.size)) (.string k) v).run Tryz.prog (w.alloc (.map a c))=.ok () (w.alloc (.map (a.push ⟨.string k,v,c⟩) (c+1))):=by
 have b:=wnq w (.map a c)
 have e:{ w.alloc (.map a c)with heap:=(w.alloc (.map a c)).heap.setIfInBounds w.heap.size (.map (a.push ⟨.string k,v,c⟩) (c+1))}=w.alloc (.map (a.push ⟨.string k,v,c⟩) (c+1)):=by
  simp only[World.alloc];rw[SP]
 rw[←e];obtain⟨r,g⟩:=cK w.heap.size;rw[g]at b ⊢;obtain⟨W,d⟩:=cK (w.alloc (.map a c));rw[d]at b ⊢;have f:(getObj r).run Tryz.prog W=.ok (.map a c) W:=by simp[getObj,Sem.run,b]
 unfold Instr.mapUpdate Instr.findKey;simp only[Sem.run_bind,run_underlying Tryz.underlying39,run_underlying Tryz.underlying9,Result.andThen_ok,f,GV,h,Sem.run_pure];simp[setObj,Sem.run,b]
theorem SR (S:Nat)(k:ByteArray):∃i,Instr.findNow .string (.string k) (CD S).toList 0=some ((yE k).map λf=>(i,eM S f)):=by
 unfold yE;simp only[CD,Instr.findNow,Instr.sameNow,VZ];by_cases a:k.toList=pA;·exact⟨0,by simp[a]⟩
 by_cases b:k.toList=vE;·exact⟨1,by simp[b]⟩
 by_cases c:k.toList=FI;·exact⟨2,by simp[c]⟩
 by_cases d:k.toList=oI;·exact⟨3,by simp[d]⟩
 by_cases e:k.toList=uN;·exact⟨4,by simp[e]⟩
 by_cases g:k.toList=FK;·exact⟨5,by simp[g]⟩
 by_cases h:k.toList=tW;·exact⟨6,by simp[h]⟩
 by_cases j:k.toList=uR;·exact⟨7,by simp[j]⟩
 by_cases l:k.toList=tZ;·exact⟨8,by simp[l]⟩
 exact⟨0,by simp[a,b,c,d,e,g,h,j,l]⟩
theorem V1 (S r c:Nat)(k:ByteArray)(w:World)(d:w.heap[r]?=some (.map (CD S) c)):
 (Instr.lookup 39 (.map (some r)) (.string k) true).run Tryz.prog w=.ok (.tuple #[((yE k).map (eM S)).getD .nilFunc,.bool (yE k).isSome]) w:=by
 obtain⟨i,a⟩:=SR S k;have b:(getObj r).run Tryz.prog w=.ok (.map (CD S) c) w:=by simp[getObj,Sem.run,d]
 have e:(zeroValue 68).run Tryz.prog w=.ok .nilFunc w:=by go_simp
 unfold Instr.lookup Instr.findKey;simp only[Sem.run_bind,run_underlying Tryz.underlying39,run_underlying Tryz.underlying9,Result.andThen_ok,b,GV,Sem.run_pure,a];cases yE k with
 |none=>simp[e]
 |some f=>simp
theorem FJ (S:Nat)(w:World):
 aY 9 #[.pointer (some ⟨S,0,none⟩)] w λe w'=>e=.returned (.map (some w.heap.size))/\w'=w.alloc (.map (CD S) 9):=by
 have hmf:∀(b:Fn) (first a:Array Value) (w:World),(Instr.makeFunc b first a).run Tryz.prog w=.ok (.func b first a) w:=λ_ _ _ _=>rfl;have hmk:(Instr.makeMap 39 none).run Tryz.prog w=.ok (.map (some w.heap.size)) (w.alloc (.map #[] 0)):=rfl;have c:=mN w #[] 0 ⟨#[102,105,101,108,100]⟩ (eM S 25) rfl;have d:=mN w #[⟨.string ⟨#[102,105,101,108,100]⟩,eM S 25,0⟩] 1 ⟨#[119,105,115,104]⟩ (eM S 26) rfl;have f:=mN w #[⟨.string ⟨#[102,105,101,108,100]⟩,eM S 25,0⟩,⟨.string ⟨#[119,105,115,104]⟩,eM S 26,1⟩] 2 ⟨#[98,111,120]⟩ (eM S 27) rfl;have g:=mN w #[⟨.string ⟨#[102,105,101,108,100]⟩,eM S 25,0⟩,⟨.string ⟨#[119,105,115,104]⟩,eM S 26,1⟩,⟨.string ⟨#[98,111,120]⟩,eM S 27,2⟩] 3 ⟨#[97,109,101,110,100]⟩ (eM S 28) rfl;have h:=mN w #[⟨.string ⟨#[102,105,101,108,100]⟩,eM S 25,0⟩,⟨.string ⟨#[119,105,115,104]⟩,eM S 26,1⟩,⟨.string ⟨#[98,111,120]⟩,eM S 27,2⟩,⟨.string ⟨#[97,109,101,110,100]⟩,eM S 28,3⟩] 4 ⟨#[116,111,111,107]⟩ (eM S 29) rfl;have i:=mN w #[⟨.string ⟨#[102,105,101,108,100]⟩,eM S 25,0⟩,⟨.string ⟨#[119,105,115,104]⟩,eM S 26,1⟩,⟨.string ⟨#[98,111,120]⟩,eM S 27,2⟩,⟨.string ⟨#[97,109,101,110,100]⟩,eM S 28,3⟩,⟨.string ⟨#[116,111,111,107]⟩,eM S 29,4⟩] 5 ⟨#[114,101,102,117,115,101,100]⟩ (eM S 30) rfl;have j:=mN w #[⟨.string ⟨#[102,105,101,108,100]⟩,eM S 25,0⟩,⟨.string ⟨#[119,105,115,104]⟩,eM S 26,1⟩,⟨.string ⟨#[98,111,120]⟩,eM S 27,2⟩,⟨.string ⟨#[97,109,101,110,100]⟩,eM S 28,3⟩,⟨.string ⟨#[116,111,111,107]⟩,eM S 29,4⟩,⟨.string ⟨#[114,101,102,117,115,101,100]⟩,eM S 30,5⟩] 6 ⟨#[116,105,99,107]⟩ (eM S 31) rfl;have k:=mN w #[⟨.string ⟨#[102,105,101,108,100]⟩,eM S 25,0⟩,⟨.string ⟨#[119,105,115,104]⟩,eM S 26,1⟩,⟨.string ⟨#[98,111,120]⟩,eM S 27,2⟩,⟨.string ⟨#[97,109,101,110,100]⟩,eM S 28,3⟩,⟨.string ⟨#[116,111,111,107]⟩,eM S 29,4⟩,⟨.string ⟨#[114,101,102,117,115,101,100]⟩,eM S 30,5⟩,⟨.string ⟨#[116,105,99,107]⟩,eM S 31,6⟩] 7 ⟨#[98,97,114,115]⟩ (eM S 32) rfl;have l:=mN w #[⟨.string ⟨#[102,105,101,108,100]⟩,eM S 25,0⟩,⟨.string ⟨#[119,105,115,104]⟩,eM S 26,1⟩,⟨.string ⟨#[98,111,120]⟩,eM S 27,2⟩,⟨.string ⟨#[97,109,101,110,100]⟩,eM S 28,3⟩,⟨.string ⟨#[116,111,111,107]⟩,eM S 29,4⟩,⟨.string ⟨#[114,101,102,117,115,101,100]⟩,eM S 30,5⟩,⟨.string ⟨#[116,105,99,107]⟩,eM S 31,6⟩,⟨.string ⟨#[98,97,114,115]⟩,eM S 32,7⟩] 8 ⟨#[104,101,108,100]⟩ (eM S 33) rfl;simp only[lpt,lca,lna,Nat.reduceAdd,eM]at c d f g h i j k l;go_enter Tryz.func9,Tryz.ntmps9;go_wp2;go_ret;exact⟨rfl,rfl⟩
set_option maxHeartbeats 16000000
theorem Q0 {S:Nat->Prop}{w:World}{s b:Bk}{x d:Wx}(l:3<w.heap.size)(u:j9 w)(h:dZ S w s b)(m:aN s=true)(hx:iL w d)(y:qK x d):
 aY 60 #[b.val,d.val] w λe w'=>(∃b',e=.returned (.tuple #[Bk.val b',gX s (decide (0<=j8 s.hl x.n)) x,.int .i64 (dL s x)])/\KE s.now s.fl (eU s x) b'/\eF w.heap.size w' b')/\aF w w':=by
 have ha:=h.asks m;refine(GA b d w l u ha.hf ha.hnf ha.hcap ha.hc2 ha.hs ha.hh ha.hnh ha.hgood hx).mono ?_;rintro e w' ⟨t,j⟩;refine⟨?_,j⟩;obtain⟨z,A,o⟩:=DX (b:=s) (b1:=b) h.c.now h.c.fl h.c.lk d;obtain⟨B,C,D⟩:=C9 y s;rcases t with⟨a,_⟩|⟨a,b1,i,f,g,c,k,⟨rfl,p,q,r⟩,rfl,v⟩;·rw[h.book,m]at a;cases a
 ·obtain⟨E,F,G⟩:=P9 d a k;exact⟨g,by rw[E,F,z,A,B,C],⟨(p.trans k.now).trans h.c.now,(q.trans k.fl).trans h.c.fl,by rw[D]at o;exact(o.trans G).trans r⟩,v.spS⟩
theorem kT.same {F:Nat->Prop}{S:Nat}{w:World}{s:St}{b:Bk}{v:Value}(h:kT F S w s b v):kT F S w ⟨dM s.b s.b.now s.b.hl,s.t⟩ b v:=⟨h.o,h.h,⟨h.b.c,h.b.i,h.b.f1,h.b.f2⟩,h.fS,h.fh,h.fl,h.e⟩
theorem DS {w:World}{B n:Nat}{v:Value}{l:List Int}(b:n=l.length)(h:w.ownsRow B 3 1 v n (l.map (Value.int .i64))):∃a c,v=.slice a l.length c/\∀w',VC w w'->Xs 1 eW w' a l:=by
 obtain⟨a,c,e,_⟩:=pC b h;refine⟨a,c,e,λw' i=>?_⟩;obtain⟨a',c',f,hx⟩:=pC b (i6 h (λk d _ g=>i k d _ (.inr (.inr rfl)) g));cases e.symm.trans f;exact hx
theorem ws8 {d:List ByteArray}(h:8<=d.length):∃nm q c f a l b y e,d=nm::q::c::f::a::l::b::y::e:=by
 match d,h with
 |nm::q::c::f::a::l::b::y::e,_=>exact⟨nm,q,c,f,a,l,b,y,e,rfl⟩
theorem vX {s:St}{a:List ByteArray}(h:¬8<=a.length):jW s a=(s,cX):=by
 unfold jW;split;·exact absurd (by simp) h
 ·rfl
def WP (vw vn:Value)(bl off g oo:Nat)(nm lv:ByteArray)(i1 i2 i3 i4 i5:Int)(Q:List ByteArray)(NL:List Int)(YY:List ByteArray)(cy:Nat)(cs:List (List Cx))(X:Wx)(GL GW:Prop)(Z:Nat)(j:Nat)(v:Value)(w:World):Prop:=
 match j with
 |0|18|23=>v=vw
 |3|6|9|12|15=>v=vn
 |1=>v=.pointer (some ⟨bl,off,none⟩)
 |2=>v=.string nm
 |4=>v=.pointer (some ⟨g,oo,none⟩)
 |5=>v=.int .i64 i1
 |7=>v=.pointer (some ⟨g,oo+1,none⟩)
 |8=>v=.int .i64 i2
 |10=>v=.pointer (some ⟨g,oo+2,none⟩)
 |11=>v=.int .i64 i3
 |13=>v=.pointer (some ⟨g,oo+3,none⟩)
 |14=>v=.int .i64 i4
 |16=>v=.pointer (some ⟨g,oo+4,none⟩)
 |17=>v=.int .i64 i5
 |19=>v=.pointer (some ⟨bl,off+6,none⟩)
 |20=>v=.string lv
 |21=>∃p,v=.slice (some ⟨p,0,none⟩) Q.length Q.length/\Xs 1 dS w (some ⟨p,0,none⟩) Q
 |22=>(∃a c,v=.slice a NL.length c/\∀w',VC w w'->Xs 1 eW w' a NL)/\GL
 |24=>v=.slice (some ⟨bl,off+7,none⟩) YY.length cy
 |25=>zF w v cs/\GW
 |26=>(∃x:Wx,v=x.val/\(∀w',VC w w'->iL w' x)/\qK X x)/\GL/\GW
 |27=>∃p,v=.pointer (some ⟨p,0,none⟩)/\Z<=p/\w.heap[p]?=some (.cells #[.string ⟨#[]⟩,.int .i64 0,.int .i64 0,.int .i64 0,.int .i64 0,.int .i64 0,.slice none 0 0,.slice none 0 0] 84)
 |_=>True
theorem WP.zL {F E:Value}{r i g D:Nat}{nm C:ByteArray}{u y z A B:Int}{Q:List ByteArray}{o:List Int}{q:List ByteArray}{t:Nat}{s:List (List Cx)}{X:Wx}{m n:Prop}{Z:Nat}(j:Nat)(v:Value)(w w':World)(b:WP F E r i g D nm C u y z A B Q o q t s X m n Z j v w)(h:aF w w'):WP F E r i g D nm C u y z A B Q o q t s X m n Z j v w':=by
 unfold WP at*;split at b
 all_goals first
  |exact b
  |(obtain⟨p,d,e⟩:=b;exact⟨p,d,e.zL h⟩)
  |(obtain⟨⟨a,c,d,e⟩,f⟩:=b;exact⟨⟨a,c,d,λl k=>e l (k.from h)⟩,f⟩)
  |(exact⟨b.1.zL h,b.2⟩)
  |(obtain⟨⟨x,d,e,G⟩,f⟩:=b;exact⟨⟨x,d,λl k=>e l (k.from h),G⟩,f⟩)
  |(obtain⟨p,d,e,f⟩:=b;exact⟨p,d,e,bJ f h⟩)
def KU (S:Nat)(b:Bk)(x:Wx)(s':Bk)(d i k c:Int)(Z:Nat)(j:Nat)(vs:Nat->Value)(w:World):Prop:=
 match j with
 |0=>vs 0=.pointer (some ⟨S,0,none⟩)
 |1=>vs 1=.pointer (some ⟨S,0,none⟩)
 |2=>vs 2=.pointer (some ⟨S,0,none⟩)
 |3=>vs 3=b.val
 |4=>vs 4=x.val
 |5=>∃b':Bk,vs 5=.tuple #[b'.val,fW d i k,.int .i64 c]/\KE s'.now s'.fl s'.hl b'/\eF Z w b'
 |6=>∃b':Bk,vs 6=.tuple #[b'.val,fW d i k,.int .i64 c]/\KE s'.now s'.fl s'.hl b'/\eF Z w b'
 |7=>∃b':Bk,vs 6=.tuple #[b'.val,fW d i k,.int .i64 c]/\vs 7=b'.val/\KE s'.now s'.fl s'.hl b'/\eF Z w b'
 |8=>vs 8=fW d i k
 |9=>vs 9=.int .i64 c
 |10=>∃p,vs 10=.pointer (some ⟨p,0,none⟩)/\Z<=p/\w.heap[p]?=some (.cells #[.int .i64 0,.slice none 0 0,.slice none 0 0] 30)
 |11=>∃p,vs 11=.pointer (some ⟨p,0,none⟩)/\Z<=p/\w.heap[p]?=some (.cells #[.int .i64 0,.int .i64 0,.int .i64 0] 80)
 |_=>True
theorem KU.zL {S:Nat}{b:Bk}{x:Wx}{l:Bk}{d i k c:Int}{Z:Nat}(j:Nat)(m:Nat->Value)(w w':World)(h:KU S b x l d i k c Z j m w)(g:aF w w'):KU S b x l d i k c Z j m w':=by
 unfold KU at*;split at h
 all_goals first
  |exact h
  |(obtain⟨b',a,e,f⟩:=h;exact⟨b',a,e,f.zL g⟩)
  |(obtain⟨b',a,e,f,n⟩:=h;exact⟨b',a,e,f,n.zL g⟩)
  |(obtain⟨p,a,e,f⟩:=h;exact⟨p,a,e,bJ f g⟩)
def VH (j:Nat):List Nat:=if j=7 then[7,6]else[j]
def S5 (j:Nat):Bool:=j==8||j==9
theorem KU.loc {S:Nat}{b:Bk}{x:Wx}{l:Bk}{d i k c:Int}{Z:Nat}(j:Nat)(f a:Nat->Value)(w:World)(g:∀q∈VH j,f q=a q)(h:KU S b x l d i k c Z j f w):KU S b x l d i k c Z j a w:=by
 have e:f j=a j:=g j (by unfold VH;split<;>simp_all);unfold KU at*;split at h
 all_goals first
  |(rw[←e];exact h)
  |(rw[←e,←g 6 (by simp[VH])];exact h)
  |trivial
def YA (d i k c:Int)(j:Nat)(v:Value):Prop:=if j=8 then v=fW d i k else v=.int .i64 c
theorem KU.free {S:Nat}{b:Bk}{x:Wx}{f:Bk}{d i k c:Int}{Z:Nat}(j:Nat)(e:Nat->Value)(w:World)(a:S5 j=true)(h:KU S b x f d i k c Z j e w):YA d i k c j (e j):=by
 simp[S5]at a;rcases a with rfl|rfl<;>exact h
structure Z2 (W:World)(s':Bk)(d i k c:Int)(t:Nat)(vs:Nat->Value)(w':World)(b':Bk)(p q:Nat):Prop where
 tt:vs 6=.tuple #[b'.val,fW d i k,.int .i64 c]
 v:vs 7=b'.val
 vp:vs 10=.pointer (some ⟨p,0,none⟩)
 vq:vs 11=.pointer (some ⟨q,0,none⟩)
 bel:aF W w'
 cnt:KE s'.now s'.fl s'.hl b'
 sp:eF W.heap.size w' b'
 zp:W.heap.size<=p
 zq:W.heap.size<=q
 p0:t=12->w'.heap[p]?=some (.cells #[.int .i64 0,.slice none 0 0,.slice none 0 0] 30)
 p1:12<t->w'.heap[p]?=some b'.obj
 q0:t<=13->w'.heap[q]?=some (.cells #[.int .i64 0,.int .i64 0,.int .i64 0] 80)
 q1:13<t->w'.heap[q]?=some (iR d i k)
def ZK (W:World)(s':Bk)(d i k c:Int)(t:Nat)(vs:Nat->Value)(w':World):Prop:=∃b' p q,Z2 W s' d i k c t vs w' b' p q
theorem PG (F:Nat->Prop)(S:Nat)(w:World)(s:St)(b:Bk)(v:Value)(hS:kT F S w s b v)(kk:Nat)(kn:iP kk s)(a:List ByteArray)(ao:Option Addr)(zd:Nat)(hX:Xs 1 dS w ao a)(qy:a.length<=zd)(jc:a.length<=1048570)(yq:∀x∈a,x.size<=1048575):
 aY 26 #[.pointer (some ⟨S,0,none⟩),.slice ao a.length zd] w λe w'=>UW F S w s (jW s a) e w':=by
 by_cases hl:8<=a.length
 ·obtain⟨nm,q,sl,f,bb,l,lv,y,ys,N⟩:=ws8 hl
  obtain⟨bl,K,rfl⟩:∃bl K,ao=some ⟨bl,K,none⟩:=by
   rcases hX with h|⟨bl,K,e,_⟩;·rw[h]at hl;simp at hl
   ·exact⟨bl,K,e⟩
  have qw:Xs 1 dS w (some ⟨bl,K+1,none⟩) [q,sl,f,bb,l]:=i7 hX 1 [nm] _ (lv::y::ys) (by rw[N];rfl) rfl;have ym:Xs 1 dS w (some ⟨bl,K+7,none⟩) (y::ys):=i7 hX 7 [nm,q,sl,f,bb,l,lv] _ [] (by rw[N];simp) rfl;have c0:=gO hX 0 nm (by rw[N];rfl);rw[Nat.add_zero]at c0;have c6:=gO hX 6 lv (by rw[N];rfl);have hlv:lv.size<=1048575:=yq lv (by rw[N];simp);have hnm:nm.size<=1048575:=yq nm (by rw[N];simp);have jk:∀x∈y::ys,x.size<=1048575:=λx hx=>yq x (by rw[N];exact List.mem_append_right [nm,q,sl,f,bb,l,lv] hx);have E:Hid (jW s a=if jG [q,sl,f,bb,l]&&jG (bH 44 lv)then(match fI (y::ys)with|some cs=>nK s (uQ nm q sl f bb l (bH 44 lv) cs)|none=>(s,cX))else(s,cX)):=by rw[N];rfl
  obtain⟨YY,xt⟩:=bP (y::ys);have hm:a.length=YY.length+7:=by rw[N,xt];simp
  rw[←xt]at ym jk E;obtain⟨m,jd⟩:=bP a.length;rw[←jd]at hm qy jc hl ⊢;have kc:Hid (YY.length<=1048576):=by rw[Hid];omega
  have hm7:m-7=YY.length:=by omega
  have qg:Hid (YY.length+7<=1048570):=by rw[Hid];omega
  have km:decide ((8:Int)<=(m:Int))=true:=by rw[dte];omega
  clear N xt hX yq jd hm y ys;have yp:(bH 44 lv).length<=1048576:=by have:=kP 44 lv;omega
  go_enter Tryz.func26,Tryz.ntmps26;go_wp2_with (go_at_call 36;refine(gD _).mono ?_;rintro e w' ⟨⟨u,rfl⟩,jj⟩;rw[jj];clear jj);go_wp2_with fail;refine(jM [q,sl,f,bb,l] (some ⟨bl,K+1,none⟩) _ w qw (by simp)).mono ?_;rintro e w2 ⟨⟨yz,v2,rfl,jf⟩|⟨G,rfl⟩,T⟩
  ·have zg:jG [q,sl,f,bb,l]=true:=o9 yz;obtain⟨a5,c5,rfl,zw⟩:=pC (eC _).symm jf;rcases zw with h|⟨g,oo,rfl,ze⟩;·simp[aS]at h
   have j0:w2.cell? ⟨g,oo,none⟩=some (.int .i64 (aV q)):=by have:=ze 0 (by simp[aS]) 0 _ rfl;simpa[aS]using this
   have j1:w2.cell? ⟨g,oo+1,none⟩=some (.int .i64 (aV sl)):=by have:=ze 1 (by simp[aS]) 0 _ rfl;simpa[aS]using this
   have j2:w2.cell? ⟨g,oo+2,none⟩=some (.int .i64 (aV f)):=by have:=ze 2 (by simp[aS]) 0 _ rfl;simpa[aS]using this
   have j3:w2.cell? ⟨g,oo+3,none⟩=some (.int .i64 (aV bb)):=by have:=ze 3 (by simp[aS]) 0 _ rfl;simpa[aS]using this
   have j4:w2.cell? ⟨g,oo+4,none⟩=some (.int .i64 (aV l)):=by have:=ze 4 (by simp[aS]) 0 _ rfl;simpa[aS]using this
   have e5:(aS [q,sl,f,bb,l]).length=5:=rfl;rw[e5];obtain⟨Q,hQ⟩:=bP (bH 44 lv);obtain⟨cs,qz⟩:=bP ((fI YY).getD []);obtain⟨X,xs⟩:=bP (uQ nm q sl f bb l Q cs);obtain⟨NL,yl⟩:=bP (aS Q);rw[←hQ]at E yp;rw[zg]at E;have je:NL.length<=1048576:=by rw[yl,eC];exact yp
   obtain⟨i1,xl⟩:∃i,i=aV q:=⟨_,rfl⟩;rw[←xl]at j0;obtain⟨i2,xm⟩:∃i,i=aV sl:=⟨_,rfl⟩;rw[←xm]at j1;obtain⟨i3,xn⟩:∃i,i=aV f:=⟨_,rfl⟩;rw[←xn]at j2;obtain⟨i4,xo⟩:∃i,i=aV bb:=⟨_,rfl⟩;rw[←xo]at j3;obtain⟨i5,xp⟩:∃i,i=aV l:=⟨_,rfl⟩;rw[←xp]at j4
   have yu:Hid (∀(wa:Option Addr) (Y:List Yx) (wc:Nat) (la:Option Addr) (lc:Nat),Y.map Yx.l=cs->qK X ⟨nm,i1,i2,i3,i4,i5,wa,Y,wc,la,NL,lc⟩):=λwa Y wc la lc h=>by
    rw[xs,xl,xm,xn,xo,xp,yl];exact BP h
   have yt:Hid (fI YY=some cs->∀(W:World) (wa:Option Addr) (Y:List Yx) (wc:Nat) (la:Option Addr) (lc:Nat),Y.map Yx.l=cs->Xs 1 Yx.cells W wa Y->(∀y∈Y,y.In W)->(∀y∈Y,y.l.length<=y.c/\y.c<=9223372036854775807)->Xs 1 eW W la NL->iL W ⟨nm,i1,i2,i3,i4,i5,wa,Y,wc,la,NL,lc⟩):=λko W wa Y wc la lc zi kr kp yr ks=>by
    obtain⟨hwn,kt⟩:=zJ YY [[]] cs 1 0 ko (by simp) (by simp);have:=qg.oQ;refine⟨⟨kr,kp,ks⟩,⟨?_,λy m=>?_,je,?_⟩,yr⟩
    ·show Y.length<=1048576;have:Y.length=cs.length:=by rw[←zi,List.length_map]
     omega
    ·have:=kt y.l (by rw[←zi];exact List.mem_map_of_mem m);omega
    ·show nm.size<=_;omega
   have qd:Hid (jG Q=true->fI YY=some cs->jW s a=nK s X):=λh1 h2=>by rw[E.oQ,h1,h2,xs];rfl
   have qb:Hid (jG Q=false->jW s a=(s,cX)):=λh=>by rw[E.oQ,h];rfl
   have qc:Hid (fI YY=none->jW s a=(s,cX)):=λh=>by rw[E.oQ,h];split<;>rfl
   obtain⟨GL,R⟩:∃GL:Prop,GL=(jG Q=true):=⟨_,rfl⟩;obtain⟨GW,O⟩:∃GW:Prop,GW=(fI YY=some cs):=⟨_,rfl⟩;have xd:Hid (GL↔jG Q=true):=by rw[Hid,R]
   have zy:Hid (GW↔fI YY=some cs):=by rw[Hid,O]
   have HQ:=aG hQ.symm;have qe:=aG yl.symm;have xc:=aG qz.symm;have jt:=aG yp;have Z:=aG T;replace hS:=hS.zL T;replace c0:=(T.cell (aA c0)).trans c0;replace c6:=(T.cell (aA c6)).trans c6;replace ym:=ym.zL T;clear yz jf T zg ze e5 hQ qz xs yl R O xl xm xn xo xp E yp qw qg je;go_upto_region 3 with fail;refine pG 28 [some 17,some 18,some 19,some 20,some 21,some 22,some 23,some 24,some 25,some 26,some 27,some 28,some 29,some 30,some 31,some 32,some 33,some 34,some 35,some 36,some 37,some 38,some 39,some 40,some 41,some 42,some 43,some 6] (WP (.slice (some ⟨bl,K,none⟩) m zd) (.slice (some ⟨g,oo,none⟩) 5 c5) bl K g oo nm lv i1 i2 i3 i4 i5 Q NL YY (zd-7) cs X GL GW w2.heap.size) WP.zL ?step ?fin
   case step=>
    intro ii o I w' zf A B z;have jl:=(B.cell (aA c0)).trans c0;have z6z:=(B.cell (aA c6)).trans c6;have j0j:=(B.cell (aA j0)).trans j0;have j1j:=(B.cell (aA j1)).trans j1;have j2j:=(B.cell (aA j2)).trans j2;have j3j:=(B.cell (aA j3)).trans j3;have j4j:=(B.cell (aA j4)).trans j4;match ii,zf with
    |1,_|2,_|4,_|5,_|7,_|8,_|10,_|11,_|13,_|14,_|16,_|17,_|19,_|20,_|24,_=>
     simp at A;subst A;simp[Region.binds,WP]at z;simp only[aE,Act.put,z];gi_wp2;exact⟨_,by simp[aH,z],rfl,br _ _⟩
    |0,_|3,_|6,_|9,_|12,_|15,_|18,_|23,_=>
     simp at A;subst A;simp only[aE,Act.put];gi_wp2;exact⟨_,by simp[aH],rfl,br _ _⟩
    |21,_=>
     simp at A;subst A;simp[Region.binds,WP]at z;simp only[aE,Act.put,z];gi_wp2_with fail;refine⟨trivial,rfl,?_⟩;refine(cw.2 (GN lv 44 w' (hS.e.zL B) (by omega))).mono ?_;rintro e w5 ⟨⟨rfl,zw⟩,C⟩;rw[show(((44:UInt8).toNat:Nat):Int)=44 from rfl,HQ.oQ]at zw ⊢;have ka:=aG zw;clear zw;gi_wp2;exact⟨_,by simp[aH,z],⟨_,rfl,ka.oQ⟩,C⟩
    |22,_=>
     simp at A;subst A;obtain⟨p,ql,hx⟩:=Zq z 21;clear z;simp only[aE,Act.put,ql];gi_wp2_with fail;refine⟨trivial,rfl,?_⟩;refine(cw.2 (jM Q (some ⟨p,0,none⟩) Q.length w' hx jt.oQ)).mono ?_;rintro e w5 ⟨⟨xa,v5,rfl,jg⟩|⟨G,rfl⟩,C⟩
     ·have HG:Hid GL:=xd.oQ.2 (o9 xa);obtain⟨a5,qh,e5,zg⟩:=DS (eC Q).symm jg;rw[qe.oQ]at e5 zg;subst e5;have js:=aG zg;clear zg jg xa hx;gi_wp2;exact⟨.slice a5 NL.length qh,by simp[aH,ql],⟨⟨a5,qh,rfl,js.oQ⟩,HG.oQ⟩,C⟩
     ·have HZ:=aG (qb.oQ (qO G));have xf:=aG (aC (aC Z.oQ B) C);clear G C hx;gi_wp2;exact⟨rfl,.inl ⟨HZ.oQ,rfl,xf.oQ⟩⟩
    |25,_=>
     simp at A;subst A;have qn:I 24=.slice (some ⟨bl,K+7,none⟩) YY.length (zd-7):=Zq z 24;clear z;simp only[aE,Act.put,qn];gi_wp2_with fail;refine⟨trivial,rfl,?_⟩;refine(cw.2 (LW YY (some ⟨bl,K+7,none⟩) (zd-7) w' (hS.e.zL B) (ym.zL B) kc.oQ jk)).mono ?_;rintro e w5 ⟨⟨kd,zc,v5,rfl,zu⟩|⟨G,rfl⟩,C⟩
     ·have HG:Hid GW:=zy.oQ.2 (by rw[zc,←xc.oQ,zc];rfl)
      have jz:Hid (zF w5 v5 cs):=by
       have e:kd=cs:=by rw[←xc.oQ,zc];rfl
       rw[←e];exact zu
      clear zu zc;gi_wp2;exact⟨_,by simp[aH,qn],⟨jz.oQ,HG.oQ⟩,C⟩
     ·have HZ:=aG (qc.oQ G);have xf:=aG (aC (aC Z.oQ B) C);clear G C;gi_wp2;exact⟨rfl,.inl ⟨HZ.oQ,rfl,xf.oQ⟩⟩
    |26,_=>
     simp at A;subst A;have d2:I 2=.string nm:=Zq z 2;have d5:I 5=.int .i64 i1:=Zq z 5;have d8:I 8=.int .i64 i2:=Zq z 8;have zo:I 11=.int .i64 i3:=Zq z 11;have qj:I 14=.int .i64 i4:=Zq z 14;have qk:I 17=.int .i64 i5:=Zq z 17;obtain⟨⟨la,lc,qm,jb⟩,R⟩:=Zq z 22;obtain⟨zu,O⟩:=Zq z 25;obtain⟨wa,Y,wc,zr,zi,xz,yr⟩:=zu.e;have HG:Hid (GL/\GW):=⟨R,O⟩;have kb:Hid (∃x:Wx,Wx.val ⟨nm,i1,i2,i3,i4,i5,wa,Y,wc,la,NL,lc⟩=x.val/\(∀w2,VC w' w2->iL w2 x)/\qK X x):=⟨_,rfl,λw2 h2=>yt.oQ (zy.oQ.1 O) w2 wa Y wc la lc zi (xz w2 h2).1 (xz w2 h2).2 yr (jb w2 h2),yu.oQ wa Y wc la lc zi⟩;clear z R O jb zu zi xz yr;simp only[aE,Act.put,d2,d5,d8,zo,qj,qk,qm,zr];gi_wp2;exact⟨_,by simp[aH,d2,d5,d8,zo,qj,qk,qm,zr],⟨kb.oQ,HG.oQ⟩,br _ _⟩
    |27,_=>
     simp at A;subst A;simp only[aE,Act.put];gi_wp2;exact⟨_,by simp[aH],⟨_,rfl,B.size,wnq w' _⟩,aB (br _ _) _⟩
    |q+28,h=>exact absurd h (by omega)
   case fin=>
    intro I w8 B hp;obtain⟨⟨x,ya,yw,zv⟩,R,O⟩:=hp 26 (by decide);obtain⟨U,yb,hU,zt⟩:=hp 27 (by decide);have ju:=aG zv;have zz:=aG (qd.oQ (xd.oQ.1 R) (zy.oQ.1 O));have yo:aT (λr=>r=U) w8 ((((((((w8.setCell ⟨U,0,none⟩ (.string x.n)).setCell ⟨U,1,none⟩ (.int .i64 x.q)).setCell ⟨U,2,none⟩ (.int .i64 x.s)).setCell ⟨U,3,none⟩ (.int .i64 x.f)).setCell ⟨U,4,none⟩ (.int .i64 x.b)).setCell ⟨U,5,none⟩ (.int .i64 x.l)).setCell ⟨U,6,none⟩ (.slice x.wa x.wl.length x.wc)).setCell ⟨U,7,none⟩ (.slice x.la x.ll.length x.lc)):=((((((((aT.refl (λr=>r=U) w8).set (g:=U) rfl _ _).set (g:=U) rfl _ _).set (g:=U) rfl _ _).set (g:=U) rfl _ _).set (g:=U) rfl _ _).set (g:=U) rfl _ _).set (g:=U) rfl _ _).set (g:=U) rfl _ _
    have qa:Hid (iL ((((((((w8.setCell ⟨U,0,none⟩ (.string x.n)).setCell ⟨U,1,none⟩ (.int .i64 x.q)).setCell ⟨U,2,none⟩ (.int .i64 x.s)).setCell ⟨U,3,none⟩ (.int .i64 x.f)).setCell ⟨U,4,none⟩ (.int .i64 x.b)).setCell ⟨U,5,none⟩ (.int .i64 x.l)).setCell ⟨U,6,none⟩ (.slice x.wa x.wl.length x.wc)).setCell ⟨U,7,none⟩ (.slice x.la x.ll.length x.lc)) x):=yw _ (λk c t ht hc=>yo.block k (gT hc) (λe=>by
     have e':k=U:=e;rw[e',zt]at hc;cases hc;simp at ht))
    have xq:((((((((w8.setCell ⟨U,0,none⟩ (.string x.n)).setCell ⟨U,1,none⟩ (.int .i64 x.q)).setCell ⟨U,2,none⟩ (.int .i64 x.s)).setCell ⟨U,3,none⟩ (.int .i64 x.f)).setCell ⟨U,4,none⟩ (.int .i64 x.b)).setCell ⟨U,5,none⟩ (.int .i64 x.l)).setCell ⟨U,6,none⟩ (.slice x.wa x.wl.length x.wc)).setCell ⟨U,7,none⟩ (.slice x.la x.ll.length x.lc)).heap[U]?=some (.cells #[.string x.n,.int .i64 x.q,.int .i64 x.s,.int .i64 x.f,.int .i64 x.b,.int .i64 x.l,.slice x.wa x.wl.length x.wc,.slice x.la x.ll.length x.lc] 84):=by
     have:=aO (aO (aO (aO (aO (aO (aO (aO zt 0 (.string x.n)) 1 (.int .i64 x.q)) 2 (.int .i64 x.s)) 3 (.int .i64 x.f)) 4 (.int .i64 x.b)) 5 (.int .i64 x.l)) 6 (.slice x.wa x.wl.length x.wc)) 7 (.slice x.la x.ll.length x.lc);simpa only[List.setIfInBounds_toArray,List.set_cons_succ,List.set_cons_zero]using this
    have zj:Hid (aF w ((((((((w8.setCell ⟨U,0,none⟩ (.string x.n)).setCell ⟨U,1,none⟩ (.int .i64 x.q)).setCell ⟨U,2,none⟩ (.int .i64 x.s)).setCell ⟨U,3,none⟩ (.int .i64 x.f)).setCell ⟨U,4,none⟩ (.int .i64 x.b)).setCell ⟨U,5,none⟩ (.int .i64 x.l)).setCell ⟨U,6,none⟩ (.slice x.wa x.wl.length x.wc)).setCell ⟨U,7,none⟩ (.slice x.la x.ll.length x.lc))):=yo.under (aC Z.oQ B) (nlq _) (λk e=>by rw[e];exact Nat.le_trans Z.oQ.size hU);have ke:=hS.zL B;have xg:Hid (kT F S ((((((((w8.setCell ⟨U,0,none⟩ (.string x.n)).setCell ⟨U,1,none⟩ (.int .i64 x.q)).setCell ⟨U,2,none⟩ (.int .i64 x.s)).setCell ⟨U,3,none⟩ (.int .i64 x.f)).setCell ⟨U,4,none⟩ (.int .i64 x.b)).setCell ⟨U,5,none⟩ (.int .i64 x.l)).setCell ⟨U,6,none⟩ (.slice x.wa x.wl.length x.wc)).setCell ⟨U,7,none⟩ (.slice x.la x.ll.length x.lc)) s b v):=hS.zL (yo.under B (nlq _) (λk e=>by rw[e];exact hU));obtain⟨t0,t1,t2,t3,t4,t5,t6,t7⟩:=gJ zt;have tf:=iQ zt;clear hp B yw zv R O zt yo ke hS xd zy yt yu qd qb qc HQ qe xc Z;simp only[lds,List.drop_zero,aE,Act.put];rw[ya,yb];clear ya yb;generalize I=I;gi_wp2_with fail;go_upto_region 4 with fail;obtain⟨W3,qv⟩:=cK ((((((((w8.setCell ⟨U,0,none⟩ (.string x.n)).setCell ⟨U,1,none⟩ (.int .i64 x.q)).setCell ⟨U,2,none⟩ (.int .i64 x.s)).setCell ⟨U,3,none⟩ (.int .i64 x.f)).setCell ⟨U,4,none⟩ (.int .i64 x.b)).setCell ⟨U,5,none⟩ (.int .i64 x.l)).setCell ⟨U,6,none⟩ (.slice x.wa x.wl.length x.wc)).setCell ⟨U,7,none⟩ (.slice x.la x.ll.length x.lc));rw[qv]at xq qa zj xg ⊢;clear qv t0 t1 t2 t3 t4 t5 t6 t7 tf;have P:kT F S W3 s b v:=xg.oQ;have qu:W3.heap[U]?=some (.cells #[.string x.n,.int .i64 x.q,.int .i64 x.s,.int .i64 x.f,.int .i64 x.b,.int .i64 x.l,.slice x.wa x.wl.length x.wc,.slice x.la x.ll.length x.lc] 84):=xq;have xe:=aG zj.oQ;clear xg xq zj;obtain⟨d,i,kq,qt,qq⟩:=OI s.b X;have jy:=aG qt;have jq:=aG qq;obtain⟨yx,yy⟩:=AB s.b X;obtain⟨cd,xv⟩:=bP (dL s.b X);rw[←xv]at yx yy;have zl:=aG xv.symm;obtain⟨u0,u1,u2,u3,u4,u5,u6,u7⟩:=gJ qu;clear xv qt qq;refine SZ 6 12 14 [some 45,some 46,some 47,some 48,some 49,some 50,some 44,some 51,some 52,some 53,some 7,some 8,none,none] S5 VH (KU S b x (dM s.b s.b.now (eU s.b X)) d i kq cd W3.heap.size) (YA d i kq cd) (ZK W3 (dM s.b s.b.now (eU s.b X)) d i kq cd) KU.zL KU.loc KU.free ?step ?free ?g0 ?gf ?store ?fin
    case step=>
     intro ii o I w' zf A B z;obtain⟨jl,ky,kz,z3z⟩:=(P.zL B).c;have y0y:=(B.cell (aA u0)).trans u0;have y1y:=(B.cell (aA u1)).trans u1;have y2y:=(B.cell (aA u2)).trans u2;have y3y:=(B.cell (aA u3)).trans u3;have y4y:=(B.cell (aA u4)).trans u4;have y5y:=(B.cell (aA u5)).trans u5;have y6y:=(B.cell (aA u6)).trans u6;have y7y:=(B.cell (aA u7)).trans u7;match ii,zf with
     |1,_|2,_|3,_=>
      simp at A;subst A;simp[Region.binds,KU]at z;simp only[aE,Act.put,z];gi_wp2;exact⟨_,by simp[aH,z],rfl,br _ _⟩
     |0,_|4,_=>
      simp at A;subst A;simp only[aE,Act.put];gi_wp2;exact⟨_,by simp[aH],rfl,br _ _⟩
     |5,_=>
      simp at A;subst A;simp[Region.binds,KU]at z;simp only[aE,Act.put,z];gi_wp2_with fail;refine⟨trivial,rfl,?_⟩;refine(cw.2 (Q0 (by have:=(P.zL B).e.s;omega) (P.zL B).e.l (P.zL B).b kn.b (qa.oQ.zL B) ju.oQ)).mono ?_;rintro e w5 ⟨⟨b',rfl,L,M⟩,C⟩;rw[jy.oQ,zl.oQ];have zk:=aG (L);have zm:=aG (M.weak B.size);clear L M;gi_wp2;exact⟨_,by simp[aH,z],⟨b',rfl,zk.oQ,zm.oQ⟩,C⟩
     |6,_=>
      simp at A;subst A;obtain⟨b',zr,L,M⟩:=Zq z 5;have zk:=aG (L);have zm:=aG (M);clear L M z;simp only[aE,Act.put,zr];gi_wp2;exact⟨_,by simp[aH,zr],⟨b',rfl,zk.oQ,zm.oQ⟩,br _ _⟩
     |7,_=>
      simp at A;subst A;obtain⟨b',J,L,M⟩:=Zq z 6;have zk:=aG (L);have zm:=aG (M);clear L M z;simp only[aE,Act.put,J];gi_wp2;exact⟨_,by simp[aH,J],⟨b',by simp[aH,J],rfl,zk.oQ,zm.oQ⟩,br _ _⟩
     |8,_|9,_=>
      simp at A;subst A;obtain⟨b',J,L,M⟩:=Zq z 6;clear L M z;simp only[aE,Act.put,J];gi_wp2;exact⟨_,by simp[aH,J],rfl,br _ _⟩
     |10,_|11,_=>
      simp at A;subst A;simp only[aE,Act.put];gi_wp2;exact⟨_,by simp[aH],⟨_,rfl,B.size,wnq w' _⟩,aB (br _ _) _⟩
     |q+12,h=>exact absurd h (by omega)
    case free=>
     intro ii o I w' t zf xw A ht htM j z;obtain⟨b',p,q,j⟩:=j;have J:=j.tt
     have xx:ii=8∨ii=9:=by
      simp[S5]at xw;omega
     clear j z;rcases xx with rfl|rfl
     ·simp at A;subst A;simp only[aE,Act.put,J];gi_wp2;exact⟨fW d i kq,by simp[aH,J],rfl,trivial⟩
     ·simp at A;subst A;simp only[aE,Act.put,J];gi_wp2;exact⟨.int .i64 cd,by simp[aH,J],rfl,trivial⟩
    case g0=>
     intro I w' B hp;obtain⟨b',ya,yb,h1,h2⟩:=hp 7 (by decide) rfl;obtain⟨p,ep,zp,V⟩:=hp 10 (by decide) rfl;obtain⟨q,eq,zq,D⟩:=hp 11 (by decide) rfl;exact⟨b',p,q,ya,yb,ep,eq,B,h1,h2,zp,zq,λ_=>V,λh=>absurd h (by decide),λ_=>D,λh=>absurd h (by decide)⟩
    case gf=>
     intro t I w' ii v xw j;obtain⟨b',p,q,j⟩:=j
     have xx:ii=8∨ii=9:=by
      simp[S5]at xw;omega
     rcases xx with rfl|rfl<;>exact⟨b',p,q,j.tt,j.v,j.vp,j.vq,j.bel,j.cnt,j.sp,j.zp,j.zq,j.p0,j.p1,j.q0,j.q1⟩
    case store=>
     intro t o I w' h12 h15 A j z;obtain⟨b',p,q,j⟩:=j;have ht:t=12∨t=13:=by omega
     rcases ht with rfl|rfl
     ·simp at A;subst A;have xi:=j.v;have xj:=j.vp;have V:=j.p0 rfl;obtain⟨ku,kv,kw⟩:=aM V;have kx:=iQ V;have k1:=aO V 0 (.int .i64 b'.now);have k2:=aO k1 1 (.slice b'.fa b'.fl.length b'.fc);have k3:=aO k2 2 (.slice b'.ha b'.hl.length b'.hc);have D:=j.q0 (by decide);have xy:q≠p:=λe=>by rw[e,V]at D;cases D
      have HQ:=aG (bE D (dC w' p b') xy);have HP:=aG k3;have xh:Hid (eF W3.heap.size (f8 w' p b') b'):=j.sp.butT (dC w' p b') V (by decide) (by decide) (by decide);have xb:Hid (aF W3 (f8 w' p b')):=(dC w' p b').under j.bel (nlq _) (λk e=>by rw[e];exact j.zp);have H:Hid _:=j;clear j z V D k1 k2 k3;simp only[aE,Act.put,xi,xj];gi_wp2;exact⟨undef,by simp[aH,xi,xj],b',p,q,H.oQ.tt,xi,xj,H.oQ.vq,xb.oQ,H.oQ.cnt,xh.oQ,H.oQ.zp,H.oQ.zq,λh=>absurd h (by decide),λ_=>HP.oQ,λ_=>HQ.oQ,λh=>absurd h (by decide)⟩
     ·simp at A;subst A;have qo:I 8=fW d i kq:=z (eD 8) (by simp) rfl (by decide) rfl;have xk:=j.vq;have D:=j.q0 (by decide);obtain⟨ku,kv,kw⟩:=aM D;have kx:=iQ D;have k1:=aO D 0 (.int .i64 d);have k2:=aO k1 1 (.int .i64 i);have k3:=aO k2 2 (.int .i64 kq);have yn:aT (λr=>r=q) w' (((w'.setCell ⟨q,0,none⟩ (.int .i64 d)).setCell ⟨q,1,none⟩ (.int .i64 i)).setCell ⟨q,2,none⟩ (.int .i64 kq)):=(((aT.refl (λr=>r=q) w').set (g:=q) rfl _ _).set (g:=q) rfl _ _).set (g:=q) rfl _ _;have zh:=j.p1 (by decide);have xy:p≠q:=λe=>by rw[←e,zh]at D;simp[Bk.obj]at D
      have HP:=aG (bE zh yn xy);have HQ:=aG k3;have xh:Hid (eF W3.heap.size (((w'.setCell ⟨q,0,none⟩ (.int .i64 d)).setCell ⟨q,1,none⟩ (.int .i64 i)).setCell ⟨q,2,none⟩ (.int .i64 kq)) b'):=j.sp.butT yn D (by decide) (by decide) (by decide);have xb:Hid (aF W3 (((w'.setCell ⟨q,0,none⟩ (.int .i64 d)).setCell ⟨q,1,none⟩ (.int .i64 i)).setCell ⟨q,2,none⟩ (.int .i64 kq))):=yn.under j.bel (nlq _) (λk e=>by rw[e];exact j.zq);have H:Hid _:=j;clear j z zh D k1 k2 k3 yn;simp only[aE,Act.put,qo,xk];gi_wp2;exact⟨undef,by simp[aH,qo,xk],b',p,q,H.oQ.tt,H.oQ.v,H.oQ.vp,xk,xb.oQ,H.oQ.cnt,xh.oQ,H.oQ.zp,H.oQ.zq,λh=>absurd h (by decide),λ_=>HP.oQ,λh=>absurd h (by decide),λ_=>HQ.oQ⟩
    case fin=>
     intro I w' j hp;obtain⟨b',p,q,j⟩:=j;have d9:I 9=.int .i64 cd:=hp 9 (by decide) rfl;have qi:=j.vp;have zo:=j.vq;have zs:=P.zL j.bel;have qs:=P.fit.1;have za:Hid (kT (λk=>F k∨(W3.heap.size<=k/\k<w'.heap.size)) S (f8 w' S b') ⟨dM s.b s.b.now (eU s.b X),s.t⟩ b' v):=zs.put qs P.fit.2 (j.sp.at (λk e=>e) j.cnt);have jr:Hid (∀k,(F k∨(W3.heap.size<=k/\k<w'.heap.size))->F k∨w.heap.size<=k):=λk hk=>hk.elim .inl (λh=>.inr (Nat.le_trans xe.oQ.size h.1));have zx:Hid (aT F w (f8 w' S b')):=(aT.below (aC xe.oQ j.bel)).trans ((dC w' S b').wide (λk e=>by rw[e];exact P.fS));have jv:=aG (aC xe.oQ j.bel);obtain⟨y0,y1,y2,y3⟩:=zs.c;have yf:=zs.fz;have zh:=j.p1 (by decide);have jh:=j.q1 (by decide);obtain⟨x0,x1,x2⟩:=aM zh;have qr:q≠S:=λe=>by have:=j.zq;omega
     have ji:=bE jh (dC w' S b') qr;obtain⟨v0,v1,v2⟩:=aM ji;have qf:=aG zs;clear hp j zs zh jh qr ji qs u0 u1 u2 u3 u4 u5 u6 u7 qu P;simp only[lds,List.drop_zero,aE,Act.put];rw[d9,qi,zo];clear d9 qi zo;generalize I=I;by_cases zb:cd=0
     ·have qx:(cd !=0)=false:=by simp[zb]
      obtain⟨ja,kf,kg,kh,ki,kj,kl⟩:=jq.oQ (by rw[zl.oQ];exact zb);obtain⟨s0,yc⟩:∃s,s=dD d:=⟨_,rfl⟩;obtain⟨s1,yd⟩:∃s,s=(⟨#[108,97,116,101,32]⟩:ByteArray)++s0:=⟨_,rfl⟩;obtain⟨s2,ye⟩:∃s,s=s1++(⟨#[32,119,97,121,32]⟩:ByteArray):=⟨_,rfl⟩;obtain⟨s3,yg⟩:∃s,s=dD i:=⟨_,rfl⟩;obtain⟨s4,yh⟩:∃s,s=s2++s3:=⟨_,rfl⟩;obtain⟨s5,yi⟩:∃s,s=s4++(⟨#[32,108,101,118,101,108,32]⟩:ByteArray):=⟨_,rfl⟩;obtain⟨s6,yj⟩:∃s,s=dD kq:=⟨_,rfl⟩;obtain⟨s7,yk⟩:∃s,s=s5++s6:=⟨_,rfl⟩;have va:s0.size<=2000001:=by rw[yc];exact bG kg
      have vb:s1.size=5+s0.size:=by rw[yd,ByteArray.size_append];rfl
      have vc:s2.size=s1.size+5:=by rw[ye,ByteArray.size_append];rfl
      have vd:s3.size<=2000001:=by rw[yg];exact bG ki
      have ve:s4.size=s2.size+s3.size:=by rw[yh,ByteArray.size_append]
      have vf:s5.size=s4.size+7:=by rw[yi,ByteArray.size_append];rfl
      have vg:s6.size<=2000001:=by rw[yj];exact bG kl
      have vh:s7.size=s5.size+s6.size:=by rw[yk,ByteArray.size_append]
      have gs1:¬9223372036854775807<5+s0.size:=by omega
      have gs2:¬9223372036854775807<s1.size+5:=by omega
      have gs4:¬9223372036854775807<s2.size+s3.size:=by omega
      have gs5:¬9223372036854775807<s4.size+7:=by omega
      have gs7:¬9223372036854775807<s5.size+s6.size:=by omega
      have zn:Hid (nK s X=(⟨dM s.b s.b.now (eU s.b X),s.t⟩,s7)):=by
       rw[Hid,nK,zl.oQ,if_pos zb,ja,←yc,←yd,←ye,←yg,←yh,←yi,←yj,←yk]
      have jm:=aG yc;have fs1:=yd.symm;have fs2:=ye.symm;have jn:=aG yg;have fs4:=yh.symm;have fs5:=yi.symm;have jo:=aG yj;have fs7:=yk.symm;clear ja yc va yd vb ye vc yg vd yh ve yi vf yj vg yk vh;subst zb;gi_wp2_with fail;go_upto_region 8 with fail;obtain⟨W7,xr⟩:=cK (((w'.setCell ⟨S,0,none⟩ (.int .i64 b'.now)).setCell ⟨S,1,none⟩ (.slice b'.fa b'.fl.length b'.fc)).setCell ⟨S,2,none⟩ (.slice b'.ha b'.hl.length b'.hc));have yv:f8 w' S b'=W7:=xr;rw[yv]at v0 v1 v2 za zx;rw[xr];clear xr yv y0 y1 y2 y3 yf x0 x1 x2;refine pG 14 [some 62,some 63,some 64,some 65,some 66,some 67,some 68,some 69,some 70,some 71,some 72,some 73,some 74,some 75] (CV q d i kq s0 s1 s2 s3 s4 s5 s6 s7) (λ_ _ _ _ h _=>h) ?step ?fin
      case step=>
       intro ii o I w' zf A B z;have jl:=(B.cell (aA v0)).trans v0;have ky:=(B.cell (aA v1)).trans v1;have kz:=(B.cell (aA v2)).trans v2;match ii,zf with
       |1,_|3,_|4,_|6,_|8,_|9,_|11,_|13,_=>
        simp at A;subst A;simp[Region.binds,CV]at z;simp only[aE,Act.put,z];gi_wp2;exact⟨_,by simp[aH,z],rfl,br _ _⟩
       |0,_|5,_|10,_=>
        simp at A;subst A;simp only[aE,Act.put];gi_wp2;exact⟨_,by simp[aH],rfl,br _ _⟩
       |2,_=>
        simp at A;subst A;simp[Region.binds,CV]at z;simp only[aE,Act.put,z];gi_wp2_with fail;refine⟨trivial,rfl,?_⟩;refine(cw.2 (uS d w' (za.oQ.e.zL B) kf (by omega))).mono ?_;rintro e w5 ⟨rfl,C⟩;rw[←jm.out];gi_wp2;exact⟨_,by simp[aH,z],rfl,C⟩
       |7,_=>
        simp at A;subst A;simp[Region.binds,CV]at z;simp only[aE,Act.put,z];gi_wp2_with fail;refine⟨trivial,rfl,?_⟩;refine(cw.2 (uS i w' (za.oQ.e.zL B) kh (by omega))).mono ?_;rintro e w5 ⟨rfl,C⟩;rw[←jn.out];gi_wp2;exact⟨_,by simp[aH,z],rfl,C⟩
       |12,_=>
        simp at A;subst A;simp[Region.binds,CV]at z;simp only[aE,Act.put,z];gi_wp2_with fail;refine⟨trivial,rfl,?_⟩;refine(cw.2 (uS kq w' (za.oQ.e.zL B) kj (by omega))).mono ?_;rintro e w5 ⟨rfl,C⟩;rw[←jo.out];gi_wp2;exact⟨_,by simp[aH,z],rfl,C⟩
       |q+14,h=>exact absurd h (by omega)
      case fin=>
       intro I w8 B hp;have qp:I 13=.string s7:=hp 13 (by decide);have jw:Hid _:=za.oQ.zL B;have zj:Hid _:=zx.oQ.trans (aT.below B);clear hp B za zx;simp only[lds,List.drop_zero,aE,Act.put];rw[qp];clear qp;generalize I=I;gi_wp2_with fail;go_wp2;go_ret;exact .inr ⟨⟨_,_,_,by rw[zz.oQ,zn.oQ];exact jw.oQ,jr.oQ⟩,by rw[zz.oQ,zn.oQ];rfl,zj.oQ⟩
     ·have qx:(cd !=0)=true:=by simp[zb]
      have zn:Hid (nK s X=(⟨dM s.b s.b.now s.b.hl,s.t⟩,iK cd)):=by rw[Hid,nK,zl.oQ,if_neg zb,eU,l3,if_neg (by rw[←dL,zl.oQ];exact zb)]
      clear za zx v0 v1 v2;gi_wp2_with fail;go_wp2_with fail;refine(uG cd _ qf.oQ.e yx yy).mono ?_;rintro e w9 ⟨rfl,xu⟩;have jx:=aG ((qf.oQ.zL xu).same);have jp:Hid (aT F w _):=aT.below (aC jv.oQ xu);clear xu;go_wp2;go_ret;exact .inr ⟨⟨F,b,v,by rw[zz.oQ,zn.oQ];exact jx.oQ,λk hk=>.inl hk⟩,by rw[zz.oQ,zn.oQ];rfl,jp.oQ⟩
  ·have HR:Hid (jW s a=(s,cX)):=by rw[Hid,E.oQ,qO G];rfl
   have Z:=aG T;clear G T;go_wp2;exact⟨rfl,.inl ⟨HR.oQ,rfl,Z.oQ⟩⟩
 ·have HR:Hid (jW s a=(s,cX)):=vX hl;have km:decide ((8:Int)<=(a.length:Int))=false:=by rw[decide_eq_false_iff_not];omega
  clear hl;go_enter Tryz.func26,Tryz.ntmps26;go_wp2_with (go_at_call 36;refine(jD _).mono ?_;rintro e w' ⟨rfl,rfl⟩);exact⟨rfl,.inl ⟨HR.oQ,rfl,br _ _⟩⟩
end Go.Proofs.YtcdbcliaepcpfaaGreatDoor
