import Derived.Test.YtcdbcliaepcpfaaGreatDoorZl
import Derived.Test.YtcdbcliaepcpfaaGreatDoorZg
import Derived.Test.YtcdbcliaepcpfaaGreatDoorZh
namespace Go.Proofs.YtcdbcliaepcpfaaGreatDoor
set_option maxRecDepth 100000
set_option maxHeartbeats 8000000
open Go.RowKit Go.BigFrame
theorem D3 {n:ByteArray}{f:Nat}(h:yE n=some f):(n.toList=pA/\f=25)∨(n.toList=vE/\f=26)∨(n.toList=FI/\f=27)∨(n.toList=oI/\f=28)∨(n.toList=uN/\f=29)∨(n.toList=FK/\f=30)∨(n.toList=tW/\f=31)∨(n.toList=uR/\f=32)∨(n.toList=tZ/\f=33):=by
 unfold yE at h;by_cases a:n.toList=pA;·rw[if_pos a]at h;cases h;simp[a]
 rw[if_neg a]at h;by_cases b:n.toList=vE;·rw[if_pos b]at h;cases h;simp[b]
 rw[if_neg b]at h;by_cases c:n.toList=FI;·rw[if_pos c]at h;cases h;simp[c]
 rw[if_neg c]at h;by_cases d:n.toList=oI;·rw[if_pos d]at h;cases h;simp[d]
 rw[if_neg d]at h;by_cases e:n.toList=uN;·rw[if_pos e]at h;cases h;simp[e]
 rw[if_neg e]at h;by_cases g:n.toList=FK;·rw[if_pos g]at h;cases h;simp[g]
 rw[if_neg g]at h;by_cases i:n.toList=tW;·rw[if_pos i]at h;cases h;simp[i]
 rw[if_neg i]at h;by_cases j:n.toList=uR;·rw[if_pos j]at h;cases h;simp[j]
 rw[if_neg j]at h;by_cases k:n.toList=tZ;·rw[if_pos k]at h;cases h;simp[k]
 rw[if_neg k]at h;cases h
theorem kM {f:Nat}{b:Func}{c:Code}(g:Tryz.prog.funcs[f]?=some b)(a:(b.name== "runtime.NumGoroutine")=false)(e:b.body=some c)(args:Array Value)(w:World):(callFunc f args).run Tryz.prog w=.ok (.enter f args) w:=by
 have d:b.name≠ "runtime.NumGoroutine":=by simpa using a
 simp[callFunc,g,d,e]
theorem RN {n:ByteArray}{f:Nat}(h:yE n=some f)(args:Array Value)(w:World):(callFunc f args).run Tryz.prog w=.ok (.enter f args) w:=by
 rcases D3 h with⟨_,rfl⟩|⟨_,rfl⟩|⟨_,rfl⟩|⟨_,rfl⟩|⟨_,rfl⟩|⟨_,rfl⟩|⟨_,rfl⟩|⟨_,rfl⟩|⟨_,rfl⟩;·exact kM Tryz.func25 (by kernel_rfl) rfl args w
 ·exact kM Tryz.func26 (by kernel_rfl) rfl args w
 ·exact kM Tryz.func27 (by kernel_rfl) rfl args w
 ·exact kM Tryz.func28 (by kernel_rfl) rfl args w
 ·exact kM Tryz.func29 (by kernel_rfl) rfl args w
 ·exact kM Tryz.func30 (by kernel_rfl) rfl args w
 ·exact kM Tryz.func31 (by kernel_rfl) rfl args w
 ·exact kM Tryz.func32 (by kernel_rfl) rfl args w
 ·exact kM Tryz.func33 (by kernel_rfl) rfl args w
theorem RD {n:ByteArray}(h:yE n=none)(s:St)(a:List ByteArray):aX s (n::a)=(s,cX):=by
 unfold yE at h;by_cases b:n.toList=pA;·rw[if_pos b]at h;cases h
 rw[if_neg b]at h;by_cases c:n.toList=vE;·rw[if_pos c]at h;cases h
 rw[if_neg c]at h;by_cases d:n.toList=FI;·rw[if_pos d]at h;cases h
 rw[if_neg d]at h;by_cases e:n.toList=oI;·rw[if_pos e]at h;cases h
 rw[if_neg e]at h;by_cases f:n.toList=uN;·rw[if_pos f]at h;cases h
 rw[if_neg f]at h;by_cases g:n.toList=FK;·rw[if_pos g]at h;cases h
 rw[if_neg g]at h;by_cases i:n.toList=tW;·rw[if_pos i]at h;cases h
 rw[if_neg i]at h;by_cases j:n.toList=uR;·rw[if_pos j]at h;cases h
 rw[if_neg j]at h;by_cases k:n.toList=tZ;·rw[if_pos k]at h;cases h
 rw[if_neg k]at h;simp only[aX,b,c,d,e,f,g,i,j,k,if_false]
theorem NT (F:Nat->Prop)(S:Nat)(w:World)(s:St)(b:Bk)(v:Value)(j:kT F S w s b v)(i:Nat)(d:iP i s)(m:i<=1000)(n:ByteArray)(f:Nat)(q:yE n=some f)(a:List ByteArray)(g:Option Addr)(c:Nat)(k:Xs 1 dS w g a)(l:a.length<=c)(o:a.length<=1048570)(p:∀x∈a,x.size<=1048575):
 aY f #[.pointer (some ⟨S,0,none⟩),.slice g a.length c] w λe w'=>UW F S w s (aX s (n::a)) e w':=by
 rcases D3 q with⟨h,rfl⟩|⟨h,rfl⟩|⟨h,rfl⟩|⟨h,rfl⟩|⟨h,rfl⟩|⟨h,rfl⟩|⟨h,rfl⟩|⟨h,rfl⟩|⟨h,rfl⟩
 ·rw[show aX s (n::a)=fT s a by simp[aX,h]];exact LD F S w s b v j i d a g c k l p
 ·rw[show aX s (n::a)=jW s a by simp[aX,h]];exact PG F S w s b v j i d a g c k l o p
 ·rw[show aX s (n::a)=uE s a by simp[aX,h]];exact TQ F S w s b v j i d m a g c k
 ·rw[show aX s (n::a)=pF s a by simp[aX,h]];exact MK F S w s b v j i d a g c k m
 ·rw[show aX s (n::a)=nA true s a by simp[aX,h]];exact PJ F S w s b v j i d a g c k
 ·rw[show aX s (n::a)=nA false s a by simp[aX,h]];exact FM F S w s b v j i d a g c k
 ·rw[show aX s (n::a)=lT s a by simp[aX,h]];exact QQ F S w s b v j i d a g c k
 ·rw[show aX s (n::a)=mY s a by simp[aX,h]];exact RS F S w s b v j i d m a g c k
 ·rw[show aX s (n::a)=tX s a by simp[aX,h]];exact RX F S w s b v j i d a g c
theorem DQ (p:Addr)(x:ByteArray)(w:World)(a:w.cell? p=some (.string x))(c:w.frozen? p=false):
 CallsD Tryz.prog 35 #[.pointer (some p)] (.panicking [{ v:=.iface 67 (.agg #[]),recovered:=false}]) w λe d w'=>
  e=.returned (.tuple #[])/\d=.panicking [{ v:=.iface 67 (.agg #[]),recovered:=true}]/\w'=(w.alloc (.cells #[] 67)).setCell p (.string cX):=by
 have hta:∀w:World,(Instr.typeAssert (.iface 67 (.agg #[])) 20 67 true).run Tryz.prog w=.ok (.tuple #[.agg #[],.bool true]) w:=λ_=>by kernel_rfl
 have hcw:(w.alloc (.cells #[] 67)).cell? p=some (.string x):=((aB (br _ w) _).cell (aA a)).trans a;have hzw:(w.alloc (.cells #[] 67)).frozen? p=false:=((aB (br _ w) _).frozen (aA a)).trans c;refine callsD_of_wpS Tryz.func35 rfl λc₀ cs b=>?_;apply wpS_seq;apply wpS_region;simp[wpOpsS,go_sem,recoverD,b,Tryz.ntmps35,Exit.thenS];refine wpS_of_wp ?_;go_wp2;exact⟨rfl,_,rfl,_,results_none rfl _ _ _,rfl,rfl,rfl⟩
theorem MP (p:Addr)(w:World):
 CallsD Tryz.prog 35 #[.pointer (some p)] .returning w λe c w'=>e=.returned (.tuple #[])/\c=.returning/\w'=w:=by
 refine callsD_of_wpS Tryz.func35 rfl λa cs b=>?_;apply wpS_seq;apply wpS_region;simp[wpOpsS,go_sem,recoverD,b,Tryz.ntmps35,Exit.thenS];refine wpS_of_wp ?_;go_wp2;refine⟨rfl,.returning,?_,_,results_none rfl _ _ _,rfl,rfl,rfl⟩;cases a;simp_all
theorem ML (F:Nat->Prop)(S:Nat)(w:World)(s:St)(b:Bk)(v:Value)(hS:kT F S w s b v)(kk:Nat)(zf:iP kk s)(ze:kk<=1000)(i:ByteArray)(hline:i.size<=1048000)(r c:Nat)(hr:w.heap[r]?=some (.map (CD S) c)):
 aY 11 #[.string i,.map (some r)] w λe w'=>ZF F S w (aX s (bH 32 i)) e w':=by
 have hmf:∀(fn:Fn) (first zb:Array Value) (w:World),(Instr.makeFunc fn first zb).run Tryz.prog w=.ok (.func fn first zb) w:=λ_ _ _ _=>rfl;have o:aF w (w.alloc (.cells #[.string ⟨#[]⟩] 9)):=aB (br _ _) _;have z:Hid ((w.alloc (.cells #[.string ⟨#[]⟩] 9)).heap[w.heap.size]?=some (.cells #[.string ⟨#[]⟩] 9)):=wnq w _;have N:w.heap.size<(w.alloc (.cells #[.string ⟨#[]⟩] 9)).heap.size:=by simp
 obtain⟨R,hR⟩:=cK w.heap.size;have za:=aG hR;have X:Hid (∀q,F q->q<R):=λq hq=>by rw[←hR];exact(hS.fl q hq).2
 have Z:Hid (8<=R):=by rw[Hid,←hR];exact hS.e.s
 have I:=kP 32 i;go_enter_defers Tryz.func11,Tryz.ntmps11;go_wp2_with fail;rw[hR]at z N;obtain⟨W1,zc⟩:=cK (w.alloc (.cells #[.string ⟨#[]⟩] 9));rw[zc]at o z N ⊢;have zi:=aG o;have O:=hS.zL o;have zg:=bJ hr o;clear o hS hr zc hR;refine(GN i 32 W1 O.e (by omega)).mono ?_;rintro e V ⟨⟨rfl,hX⟩,m⟩;rw[show(((32:UInt8).toNat:Nat):Int)=32 from rfl]at hX ⊢;have T:∀x∈bH 32 i,x.size<=1048575:=λx hx=>by have:=nS hx;omega
 have U:=yP 32 i;obtain⟨L,hL⟩:=bP (bH 32 i);rw[←hL]at hX T U I ⊢;obtain⟨n,a,rfl⟩:=List.exists_cons_of_ne_nil U;have HL:=aG hL.symm;have zd:=i7 hX 1 [n] a [] (by simp) rfl;have c0:=gO hX 0 n rfl;rw[Nat.zero_add]at c0 zd;have l:=V1 S r c n V (bJ zg m);have Y:=aG (bJ z.oQ m);have J:=aG (aC zi.oQ m);have zj:=aG (Nat.lt_of_lt_of_le N m.size);have B:=O.zL m;rw[llc]at I ⊢
 have C:Hid (aX s (n::a)=(s,cX)->∀j,aF V j->ZF F S w (aX s (n::a)) (.returned (.string cX)) ((j.alloc (.cells #[] 67)).setCell ⟨R,0,none⟩ (.string cX))):=λhz j d=>by
  have hB:aF w ((j.alloc (.cells #[] 67)).setCell ⟨R,0,none⟩ (.string cX)):=(aB (aC J.oQ d) _).setCell (p:=⟨R,0,none⟩) (by show w.heap.size<=R;rw[za.oQ];exact nlq _) _;rw[hz]
  have zk:kT F S ((j.alloc (.cells #[] 67)).setCell ⟨R,0,none⟩ (.string cX)) s b v:=by
   refine(B.zL (aB d (.cells #[] 67))).out ?_ ?_;·exact(aT.refl _ _).set (g:=R) (λH=>by have:=X.oQ R H;omega) _ _
   ·exact(B.e.zL (aB d (.cells #[] 67))).but ((aT.refl (λk=>k=R) _).set (g:=R) rfl 0 (.string cX)) (λk e=>by rw[e];exact Z.oQ)
  exact⟨⟨F,b,v,zk,λk hk=>.inl hk⟩,rfl,aT.below hB⟩
 have D:Hid (∀j,aF V j->j.cell? ⟨R,0,none⟩=some (.string ⟨#[]⟩)/\j.frozen? ⟨R,0,none⟩=false/\((j.alloc (.cells #[] 67)).setCell ⟨R,0,none⟩ (.string cX)).cell? ⟨R,0,none⟩=some (.string cX)):=λj d=>by
  have h2:=bJ Y.oQ d;have h3:=bJ h2 (aB (br _ j) (.cells #[] 67));exact⟨aJ h2 rfl,by simp[World.frozen?,h2],aJ (aO h3 0 (.string cX)) rfl⟩
 clear hL hX U m O zg z;cases H:yE n with
 |none=>
  have HZ:=aG (RD H s a);rw[H]at l;simp only[Option.map_none,Option.getD_none,Option.isSome_none]at l;obtain⟨q1,q2,q3⟩:=D.oQ V (br _ _);have y:=C.oQ HZ.oQ V (br _ _);have y:Hid _:=y;go_wp2_with (go_at_call 36;refine(jD _).mono ?_;rintro e w' ⟨rfl,rfl⟩);refine leaves_cons (f:=35) (args:=#[.pointer (some ⟨R,0,none⟩)]) (by simp) (by simp[go_sem]) ?_;refine(DQ ⟨R,0,none⟩ ⟨#[]⟩ _ q1 q2).mono ?_;rintro e u' zh ⟨rfl,rfl,rfl⟩;simp[Leaves,settle,results,Tryz.results11,go_sem,q3];rw[HL.oQ];exact y.oQ
 |some f=>
  have hent:=RN H;rw[H]at l;simp only[Option.map_some,Option.getD_some,Option.isSome_some]at l;have W:Hid (∀x∈a,x.size<=1048575):=λx hx=>T x (List.mem_cons_of_mem _ hx);have E:Hid (a.length<=1048570):=by rw[Hid];omega
  have HF:=aG H;clear H T;rcases Nat.eq_zero_or_pos a.length with h1|h1
  case' inl=>
   have h0:=aG (List.eq_nil_of_length_eq_zero h1);go_wp2_with (go_at_call 36;refine(gD _).mono ?_;rintro e w' ⟨⟨u,rfl⟩,t⟩;rw[t];clear t);go_wp2_with fail;have hC:=NT F S V s b v B kk zf ze n f HF.oQ a (some ⟨W1.heap.size,0,none⟩) 0 (.inl h0.out) (by omega) E.oQ W.oQ;rw[h1]at hC;refine hC.mono ?_
  case' inr=>
   have h2:¬a.length=0:=by omega
   have h3:¬a=[]:=λe=>h2 (by rw[e];rfl);go_wp2_with (go_at_call 36;refine(gD _).mono ?_;rintro e w' ⟨⟨u,rfl⟩,t⟩;rw[t];clear t);go_wp2_with fail;refine(NT F S V s b v B kk zf ze n f HF.oQ a _ a.length zd (nlq _) E.oQ W.oQ).mono ?_
  all_goals
   rintro e j (⟨hz,rfl,d⟩|⟨⟨F',b',v',P,K⟩,rfl,d⟩)
   ·obtain⟨q1,q2,q3⟩:=D.oQ j d;have y:=C.oQ hz j d;have y:Hid _:=y;clear hz d;go_wp2;refine leaves_cons (f:=35) (args:=#[.pointer (some ⟨R,0,none⟩)]) (by simp) (by simp[go_sem]) ?_;refine(DQ ⟨R,0,none⟩ ⟨#[]⟩ _ q1 q2).mono ?_;rintro e u' zh ⟨rfl,rfl,rfl⟩;simp[Leaves,settle,results,Tryz.results11,go_sem,q3];rw[HL.oQ];exact y.oQ
   ·have M:¬F R:=λh=>by have:=X.oQ R h;omega
    have G:¬F' R:=λh=>(K R h).elim M (λh=>by have:=zj.oQ;omega);have A:=bE Y.oQ d M;have q1:j.cell? ⟨R,0,none⟩=some (.string ⟨#[]⟩):=aJ A rfl;have q2:=iQ A;have q3:∀x,(j.setCell ⟨R,0,none⟩ (.string x)).cell? ⟨R,0,none⟩=some (.string x):=λx=>aJ (aO A 0 (.string x)) rfl
    have y:Hid (∀x,x=(aX s (n::a)).2->ZF F S w (aX s (n::a)) (.returned (.string x)) (j.setCell ⟨R,0,none⟩ (.string x))):=λx hx=>by
     have Q:aT (λk=>k=R) j (j.setCell ⟨R,0,none⟩ (.string x)):=(aT.refl (λk=>k=R) j).set (g:=R) rfl _ _;exact⟨⟨F',b',v',P.out (Q.wide (λk e=>by rw[e];exact G)) (P.e.but Q (λk e=>by rw[e];exact Z.oQ)),λk hk=>(K k hk).elim .inl (λh=>.inr (Nat.le_trans J.oQ.size h))⟩,by rw[hx],((aT.below J.oQ).trans d).past Q (λk e=>.inr (by rw[za.oQ,e];exact nlq _))⟩
    obtain⟨x,hx⟩:=bP ((aX s (n::a)).2);rw[←hx];have HX:Hid _:=y.oQ x hx;clear d P K M G A hx y;go_wp2;refine leaves_cons (f:=35) (args:=#[.pointer (some ⟨R,0,none⟩)]) (by simp) (by simp[go_sem]) ?_;refine(MP ⟨R,0,none⟩ _).mono ?_;rintro e u' zh ⟨rfl,rfl,rfl⟩;simp[Leaves,settle,results,Tryz.results11,go_sem,q3];rw[HL.oQ];exact HX.oQ
end Go.Proofs.YtcdbcliaepcpfaaGreatDoor
