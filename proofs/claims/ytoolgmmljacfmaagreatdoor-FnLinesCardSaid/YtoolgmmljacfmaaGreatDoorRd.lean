import Derived.Test.YtoolgmmljacfmaaGreatDoorAl
import Derived.BigQuiet
set_option maxRecDepth 100000
set_option maxHeartbeats 2000000
open Go.Proofs.Tryz Go.RowKit
namespace Go.Proofs.YtoolgmmljacfmaaGreatDoor
open Go.BigFrame
theorem ZI (a b:Nat)(ha:a<9223372036854775808)(hb:b<9223372036854775808):
 bits .xor .i64 (a:Int) (b:Int)=((a^^^b:Nat):Int):=by
 have hx:a^^^b<2^63:=Nat.xor_lt_two_pow om om
 have c:(BitVec.ofInt 64 (a:Int)).toNat=a:=by
  rw[BitVec.ofInt_natCast,BitVec.toNat_ofNat];exact Nat.mod_eq_of_lt om
 have d:(BitVec.ofInt 64 (b:Int)).toNat=b:=by
  rw[BitVec.ofInt_natCast,BitVec.toNat_ofNat];exact Nat.mod_eq_of_lt om
 show IntKind.i64.wrap ((BitVec.ofInt 64 (a:Int)^^^BitVec.ofInt 64 (b:Int)).toNat:Int)=_;rw[BitVec.toNat_xor,c,d];simp[IntKind.wrap,IntKind.bits,IntKind.signed];omega
theorem ZM (x:Int)(a:0<=x)(h1:x<9223372036854775808):0<=bits .xor .i64 x (x/64):=by
 obtain⟨n,rfl⟩:=ieo a;rw[show(n:Int)/64=((n/64:Nat):Int)by omega,ZI _ _ om om];omega
structure Rd (w:World)(R:Nat)(ao:Option Addr)(n cap:Nat)(p:Int):Prop where
 row:∃f,w.rowIs R 72 2 f/\f 0=.slice ao n cap/\f 1=.int .i64 p
 bytes:n=0∨∃bl off,ao=some ⟨bl,off,none⟩/\bl<R/\∀i,i<n->∃x:Int,0<=x/\x<=255/\w.cell? ⟨bl,off+i,none⟩=some (.int .u8 x)
 n2:n<=2000
 p0:0<=p
 p1:p<=1000000
theorem YG (R n s:Nat)(F:Oa)(p m:Int)(w:Wd)(h:Rd w R F n s p)(hp:p<=999999)(hm:m<=1000000):
 aW 10 #[E R 0,I m] w λe w'=>(∃r:Int,e=rt (I r)/\0<=r/\(1<=m->r<m)/\(m<1->r=0))/\∃k,w'=(w.setCell (Y R 1) (I (p+1))).drewN k:=by
 obtain⟨⟨f,a,C,L⟩,M,n2,Q,p1⟩:=h;have G:=a.cell (i:=0) om;have H:=a.cell (i:=1) om;rw[C]at G;rw[L]at H;have hfr:=λi=>a.frozen i;have b:=a.set 1 (I (p+1));have J:=b.cell (i:=0) om;have K:=b.cell (i:=1) om;rw[if_neg om,C]at J;rw[if_pos rfl]at K;by_cases hm1:m<1
 ·go_enter func10,ntmps10;go_wp2;go_ret;exact⟨⟨0,rfl,om,om,λ_=>rfl⟩,0,rfl⟩
 by_cases g:n=0
 ·subst g;go_enter func10,ntmps10;go_wp2;go_ret;exact⟨⟨0,rfl,om,om,λ_=>rfl⟩,0,rfl⟩
 obtain⟨o,off,rfl,c,hx⟩:=M.resolve_left g;replace c:o≠R:=Nat.ne_of_lt c;obtain⟨q,rfl⟩:=ieo Q
 have off2:∀j v,w.cell? (Y o j)=some v->(w.setCell (Y R 1) (I ((q:Int)+1))).cell? (Y o j)=some v:=λj v D=>by
  simp only[World.cell?,bhs w (Y R 1) (I ((q:Int)+1)) o c]at D ⊢;exact D
 by_cases hk:(q:Int)<n
 ·obtain⟨x,S,T,B⟩:=hx q om;have u:0<=x%m:=Int.emod_nonneg x om;have A:x%m<m:=Int.emod_lt_of_pos x om;go_enter func10,ntmps10;go_wp2;go_ret;exact⟨⟨x%m,rfl,u,A,λh=>absurd h om⟩,0,rfl⟩
 ·have l:0<n:=Nat.pos_of_ne_zero g;obtain⟨i,N,e1⟩:∃i:Nat,i<n/\(q:Int)%(n:Int)=i:=⟨q%n,Nat.mod_lt _ l,(Int.natCast_emod q n).symm⟩;obtain⟨j,O,e2⟩:∃j:Nat,j<n/\((q:Int)*7+3)%(n:Int)=j:=⟨(q*7+3)%n,Nat.mod_lt _ l,by rw[Int.natCast_emod];simp⟩;obtain⟨d,hd,e3⟩:∃d:Nat,d<=q/\(q:Int)/(n:Int)=d:=⟨q/n,Nat.div_le_self _ _,(Int.natCast_ediv q n).symm⟩;obtain⟨x,S,T,B⟩:=hx i N;obtain⟨y,y0,y1,hyc⟩:=hx j O;go_enter func10,ntmps10;go_wp2;go_quiet (fail);go_wp2;go_ret;have AR:=ZM (x*131+y*1117+(q:Int)*29+(d:Int)*53) om om;obtain⟨z,P⟩:=cI (bits .xor .i64 (x*131+y*1117+(q:Int)*29+(d:Int)*53) ((x*131+y*1117+(q:Int)*29+(d:Int)*53)/64));rw[P]at AR ⊢;have t:0<m:=om;rw[Int.tmod_eq_emod_of_nonneg AR];exact⟨⟨z%m,rfl,Int.emod_nonneg z om,λ_=>Int.emod_lt_of_pos z t,λh=>absurd h om⟩,nq,rfl⟩
variable {R B k u y:Nat}{a b c w w':Wd}{v:Va}{l g:Oa}{p:Int}
structure aZ (R:Nat)(w w':World):Prop where
 os:w'.os=w.os
 tape:w'.tape=w.tape
 output:w'.output=w.output
 size:w.heap.size<=w'.heap.size
 block:∀k,k<w.heap.size->k≠R->w'.heap[k]?=w.heap[k]?
theorem aZ.refl (R:Nat)(w:Wd):aZ R w w:=⟨rfl,rfl,rfl,nlq _,λ_ _ _=>rfl⟩
theorem aZ.trans (h:aZ R a b)(g:aZ R b c):aZ R a c:=
 ⟨g.os.trans h.os,g.tape.trans h.tape,g.output.trans h.output,nlt h.size g.size,λk d e=>(g.block k (nll d h.size) e).trans (h.block k d e)⟩
theorem aZ.below {R:Nat}(h:aG b c):aZ R b c:=⟨h.os,h.tape,h.output,h.size,λk a _=>h.block k a⟩
theorem aZ.set (h:aZ R a c)(o:Nat)(u:Va):aZ R a (c.setCell (Y R o) u):=
 h.trans ⟨rfl,rfl,rfl,by show c.heap.size<=(c.heap.modify _ _).size;rw[Array.size_modify];exact nlq _,λk _ b=>bhs c (Y R o) u k b⟩
theorem aZ.drew (h:aZ R a b)(k:Nat):aZ R a (b.drewN k):=h.trans ⟨rfl,rfl,rfl,nlq _,λ_ _ _=>rfl⟩
theorem aZ.under (h:aZ R w w')(b:Below B a w)(c:B<=a.heap.size)(hR:B<=R):Below B a w':=
 b.trans ⟨h.os,h.tape,h.output,h.size,λk d=>h.block k (nll d (nlt c b.size)) om⟩
theorem aZ.cell {w w':Wd}(h:aZ R w w'){p:Addr}(b:p.block≠R)(a:w.cell? p=some v):w'.cell? p=some v:=by
 have:=h.block p.block (aA a) b;unfold World.cell? at a ⊢;rw[this];exact a
theorem Rd.lt (h:Rd w R l B k p):R<w.heap.size:=by
 obtain⟨⟨f,a,_,_⟩,_⟩:=h;exact aA (a.cell (i:=0) om)
theorem Rd.next (h:Rd w R g B u p)(hp:p<=999999)(k:Nat):Rd ((w.setCell (Y R 1) (I (p+1))).drewN k) R g B u (p+1):=by
 have m:=((aZ.refl R w).set 1 (I (p+1))).drew k;obtain⟨⟨f,c,l,f1⟩,hx,r,p0,p1⟩:=h;refine⟨⟨_,c.set 1 (I (p+1)),?_,?_⟩,?_,r,om,om⟩;·rw[if_neg om];exact l
 ·rw[if_pos rfl]
 ·rcases hx with hx|⟨j,d,e,b,hx⟩;·exact Or.inl hx
  ·refine Or.inr ⟨j,d,e,b,λi q=>?_⟩;obtain⟨x,s,t,o⟩:=hx i q;exact⟨x,s,t,m.cell (p:=(Y j (d+i))) (Nat.ne_of_lt b) o⟩
theorem Rd.zL {w w':Wd}(h:Rd w R g B y p)(k:Below (R+1) w w'):Rd w' R g B y p:=by
 obtain⟨⟨f,a,l,m⟩,hx,r,s,t⟩:=h;refine⟨⟨f,?_,l,m⟩,?_,r,s,t⟩
 ·have:=k.block R (Nat.lt_succ_self R);simp only[World.rowIs]at a ⊢;rw[this];exact a
 ·rcases hx with hx|⟨j,d,e,c,hx⟩;·exact Or.inl hx
  ·refine Or.inr ⟨j,d,e,c,λi q=>?_⟩;obtain⟨x,u,v,o⟩:=hx i q;exact⟨x,u,v,(k.cell (p:=(Y j (d+i))) (Nat.lt_succ_of_lt c)).trans o⟩
theorem bP (R n a:Nat)(b:Oa)(p m:Int)(w:Wd)(h:Rd w R b n a p)(c:p<=999999)(f:m<=1000000):
 aW 10 #[E R 0,I m] w λe w'=>(∃r:Int,e=rt (I r)/\0<=r/\(1<=m->r<m)/\(m<1->r=0))/\Rd w' R b n a (p+1)/\aZ R w w':=
 (YG R n a b p m w h c f).mono λ_ _ ⟨g,k,d⟩=>⟨g,by rw[d];exact h.next c k,by rw[d];exact((aZ.refl R w).set 1 _).drew k⟩
variable {W:Wd}{c:Oa}
def wQ (w:World)(ao:Option Addr)(n:Nat):Prop:=
 n=0∨∃bl off,ao=some (Y bl off)/\∀i,i<n->∃x:Int,0<=x/\x<=255/\w.cell? (Y bl (off+i))=some (.int .u8 x)
theorem wQ.rd {n m a:Nat}(h:wQ w c n)(hm:m<=n)(k:m<=2000)(l:aG w W)
 (r:∃f,W.rowIs w.heap.size 72 2 f/\f 0=.slice c m a/\f 1=I 0):Rd W w.heap.size c m a 0:=by
 refine⟨r,?_,k,om,om⟩;rcases h with h|⟨d,b,e,hx⟩;·exact Or.inl om
 ·by_cases j:m=0;·exact Or.inl j
  obtain⟨_,_,_,g⟩:=hx 0 om;have q:d<w.heap.size:=aA g;refine Or.inr ⟨d,b,e,om,λi hi=>?_⟩;obtain⟨x,s,t,o⟩:=hx i om;exact⟨x,s,t,(l.cell (p:=(Y d (b+i))) q).trans o⟩
theorem XR (n a:Nat)(c:Oa)(w:Wd)(h:wQ w c n)(hn:n<=1048576)(hc:n<=a)(hc2:a<=9223372036854775807):
 aW 7 #[.slice c n a] w λe w'=>e=rt (E w.heap.size 0)/\aG w w'/\∃m,Rd w' w.heap.size c m a 0:=by
 by_cases h2:2000<n
 ·obtain⟨d,b,rfl,hx⟩:=h.resolve_left om;go_enter Tryz.func7,Tryz.ntmps7;go_wp2;go_ret;refine⟨rfl,(br _ w).alloc (nlq _) _,2000,wQ.rd (n:=n) (Or.inr ⟨d,b,rfl,hx⟩) om om ((br _ w).alloc (nlq _) _) ?_⟩;exact⟨λi=>if i=0 then(sl d b 2000 a)else I 0,wra w #[sl d b 2000 a,I 0] 72 _ (λi f=>by rcases i with _|_|i<;>first|rfl|(simp at f;omega)),rfl,rfl⟩
 ·go_enter Tryz.func7,Tryz.ntmps7;go_wp2;go_ret;refine⟨rfl,(br _ w).alloc (nlq _) _,n,wQ.rd (n:=n) h om om ((br _ w).alloc (nlq _) _) ?_⟩;exact⟨λi=>if i=0 then .slice c n a else I 0,wra w #[.slice c n a,I 0] 72 _ (λi f=>by rcases i with _|_|i<;>first|rfl|(simp at f;omega)),rfl,rfl⟩
