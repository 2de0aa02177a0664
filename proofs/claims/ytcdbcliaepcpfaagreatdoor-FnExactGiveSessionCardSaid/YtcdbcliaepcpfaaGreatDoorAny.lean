import Derived.TacticsInMore
import Derived.Test.YtcdbcliaepcpfaaGreatDoorAftIn
import Derived.StillTail
namespace Go.Proofs.YtcdbcliaepcpfaaGreatDoor
open Go.RowKit
section
variable {F:Fence}{n:Nat}{P:Program}{ops:Array Oper}{Q:Exit->Act->World->Prop}
theorem dH {o:Oper} {i:Nat} {K:Act->World->Prop} {a:Act} {w:World} (d:ops[i]?=some o) (h:wpListIn F n P ops (Exit.then K Q) [o] a w):wpOpIn F n P ops Q i K a w:=by
 unfold wpOpIn;rw[d];simp only[wpListIn]at h;dsimp only;split
 ·rename_i c;rw[if_pos c]at h;refine⟨h.1,?_⟩;have b:=h.2;generalize(Oper.semAt F.round a.eval o).run P w=r at b ⊢;cases r with
  |ok x w'=>cases x<;>exact b
  |halt x w'=>cases x<;>exact b
 ·rename_i c;rw[if_neg c]at h;exact h
theorem DZ {l:List Bool}{i:Nat}(h:l[i]?=some false):(l.set i true).count false+1=l.count false:=by
 induction l generalizing i with
 |nil=>simp at h
 |cons b r ih=>
  cases i with
  |zero=>simp at h;subst h;simp
  |succ i=>simp at h;have:=ih h;cases b<;>simp<;>omega
theorem qN {md:Region.Mode}{a:Array Bool}{i:Nat}(h:i∈Region.ready md ops a):a.toList[i]?=some false:=by
 have c:=(mem_ready.1 h).1;rw[Array.getElem?_toList];cases e:a[i]? with
 |none=>rw[Array.getD_eq_getD_getElem?,e]at c;cases c
 |some b=>rw[Array.getD_eq_getD_getElem?,e]at c;simp at c;rw[c]
theorem xP (d:Array Bool->Act->World->Prop)
 (f:∀b a w i o,d b a w->i∈Region.ready .any ops b->ops[i]?=some o->wpListIn F n P ops (Exit.then (λh w'=>d (b.setIfInBounds i true) h w') Q) [o] a w)
 (e:∀b a w,d b a w->Region.ready .any ops b=[]->Q .normal a w):
 ∀(c:Nat) (b:Array Bool) (a:Act) (w:World),d b a w->b.toList.count false<=c->wpAnyIn F n P .any ops Q c b a w
 |0,b,a,w,hI,hc=>by
  have m:Region.ready .any ops b=[]:=by
   rw[List.eq_nil_iff_forall_not_mem];intro i j;have:=DZ (qN j);omega
  exact⟨m,e _ _ _ hI m⟩
 |c+1,b,a,w,hI,hc=>⟨e _ _ _ hI,λi j=>by
  obtain⟨_,o,k,_⟩:=mem_ready.1 j;have g:=dH k (f _ _ _ _ _ hI j k);have hcs:=DZ (qN j);unfold wpOpIn at g ⊢;rw[k]at g ⊢
  dsimp only at g ⊢
  have p:∀h w',d (b.setIfInBounds i true) h w'->wpAnyIn F n P .any ops Q c (b.setIfInBounds i true) h w':=λh w' h'=>xP d f e c _ h w' h' (by rw[Array.toList_setIfInBounds];omega)
  split
  ·rename_i l;rw[if_pos l]at g;exact Oper.wpIn_mono p g
  ·rename_i l;rw[if_neg l]at g;exact⟨g.1,p _ _ g.2⟩⟩
theorem f9 {id:Nat} {a:Act} {w:World} {l:List Oper} (h:P.follows .mixedOrders=true) (c:Array Bool->Act->World->Prop)
 (g:c (Array.replicate l.length false) a w.drew)
 (d:∀b a w i o,c b a w->i∈Region.ready .any l.toArray b->l.toArray[i]?=some o->wpListIn F n P l.toArray (Exit.then (λf w'=>c (b.setIfInBounds i true) f w') Q) [o] a w)
 (e:∀b a w,c b a w->Region.ready .any l.toArray b=[]->Q .normal a w):(Code.region id l.toArray true).wpIn F n P Q a w:=
 wpIn_region_any h (xP c d e _ _ _ _ (by simpa using g) (by simp))
theorem NH {md:Region.Mode}{a:Array Bool}(h:Region.ready md ops a=[])(d:∀(i:Nat)(o:Oper),ops[i]?=some o->∀e∈o.after,Edge.on e<i)(hs:a.size=ops.size):∀i,i<ops.size->a.getD i false=true:=by
 intro i;induction i using Nat.strongRecOn with
 |_ i ih=>
  intro c;have b:i<a.size:=by omega
  cases hb:a[i]with
  |true=>rw[Array.getD_eq_getD_getElem?,Array.getElem?_eq_getElem b,hb];rfl
  |false=>
   have:i∈Region.ready md ops a:=by
    refine mem_ready.2 ⟨by rw[Array.getD_eq_getD_getElem?,Array.getElem?_eq_getElem b,hb];rfl,ops[i],Array.getElem?_eq_getElem c,λe f _=>?_⟩;have:=d i _ (Array.getElem?_eq_getElem c) e f;exact ih _ this (by omega)
   rw[h]at this;cases this
theorem dJ {a:Array Bool}{i j:Nat}(h:(a.setIfInBounds i true).getD j false=true):j=i∨a.getD j false=true:=by
 by_cases e:j=i;·exact .inl e
 ·right;rw[Array.getD_eq_getD_getElem?]at h ⊢;rw[Array.getElem?_setIfInBounds_ne (by omega)]at h;exact h
theorem dW {i:Nat}{K e:Act->World->Prop}{a:Act}{w:World}(b:∀a w,K a w->e a w)(h:wpOpIn F n P ops Q i K a w):wpOpIn F n P ops Q i e a w:=by
 unfold wpOpIn at h ⊢;split;·rename_i c;simp only[c]at h;exact b _ _ h
 ·rename_i o c;simp only[c]at h;split;·rename_i d;rw[if_pos d]at h;exact Oper.wpIn_mono b h
  ·rename_i d;rw[if_neg d]at h;exact⟨h.1,b _ _ h.2⟩
theorem cC {o:Oper}{i:Nat}{K:Act->World->Prop}{a:Act}{w:World}(d:ops[i]?=some o)(h:wpOpIn F n P ops Q i K a w):wpListIn F n P ops (Exit.then K Q) [o] a w:=by
 unfold wpOpIn at h;rw[d]at h;dsimp only at h;simp only[wpListIn];split
 ·rename_i c;rw[if_pos c]at h;refine⟨h.1,?_⟩;have b:=h.2;generalize(Oper.semAt F.round a.eval o).run P w=r at b ⊢;cases r with
  |ok x w'=>cases x<;>exact b
  |halt x w'=>cases x<;>exact b
 ·rename_i c;rw[if_neg c]at h;exact h
abbrev gZ (listed:Array Bool)(i:Nat):Prop:=listed.getD i false=true
theorem gF {a:Array Bool}{i j:Nat}(b:j<a.size)(h:j=i∨gZ a j):gZ (a.setIfInBounds i true) j:=by
 unfold gZ;rw[Array.getD_eq_getD_getElem?];by_cases e:i=j;·subst e;simp[b]
 ·rw[Array.getElem?_setIfInBounds_ne e];rcases h with h|h;·exact absurd h.symm e
  ·unfold gZ at h;rw[Array.getD_eq_getD_getElem?]at h;exact h
theorem eG (k j:Nat):¬gZ (Array.replicate k false) j:=by
 unfold gZ;rw[Array.getD_eq_getD_getElem?,Array.getElem?_replicate];split<;>simp
theorem lQ {a:Array Bool}{i:Nat}(h:a.getD i true=false):¬gZ a i:=by
 unfold gZ;intro c;rw[Array.getD_eq_getD_getElem?]at h c;cases e:a[i]? with
 |none=>rw[e]at h;cases h
 |some b=>rw[e]at h c;simp at h c;rw[h]at c;cases c
def aH (vs:Nat->Value)(i:Nat)(v:Value):Nat->Value:=λj=>if j=i then v else vs j
theorem jF {id:Nat} {w:World} {l:List Oper} (T:P.follows .mixedOrders=true) (N:Nat) (M:l.length=N+1) (D:(Nat->Value)->Act) (E:Nat->Value) (q:Nat->Value->World->Prop)
 (L:∀j v w w',q j v w->aF w w'->q j v w')
 (p:∀(i:Nat) (o:Oper),l[i]?=some o->∀e∈o.after,Edge.on e<i) (f:∀(o:Oper),l[N]?=some o->∀j,j<N->∃e∈o.after,Region.binds .any e=true/\Edge.on e=j)
 (t:∀(i:Nat) (o:Oper) c w',i<N->l[i]?=some o->aF w w'->(∀e∈o.after,Region.binds .any e=true->q (Edge.on e) (c (Edge.on e)) w')->
  wpListIn F n P l.toArray (Exit.then (λx d=>∃v,x=D (aH c i v)/\q i v d/\aF w' d) Q) [o] (D c) w')
 (A:∀(o:Oper) c w',l[N]?=some o->aF w w'->(∀j,j<N->q j (c j) w')->wpListIn F n P l.toArray (Exit.then (λx d=>Q .normal x d) Q) [o] (D c) w'):
 (Code.region id l.toArray true).wpIn F n P Q (D E) w:=by
 have hsz:l.toArray.size=N+1:=by simpa using M
 refine f9 T (λb a w'=>b.size=N+1/\((∃c,a=D c/\¬gZ b N/\aF w w'/\∀j,j<N->gZ b j->q j (c j) w')∨(Q .normal a w'/\∀j,j<=N->gZ b j))) ?_ ?_ ?_
 ·exact⟨by simp[M],.inl ⟨E,rfl,eG _ _,(br _ _).drew,λj B h=>absurd h (eG _ _)⟩⟩
 ·rintro b a w' i o ⟨K,⟨c,rfl,r,G,S⟩|⟨_,y⟩⟩ R k
  ·obtain⟨hun,o',C,O⟩:=mem_ready.1 R
   rw[k]at C
   cases C
   have hil:i<N+1:=by have:=(bU k);omega
   have g:l[i]?=some o:=by simpa using k
   have z:∀e∈o.after,Region.binds .any e=true->q (Edge.on e) (c (Edge.on e)) w':=λe u m=>S _ (by have:=p i o g e u;omega) (O e u m)
   by_cases J:i=N
   ·subst J
    refine cC k (dW (λx d h=>⟨by simp[K],.inr ⟨h,λj B=>gF (by omega) ?_⟩⟩) (dH k (A o c w' g G (λj B=>?_))))
    ·by_cases e:j=i
     ·exact .inl e
     ·obtain⟨I,u,m,s⟩:=f o g j (by omega)
      right
      have:=O I u m;rw[s]at this;exact this
    ·obtain⟨I,u,m,s⟩:=f o g j B
     have:=z I u m;rw[s]at this;exact this
   ·refine cC k (dW (λx d h=>?_) (dH k (t i o c w' (by omega) g G z)))
    obtain⟨v,rfl,V,m⟩:=h;refine⟨by simp[K],.inl ⟨aH c i v,rfl,λh=>?_,G.trans (m.mono G.size),λj B h=>?_⟩⟩
    ·rcases dJ h with e|e
     ·omega
     ·exact r e
    ·unfold aH
     split
     ·rename_i e;subst e;exact V
     ·rename_i e
      rcases dJ h with H|H
      ·exact absurd H e
      ·exact L _ _ _ _ (S j B H) m
  ·exact absurd (y i (by have:=(bU k);omega)) (lQ (mem_ready.1 R).1)
 ·rintro b a w' ⟨K,⟨c,rfl,r,_⟩|⟨h,_⟩⟩ U
  ·exact absurd (NH U (λi o k=>p i o (by simpa using k)) (by omega) N (by omega)) r
  ·exact h
def ZH (l:List Oper):Bool:=(List.range l.length).all λi=>match l[i]? with
 |some o=>o.after.all λe=>decide (e.on<i)
 |none=>true
def WQ (l:List Oper)(N:Nat):Bool:=match l[N]? with
 |some o=>(List.range N).all λj=>o.after.any λe=>Region.binds .any e&&decide (e.on=j)
 |none=>true
theorem GK {l:List Oper}(h:ZH l=true)(i:Nat)(o:Oper)(a:l[i]?=some o):∀e∈o.after,Edge.on e<i:=by
 have c:i<l.length:=(lgs.1 a).1;have:=lat.1 h i (by simp[c]);rw[a]at this;simp only[Array.all_eq_true']at this;intro e b;have:=this e b;simpa using this
theorem yK {l:List Oper}{N:Nat}(h:WQ l N=true)(o:Oper)(d:l[N]?=some o)(j:Nat)(c:j<N):∃e∈o.after,Region.binds .any e=true/\Edge.on e=j:=by
 unfold WQ at h;rw[d]at h;have:=lat.1 h j (by simp[c]);obtain⟨e,b,a⟩:=Array.any_eq_true'.1 this;simp only[bat,dte]at a;exact⟨e,b,a.1,a.2⟩
end
section
variable {F:Fence}{n:Nat}{P:Program}{Q:Exit->Act->World->Prop}
theorem lX {b:Array Oper}{a:Array Bool}(h:Region.ready .any b a=[])(g:∀(i:Nat)(o:Oper),b[i]?=some o->∀e∈o.after,Region.binds .any e=true->Edge.on e<i)(hs:a.size=b.size):∀i,i<b.size->a.getD i false=true:=by
 intro i;induction i using Nat.strongRecOn with
 |_ i ih=>
  intro f;have c:i<a.size:=by omega
  cases hb:a[i]with
  |true=>rw[Array.getD_eq_getD_getElem?,Array.getElem?_eq_getElem c,hb];rfl
  |false=>
   have:i∈Region.ready .any b a:=by
    refine mem_ready.2 ⟨by rw[Array.getD_eq_getD_getElem?,Array.getElem?_eq_getElem c,hb];rfl,b[i],Array.getElem?_eq_getElem f,λe j d=>?_⟩;have:=g i _ (Array.getElem?_eq_getElem f) e j d;exact ih _ this (by omega)
   rw[h]at this;cases this
def zN (l:List Oper):Bool:=(List.range l.length).all λi=>match l[i]? with
 |some o=>o.after.all λe=>!Region.binds .any e||decide (e.on<i)
 |none=>true
theorem o5 {l:List Oper}(h:zN l=true)(i:Nat)(o:Oper)(a:l[i]?=some o):∀e∈o.after,Region.binds .any e=true->Edge.on e<i:=by
 have d:i<l.length:=(lgs.1 a).1;have:=lat.1 h i (by simp[d]);rw[a]at this;simp only[Array.all_eq_true']at this;intro e c b;have:=this e c;rw[b]at this;simpa using this
def dE (mk:(Nat->Value)->Act)(Pr:Nat->(Nat->Value)->World->Prop)(D:Nat->Prop)(i:Nat)(vs:Nat->Value)(w:World)(a':Act)(w'':World):Prop:=∃v,a'=mk (aH vs i v)/\aF w w''/\∀j,j=i∨D j->Pr j (aH vs i v) w''
theorem dE.mk' {e:(Nat->Value)->Act}{c:Nat->(Nat->Value)->World->Prop}{D:Nat->Prop}{i:Nat}{b:Nat->Value}{w:World}{d:Act}{a:World}(v:Value)(f:d=e (aH b i v))(g:aF w a)(k:c i (aH b i v) a)(l:∀j,D j->c j (aH b i v) a):dE e c D i b w d a:=
 ⟨v,f,g,λj h=>by rcases h with h|h;exact h▸k;exact l j h⟩
theorem nH {id:Nat} {w:World} {l:List Oper} (S:P.follows .mixedOrders=true) (E:(Nat->Value)->Act) (g:Nat->Value) (G:Nat->(Nat->Value)->World->Prop)
 (k:∀(i:Nat) (o:Oper),l[i]?=some o->∀e∈o.after,Region.binds .any e=true->Edge.on e<i)
 (t:∀(D:Nat->Prop) (i:Nat) (o:Oper) c w',¬D i->(∀j,¬D j->c j=g j)->(∀j f,D j->l[j]?=some f->∀e∈f.after,Region.binds .any e=true->D (Edge.on e))->l[i]?=some o->
  (∀e∈o.after,Region.binds .any e=true->D (Edge.on e))->aF w w'->(∀j,D j->G j c w')->
  wpListIn F n P l.toArray (Exit.then (dE E G D i c w) Q) [o] (E c) w')
 (A:∀c w',aF w w'->(∀j,j<l.length->G j c w')->Q .normal (E c) w'):
 (Code.region id l.toArray true).wpIn F n P Q (E g) w:=by
 have hsz:l.toArray.size=l.length:=by simp
 refine f9 S (λb a w'=>b.size=l.length/\∃c,a=E c/\aF w w'/\(∀j,¬gZ b j->c j=g j)/\(∀j f,gZ b j->l[j]?=some f->∀e∈f.after,Region.binds .any e=true->gZ b (Edge.on e))/\∀j,gZ b j->G j c w') ?_ ?_ ?_;·exact⟨by simp,g,rfl,(br _ _).drew,λ_ _=>rfl,λj f h=>absurd h (eG _ _),λj h=>absurd h (eG _ _)⟩
 ·rintro b a w' i o ⟨N,c,rfl,H,u,p,L⟩ R x;obtain⟨C,f,B,O⟩:=mem_ready.1 R;rw[x]at B;cases B;have s:l[i]?=some o:=by simpa using x
  have hil:i<l.length:=(lgs.1 s).1;have y:∀e∈o.after,Region.binds .any e=true->gZ b (Edge.on e):=λe z I=>O e z I;refine cC x (dW (λa' w'' h=>?_) (dH x (t (gZ b) i o c w' (lQ C) u p s y H L)));obtain⟨v,rfl,I,M⟩:=h;refine⟨by simp[N],aH c i v,rfl,I,λj q=>?_,λj f q d e z m=>?_,λj q=>M j (dJ q)⟩
  ·have J:j≠i:=λe=>q (by subst e;exact gF (by omega) (.inl rfl));unfold aH;rw[if_neg J];refine u j (λh=>q ?_)
   have r:j<b.size:=by
    by_cases r:j<b.size;·exact r
    ·unfold gZ at h;rw[Array.getD_eq_getD_getElem?,Array.getElem?_eq_none (by omega)]at h;cases h
   exact gF r (.inr h)
  ·have K:Edge.on e<b.size:=by
    have h1:=k j f d e z m;have h2:=(lgs.1 d).1;omega
   refine gF K (.inr ?_);rcases dJ q with h|h;·subst h;rw[s]at d;cases d;exact y e z m
   ·exact p j f h d e z m
 ·rintro b a w' ⟨N,c,rfl,H,u,p,L⟩ T;exact A c w' H (λj q=>L j (lX T (λi o x=>k i o (by simpa using x)) (by omega) j (by omega)))
end
section
variable {F:Fence}{n:Nat}{P:Program}{Q:Exit->Act->World->Prop}
theorem H0 {l:List Oper}{N:Nat}{D:Nat->Prop}{p:Oper}(g:l[N]?=some p)(v:Region.sinkB .any l.toArray N=true)(f:∀j o,D j->l[j]?=some o->∀e∈o.after,Region.binds .any e=true->D (Edge.on e))(t:∀e∈p.after,Region.binds .any e=true->D (Edge.on e)):
 ∀(d i:Nat),i+d+1=N->D i:=by
 intro d;induction d using Nat.strongRecOn with
 |_ d ih=>
  intro i hi;have s:=lat.1 v i (by simp;omega);obtain⟨j,u,k⟩:=List.any_eq_true.1 s;simp only[bat,dte]at k;have hjN:j<=N:=by simp at u;omega
  obtain⟨q,h,e,n,m,b⟩:=Region.waitsFor_spec k.2;have a:l[j]?=some q:=by simpa using h
  by_cases r:j=N
  ·subst r;rw[g]at a;cases a;rw[←b];exact t e n m
  ·have c:D j:=ih (N-1-j) (by omega) j (by omega);rw[←b];exact f j q c a e n m
theorem nL {id:Nat} {w:World} {l:List Oper} (hm:P.follows .mixedOrders=true) (N:Nat) (hN:l.length=N+2) (U:(Nat->Value)->Act) (V:Nat->Value) (J:Nat->Value->World->Prop)
 (zc:∀j v w w',J j v w->aF w w'->J j v w')
 (r:∀(i:Nat) (o:Oper),l[i]?=some o->∀e∈o.after,Region.binds .any e=true->Edge.on e<i) (H:Region.sinkB .any l.toArray N=true) (G:Region.waitsFor .any l.toArray (N+1) N=true)
 (I:∀(i:Nat) (o:Oper) k w',i<N->l[i]?=some o->aF w w'->(∀e∈o.after,Region.binds .any e=true->J (Edge.on e) (k (Edge.on e)) w')->
  wpListIn F n P l.toArray (Exit.then (λK g=>∃v,K=U (aH k i v)/\J i v g/\aF w' g) Q) [o] (U k) w')
 (M:∀(o m:Oper) k w',l[N]?=some o->l[N+1]?=some m->aF w w'->(∀j,j<N->J j (k j) w')->
  wpListIn F n P l.toArray (Exit.then (λK g=>wpListIn F n P l.toArray (Exit.then (λa w=>Q .normal a w) Q) [m] K g) Q) [o] (U k) w'):
 (Code.region id l.toArray true).wpIn F n P Q (U V) w:=by
 obtain⟨oN,hoN⟩:∃o,l[N]?=some o:=⟨l[N]'(by omega),by simp⟩;obtain⟨oM,R⟩:∃o,l[N+1]?=some o:=⟨l[N+1]'(by omega),by simp⟩
 refine f9 hm (λb a w'=>b.size=N+2/\(∀j m,gZ b j->l[j]?=some m->∀e∈m.after,Region.binds .any e=true->gZ b (Edge.on e))/\
  ((∃k,a=U k/\¬gZ b N/\¬gZ b (N+1)/\aF w w'/\∀j,j<N->gZ b j->J j (k j) w')∨
   ((∀j,j<=N->gZ b j)/\¬gZ b (N+1)/\wpListIn F n P l.toArray (Exit.then (λa w=>Q .normal a w) Q) [oM] a w')∨
   ((∀j,j<=N+1->gZ b j)/\Q .normal a w'))) ?_ ?_ ?_
 ·exact⟨by simp[hN],λj m h=>absurd h (eG _ _),.inl ⟨V,rfl,eG _ _,eG _ _,(br _ _).drew,λj y h=>absurd h (eG _ _)⟩⟩
 ·rintro b a w' i o ⟨X,D,f⟩ hi u
  obtain⟨T,m,O,hd⟩:=mem_ready.1 hi;rw[u]at O
  cases O
  have d:l[i]?=some o:=by simpa using u
  have hil:i<N+2:=by have:=(lgs.1 d).1;omega
  have A:∀e∈o.after,Region.binds .any e=true->gZ b (Edge.on e):=λe x z=>hd e x z
  have q:∀j m,gZ (b.setIfInBounds i true) j->l[j]?=some m->∀e∈m.after,Region.binds .any e=true->gZ (b.setIfInBounds i true) (Edge.on e):=λj m y s e x C=>by
   have za:Edge.on e<b.size:=by
    have h1:=r j m s e x C;have h2:=(lgs.1 s).1;omega
   refine gF za (.inr ?_)
   rcases dJ y with h|h
   ·subst h;rw[d]at s;cases s;exact A e x C
   ·exact D j m h s e x C
  rcases f with⟨k,rfl,B,t,W,hp⟩|⟨c,t,hk⟩|⟨c,_⟩
  ·by_cases E:i=N+1
   ·subst E
    obtain⟨oj,S,e,x,z,zb⟩:=Region.waitsFor_spec G;have:oj=o:=by rw[u]at S;exact(Option.some.inj S).symm
    subst this;have:=A e x z;rw[zb]at this;exact absurd this B
   ·by_cases Z:i=N
    ·subst Z
     have p:∀j,j<i->gZ b j:=λj y=>H0 d H D A (i-1-j) j (by omega);refine cC u (dW (λK g h=>⟨by simp[X],q,.inr (.inl ⟨λj y=>gF (by omega) ?_,λh=>?_,h⟩)⟩) (dH u (M o oM k w' d R W (λj y=>hp j y (p j y)))))
     ·by_cases e:j=i
      ·exact .inl e
      ·exact .inr (p j (by omega))
     ·rcases dJ h with e|e
      ·omega
      ·exact t e
    ·refine cC u (dW (λK g h=>?_) (dH u (I i o k w' (by omega) d W (λe x z=>hp _ (by have:=r i o d e x z;omega) (A e x z)))))
     obtain⟨v,rfl,hv,z⟩:=h;refine⟨by simp[X],q,.inl ⟨aH k i v,rfl,λh=>?_,λh=>?_,W.trans (z.mono W.size),λj y h=>?_⟩⟩
     ·rcases dJ h with e|e
      ·omega
      ·exact B e
     ·rcases dJ h with e|e
      ·omega
      ·exact t e
     ·unfold aH
      split
      ·rename_i e;subst e;exact hv
      ·rename_i e
       rcases dJ h with Y|Y
       ·exact absurd Y e
       ·exact zc _ _ _ _ (hp j y Y) z
  ·have E:i=N+1:=by
    by_cases e:i<=N
    ·exact absurd (c i e) (lQ T)
    ·omega
   subst E;have:oM=o:=by rw[R]at d;exact Option.some.inj d
   subst this;refine cC u (dW (λK g h=>⟨by simp[X],q,.inr (.inr ⟨λj y=>gF (by omega) ?_,h⟩)⟩) (dH u hk))
   by_cases e:j=N+1
   ·exact .inl e
   ·exact .inr (c j (by omega))
  ·exact absurd (c i (by omega)) (lQ T)
 ·rintro b a w' ⟨X,D,f⟩ hr
  have L:=lX hr (λi o u=>r i o (by simpa using u)) (by simp;omega)
  rcases f with⟨k,rfl,B,_⟩|⟨c,t,hk⟩|⟨_,h⟩
  ·exact absurd (L N (by simp;omega)) B
  ·exact absurd (L (N+1) (by simp;omega)) t
  ·exact h
end
section
variable {F:Fence}{n:Nat}{P:Program}{Q:Exit->Act->World->Prop}
def BU (l:List Oper)(N:Nat):Bool:=(List.range l.length).all λi=>decide (i<=N)||Region.waitsFor .any l.toArray i (i-1)
theorem mF {b:Array Oper}{o:Oper}{i:Nat}{c:List Oper}{a:Act}{w:World}(d:b[i]?=some o)(h:wpListIn F n P b Q (o::c) a w):wpOpIn F n P b Q i (wpListIn F n P b Q c) a w:=by
 unfold wpOpIn;rw[d];exact h
theorem tK {id:Nat} {w:World} {l:List Oper} (hm:P.follows .mixedOrders=true) (N:Nat) (hN:N<l.length) (X:(Nat->Value)->Act) (Y:Nat->Value) (M:Nat->Value->World->Prop)
 (ze:∀j v w w',M j v w->aF w w'->M j v w')
 (r:∀(i:Nat) (o:Oper),l[i]?=some o->∀e∈o.after,Region.binds .any e=true->Edge.on e<i) (K:Region.sinkB .any l.toArray N=true) (E:BU l N=true)
 (L:∀(i:Nat) (o:Oper) f w',i<N->l[i]?=some o->aF w w'->(∀e∈o.after,Region.binds .any e=true->M (Edge.on e) (f (Edge.on e)) w')->
  wpListIn F n P l.toArray (Exit.then (λZ z=>∃v,Z=X (aH f i v)/\M i v z/\aF w' z) Q) [o] (X f) w')
 (R:∀f w',aF w w'->(∀j,j<N->M j (f j) w')->wpListIn F n P l.toArray Q (l.drop N) (X f) w'):
 (Code.region id l.toArray true).wpIn F n P Q (X Y) w:=by
 refine f9 hm (λb a w'=>b.size=l.length/\(∀j B,gZ b j->l[j]?=some B->∀e∈B.after,Region.binds .any e=true->gZ b (Edge.on e))/\
  ((∃f,a=X f/\(∀j,N<=j->¬gZ b j)/\aF w w'/\∀j,j<N->gZ b j->M j (f j) w')∨
   (∃t,N<t/\t<=l.length/\(∀j,j<t->gZ b j)/\(∀j,t<=j->¬gZ b j)/\wpListIn F n P l.toArray Q (l.drop t) a w'))) ?_ ?_ ?_
 ·exact⟨by simp,λj B h=>absurd h (eG _ _),.inl ⟨Y,rfl,λj _=>eG _ _,(br _ _).drew,λj k h=>absurd h (eG _ _)⟩⟩
 ·rintro b a w' i o ⟨hs,J,d⟩ hi x
  obtain⟨zi,B,V,hd⟩:=mem_ready.1 hi;rw[x]at V
  cases V
  have g:l[i]?=some o:=by simpa using x
  have T:i<l.length:=(lgs.1 g).1;have G:∀e∈o.after,Region.binds .any e=true->gZ b (Edge.on e):=λe A D=>hd e A D
  have y:N<i->gZ b (i-1):=λhNi=>by
   have C:=lat.1 E i (by simpa using T);simp only[Bool.or_eq_true,dte]at C
   rcases C with C|C
   ·omega
   ·obtain⟨oj,W,e,A,D,zd⟩:=Region.waitsFor_spec C
    have:oj=o:=by rw[x]at W;exact(Option.some.inj W).symm
    subst this;have:=G e A D;rw[zd]at this;exact this
  have q:∀j B,gZ (b.setIfInBounds i true) j->l[j]?=some B->∀e∈B.after,Region.binds .any e=true->gZ (b.setIfInBounds i true) (Edge.on e):=λj B k u e A I=>by
   have zc:Edge.on e<b.size:=by
    have C:=r j B u e A I;have h2:=(lgs.1 u).1;omega
   refine gF zc (.inr ?_)
   rcases dJ k with h|h
   ·subst h;rw[g]at u;cases u;exact G e A I
   ·exact J j B h u e A I
  have s:∀t,t=i->l.drop t=o::l.drop (t+1):=λt e=>by
   subst e;rw[List.drop_eq_getElem_cons T]
   congr 1
   exact(lgs.1 g).2
  have H:∀t,t=i->(∀j,j<t->gZ b j)->(∀j,t<=j->¬gZ b j)->(∀j,j<t+1->gZ (b.setIfInBounds i true) j)/\(∀j,t+1<=j->¬gZ (b.setIfInBounds i true) j):=λt e C h2=>by
   subst e;refine⟨λj k=>gF (by omega) ?_,λj k h=>?_⟩
   ·by_cases e:j=t
    ·exact .inl e
    ·exact .inr (C j (by omega))
   ·rcases dJ h with e|e
    ·omega
    ·exact h2 j (by omega) e
  rcases d with⟨f,rfl,c,hB,hp⟩|⟨t,zf,zg,m,c,U⟩
  ·by_cases za:i<N
   ·refine cC x (dW (λZ z h=>?_) (dH x (L i o f w' za g hB (λe A D=>hp _ (by have:=r i o g e A D;omega) (G e A D)))))
    obtain⟨v,rfl,hv,D⟩:=h;refine⟨by simp[hs],q,.inl ⟨aH f i v,rfl,λj k h=>?_,hB.trans (D.mono hB.size),λj k h=>?_⟩⟩
    ·rcases dJ h with e|e
     ·omega
     ·exact c j k e
    ·unfold aH
     split
     ·rename_i e;subst e;exact hv
     ·rename_i e
      rcases dJ h with e'|e'
      ·exact absurd e' e
      ·exact ze _ _ _ _ (hp j k e') D
   ·have S:i=N:=by
     by_cases h:N<i
     ·exact absurd (y h) (c (i-1) (by omega))
     ·omega
    subst S;have p:∀j,j<i->gZ b j:=λj k=>H0 g K J G (i-1-j) j (by omega);have hf:=R f w' hB (λj k=>hp j k (p j k));rw[s i rfl]at hf;refine cC x (dW (λZ z h=>?_) (mF x hf));obtain⟨g1,g2⟩:=H i rfl p c;exact⟨by simp[hs],q,.inr ⟨i+1,by omega,by omega,g1,g2,h⟩⟩
  ·have zb:i=t:=by
    have C:t<=i:=by
     by_cases h:i<t
     ·exact absurd (m i h) (lQ zi)
     ·omega
    by_cases h:t<i
    ·exact absurd (y (by omega)) (c (i-1) (by omega))
    ·omega
   subst zb;rw[s i rfl]at U;refine cC x (dW (λZ z h=>?_) (mF x U));obtain⟨g1,g2⟩:=H i rfl m c;exact⟨by simp[hs],q,.inr ⟨i+1,by omega,by omega,g1,g2,h⟩⟩
 ·rintro b a w' ⟨hs,J,d⟩ hr
  have O:=lX hr (λi o x=>r i o (by simpa using x)) (by simp;omega)
  rcases d with⟨f,rfl,c,_⟩|⟨t,zf,zg,m,c,U⟩
  ·exact absurd (O N (by simpa using hN)) (c N (nlq _))
  ·have zh:t=l.length:=by
    by_cases h:t<l.length
    ·exact absurd (O t (by simpa using h)) (c t (nlq _))
    ·omega
   subst zh;rw[List.drop_length]at U;exact U
end
section
variable {F:Fence}{n:Nat}{P:Program}{Q:Exit->Act->World->Prop}
end
def aE (a:Act):List (Option Tmp)->Nat->(Nat->Value)->Act
 |[],_,_=>a
 |d::r,k,vs=>aE (a.put d (vs k)) r (k+1) vs
def G4 (a:Act)(ds:List (Option Tmp))(j:Nat):Value:=
 match ds[j]? with
 |some (some d)=>a.tmps.getD d undef
 |_=>undef
theorem V4 (a:Act)(b:List (Option Tmp))(d:Option Tmp)(k:Nat)(h:b[k]?=some d):a.put d (G4 a b k)=a:=by
 cases d with
 |none=>rfl
 |some d=>
  unfold G4;rw[h];simp only[Act.put]
  have:a.tmps.setIfInBounds d (a.tmps.getD d undef)=a.tmps:=by
   apply Array.ext_getElem?;intro i;rw[Array.getElem?_setIfInBounds];split
   ·rename_i e;subst e;split
    ·rename_i c;exact(Array.getElem?_eq_getElem c).symm
    ·rename_i c;rw[Array.getElem?_eq_none (by omega)]
   ·rfl
  rw[this]
theorem xC (a:Act)(b:List (Option Tmp)):∀(r:List (Option Tmp)) (k:Nat),(∀j,r[j]?=b[k+j]?)->aE a r k (G4 a b)=a
 |[],_,_=>rfl
 |d::r,k,h=>by
  have c:b[k]?=some d:=by have:=h 0;simpa using this.symm
  unfold aE;rw[V4 a b d k c];exact xC a b r (k+1) (λj=>by have:=h (j+1);simp only[List.getElem?_cons_succ]at this;rw[this];congr 1;omega)
theorem BD (a:Act)(b:List (Option Tmp)):aE a b 0 (G4 a b)=a:=xC a b b 0 (λj=>by rw[Nat.zero_add])
section
variable {F:Fence}{n:Nat}{P:Program}{Q:Exit->Act->World->Prop}
theorem tT {id:Nat} {a:Act} {w:World} {l:List Oper} (u:P.follows .mixedOrders=true) (N:Nat) (k:List (Option Tmp)) (t:N<l.length) (f:Nat->Value->World->Prop)
 (r:∀j v w w',f j v w->aF w w'->f j v w')
 (m:zN l=true) (c:Region.sinkB .any l.toArray N=true) (b:BU l N=true)
 (d:∀(i:Nat) (o:Oper) g w',i<N->l[i]?=some o->aF w w'->(∀e∈o.after,Region.binds .any e=true->f (Edge.on e) (g (Edge.on e)) w')->
  wpListIn F n P l.toArray (Exit.then (λs q=>∃v,s=aE a k 0 (aH g i v)/\f i v q/\aF w' q) Q) [o] (aE a k 0 g) w')
 (p:∀g w',aF w w'->(∀j,j<N->f j (g j) w')->wpListIn F n P l.toArray Q (l.drop N) (aE a k 0 g) w'):
 (Code.region id l.toArray true).wpIn F n P Q a w:=by
 have h:=tK (id:=id) u N t (aE a k 0) (G4 a k) f r (o5 m) c b d p;rw[BD]at h;exact h
end
theorem pG {P:Program} {Q:Exit->Act->World->Prop} {id:Nat} {a:Act} {w:World} {l:List Oper} (N:Nat) (n:List (Option Tmp)) (f:Nat->Value->World->Prop)
 (p:∀j v w w',f j v w->Below w.heap.size w w'->f j v w')
 (d:∀(i:Nat) (o:Oper) g w',i<N->l[i]?=some o->Below w.heap.size w w'->(∀e∈o.after,Region.binds .any e=true->f (Edge.on e) (g (Edge.on e)) w')->
  wpListIn Fence.wide 0 P l.toArray (Exit.then (λq m=>∃v,q=aE a n 0 (aH g i v)/\f i v m/\Below w'.heap.size w' m) Q) [o] (aE a n 0 g) w')
 (k:∀g w',Below w.heap.size w w'->(∀j,j<N->f j (g j) w')->wpListIn Fence.wide 0 P l.toArray Q (l.drop N) (aE a n 0 g) w')
 (s:P.follows .mixedOrders=true:=by kernel_rfl) (r:N<l.length:=by decide) (h:zN l=true:=by kernel_rfl) (c:Region.sinkB .any l.toArray N=true:=by kernel_rfl) (b:BU l N=true:=by kernel_rfl):
 (Code.region id l.toArray true).wp P Q a w:=wpIn_wide.1 (tT s N n r f p h c b d k)
def wC (l:List Oper):Nat->Nat->Nat->Bool
 |0,_,_=>false
 |f+1,i,j=>Region.waitsFor .any l.toArray i j||(List.range i).any λk=>Region.waitsFor .any l.toArray i k&&wC l f k j
section
variable {F:Fence}{n:Nat}{P:Program}{Q:Exit->Act->World->Prop}
theorem wF {l:List Oper}{a:Array Bool}(b:∀j n,gZ a j->l[j]?=some n->∀e∈n.after,Region.binds .any e=true->gZ a (Edge.on e)):
 ∀(f i j:Nat),wC l f i j=true->(∀o,l[i]?=some o->∀e∈o.after,Region.binds .any e=true->gZ a (Edge.on e))->gZ a j
 |0,_,_,h,_=>by simp[wC]at h
 |f+1,i,j,h,hi=>by
  have d:∀k,Region.waitsFor .any l.toArray i k=true->gZ a k:=λk c=>by
   obtain⟨o,g,e,q,p,m⟩:=Region.waitsFor_spec c;have:=hi o (by simpa using g) e q p;rw[m]at this;exact this
  unfold wC at h;rw[Bool.or_eq_true]at h;rcases h with h|h;·exact d j h
  ·obtain⟨k,_,c⟩:=List.any_eq_true.1 h;rw[bat]at c;exact wF b f k j c.2 (λo g=>b k o (d k c.1) g)
def z8 (l:List Oper)(f N:Nat)(fr:Nat->Bool):Bool:=(List.range N).all λj=>fr j||wC l f N j
def Y8 (l:List Oper)(f N:Nat)(dp:Nat->List Nat):Bool:=(List.range N).all λj=>(dp j).all λk=>k==j||wC l f j k
theorem AP {l:List Oper}{f N:Nat}{i:Nat->Bool}(h:z8 l f N i=true){o:Oper}{a:Array Bool}(p:l[N]?=some o)
 (c:∀j g,gZ a j->l[j]?=some g->∀e∈g.after,Region.binds .any e=true->gZ a (Edge.on e))
 (d:∀e∈o.after,Region.binds .any e=true->gZ a (Edge.on e))(j:Nat)(n:j<N)(m:i j=false):gZ a j:=by
 have k:=lat.1 h j (by simpa using n);rw[m,Bool.false_or]at k;exact wF c f N j k (λg b=>by rw[p]at b;cases b;exact d)
theorem uT {id:Nat} {a:Act} {w:World} {l:List Oper} (hm:P.follows .mixedOrders=true) (f N M:Nat) (S:List (Option Tmp)) (zz:N<M) (hM:M<l.length) (L:Nat->Bool) (dp:Nat->List Nat)
 (R:Nat->(Nat->Value)->World->Prop) (Pf:Nat->Value->Prop) (G:Nat->(Nat->Value)->World->Prop)
 (yh:∀j c w w',R j c w->aF w w'->R j c w') (zt:∀j c zw w,(∀k∈dp j,c k=zw k)->R j c w->R j zw w) (zv:∀j c w,L j=true->R j c w->Pf j (c j))
 (zn:zN l=true) (ya:Y8 l f N dp=true) (yg:z8 l f N L=true) (yf:z8 l f M (λ_=>false)=true) (za:BU l N=true)
 (zl:∀(i:Nat) (o:Oper) c w',i<N->l[i]?=some o->aF w w'->(∀e∈o.after,Region.binds .any e=true->R (Edge.on e) c w')->
  wpListIn F n P l.toArray (Exit.then (λx q=>∃v,x=aE a S 0 (aH c i v)/\R i (aH c i v) q/\aF w' q) Q) [o] (aE a S 0 c) w')
 (zi:∀(i:Nat) (o:Oper) c w' t,i<N->L i=true->l[i]?=some o->N<t->t<=M->G t c w'->(∀e∈o.after,Region.binds .any e=true->L (Edge.on e)=true->Pf (Edge.on e) (c (Edge.on e)))->
  wpListIn F n P l.toArray (Exit.then (λx q=>∃v,x=aE a S 0 (aH c i v)/\Pf i v/\q=w') Q) [o] (aE a S 0 c) w')
 (zx:∀c w',aF w w'->(∀j,j<N->L j=false->R j c w')->G N c w')
 (zy:∀t c w' i v,L i=true->G t c w'->G t (aH c i v) w')
 (I:∀(t:Nat) (o:Oper) c w',N<=t->t<M->l[t]?=some o->G t c w'->(∀e∈o.after,Region.binds .any e=true->Edge.on e<N->L (Edge.on e)=true->Pf (Edge.on e) (c (Edge.on e)))->
  wpListIn F n P l.toArray (Exit.then (λx q=>∃v,x=aE a S 0 (aH c t v)/\G (t+1) (aH c t v) q) Q) [o] (aE a S 0 c) w')
 (zp:∀c w',G M c w'->(∀j,j<N->L j=true->Pf j (c j))->wpListIn F n P l.toArray Q (l.drop M) (aE a S 0 c) w'):
 (Code.region id l.toArray true).wpIn F n P Q a w:=by
 have u:=o5 zn
 suffices h:(Code.region id l.toArray true).wpIn F n P Q (aE a S 0 (G4 a S)) w by rw[BD]at h;exact h
 refine f9 hm (λb x w'=>b.size=l.length/\(∀j O,gZ b j->l[j]?=some O->∀e∈O.after,Region.binds .any e=true->gZ b (Edge.on e))/\
  ((∃c,x=aE a S 0 c/\(∀j,N<=j->¬gZ b j)/\aF w w'/\∀j,j<N->gZ b j->R j c w')∨
   (∃t c,N<t/\t<=M/\x=aE a S 0 c/\(∀j,j<t->(j<N->L j=false)->gZ b j)/\(∀j,t<=j->¬gZ b j)/\G t c w'/\∀j,j<N->L j=true->gZ b j->Pf j (c j))∨
   (∃t,M<t/\t<=l.length/\(∀j,j<t->gZ b j)/\(∀j,t<=j->¬gZ b j)/\wpListIn F n P l.toArray Q (l.drop t) x w'))) ?_ ?_ ?_
 ·exact⟨by simp,λj O h=>absurd h (eG _ _),.inl ⟨_,rfl,λj _=>eG _ _,(br _ _).drew,λj g h=>absurd h (eG _ _)⟩⟩
 ·rintro b x w' i o ⟨hs,J,D⟩ hi B
  obtain⟨ze,O,zd,hd⟩:=mem_ready.1 hi;rw[B]at zd
  cases zd
  have r:l[i]?=some o:=by simpa using B
  have zs:i<l.length:=(lgs.1 r).1;have z:∀e∈o.after,Region.binds .any e=true->gZ b (Edge.on e):=λe A C=>hd e A C
  have E:N<i->gZ b (i-1):=λhNi=>by
   have y:=lat.1 za i (by simpa using zs);simp only[Bool.or_eq_true,dte]at y
   rcases y with y|y
   ·omega
   ·obtain⟨oj,zu,e,A,C,ye⟩:=Region.waitsFor_spec y
    have:oj=o:=by rw[B]at zu;exact(Option.some.inj zu).symm
    subst this;have:=z e A C;rw[ye]at this;exact this
  have s:∀j O,gZ (b.setIfInBounds i true) j->l[j]?=some O->∀e∈O.after,Region.binds .any e=true->gZ (b.setIfInBounds i true) (Edge.on e):=λj O g W e A zh=>by
   have X:Edge.on e<b.size:=by
    have y:=u j O W e A zh;have h2:=(lgs.1 W).1;omega
   refine gF X (.inr ?_)
   rcases dJ g with h|h
   ·subst h;rw[r]at W;cases W;exact z e A zh
   ·exact J j O h W e A zh
  have V:∀t,t=i->l.drop t=o::l.drop (t+1):=λt e=>by
   subst e;rw[List.drop_eq_getElem_cons zs]
   congr 1
   exact(lgs.1 r).2
  have H:∀t,t=i->(∀j,t<=j->¬gZ b j)->(∀j,t+1<=j->¬gZ (b.setIfInBounds i true) j):=λt e h2 j g h=>by
   subst e
   rcases dJ h with e|e
   ·omega
   ·exact h2 j (by omega) e
  have zf:∀t,t=i->(∀j,j<t->gZ b j)->(∀j,j<t+1->gZ (b.setIfInBounds i true) j):=λt e y j g=>by
   subst e;refine gF (by omega) ?_
   by_cases e:j=t
   ·exact .inl e
   ·exact .inr (y j (by omega))
  have zc:∀j c v w1,j<N->gZ b j->R j c w1->R j (aH c i v) w1:=λj c v w1 yc g K=>by
   refine zt j c _ w1 (λk hk=>?_) K;have y:=lat.1 (lat.1 ya j (by simpa using yc)) k hk;rw[Bool.or_eq_true,beq_iff_eq]at y
   have yd:gZ b k:=by
    rcases y with y|y
    ·subst y;exact g
    ·exact wF J f j k y (λO zd=>J j O g zd)
   have Y:k≠i:=λe=>by subst e;exact lQ ze yd
   unfold aH;rw[if_neg Y]
  rcases D with⟨c,rfl,d,hB,K⟩|⟨t,c,Z,zm,rfl,m,d,hg,K⟩|⟨t,Z,yi,m,d,hk⟩
  ·by_cases zb:i<N
   ·refine cC B (dW (λx q h=>?_) (dH B (zl i o c w' zb r hB (λe A C=>K _ (by have:=u i o r e A C;omega) (z e A C)))))
    obtain⟨v,rfl,hv,C⟩:=h;refine⟨by simp[hs],s,.inl ⟨aH c i v,rfl,λj g h=>?_,hB.trans (C.mono hB.size),λj g h=>?_⟩⟩
    ·rcases dJ h with e|e
     ·omega
     ·exact d j g e
    ·rcases dJ h with e'|e'
     ·subst e';exact hv
     ·exact zc j c v q g e' (yh _ _ _ _ (K j g e') C)
   ·have zr:i=N:=by
     by_cases h:N<i
     ·exact absurd (E h) (d (i-1) (by omega))
     ·omega
    subst zr;have U:=λj g p=>AP yg r J z j g p;have hg:=zx c w' hB (λj g p=>K j g (U j g p));refine cC B (dW (λx q h=>?_) (dH B (I i o c w' (nlq _) zz r hg (λe A C X p=>zv _ _ _ p (K _ X (z e A C))))));obtain⟨v,rfl,zj⟩:=h;refine⟨by simp[hs],s,.inr (.inl ⟨i+1,aH c i v,by omega,by omega,rfl,λj g p=>?_,H i rfl d,zj,λj g p h=>?_⟩)⟩
    ·refine gF (by omega) ?_
     by_cases e:j=i
     ·exact .inl e
     ·exact .inr (U j (by omega) (p (by omega)))
    ·have Y:j≠i:=by omega
     rw[show aH c i v j=c j by unfold aH;rw[if_neg Y]]
     rcases dJ h with e|e
     ·omega
     ·exact zv _ _ _ p (K j g e)
  ·by_cases zb:i<N
   ·have zo:L i=true:=by
     cases p:L i with
     |true=>rfl
     |false=>exact absurd (m i (by omega) (λ_=>p)) (lQ ze)
    refine cC B (dW (λx q h=>?_) (dH B (zi i o c w' t zb zo r Z zm hg (λe A C p=>K _ (by have:=u i o r e A C;omega) p (z e A C)))));obtain⟨v,rfl,hv,rfl⟩:=h;refine⟨by simp[hs],s,.inr (.inl ⟨t,aH c i v,Z,zm,rfl,λj g p=>gF (by omega) (.inr (m j g p)),λj g h=>?_,zy t c _ i v zo hg,λj g p h=>?_⟩)⟩
    ·rcases dJ h with e|e
     ·omega
     ·exact d j g e
    ·unfold aH
     split
     ·rename_i e;subst e;exact hv
     ·rename_i e
      rcases dJ h with e'|e'
      ·exact absurd e' e
      ·exact K j g p e'
   ·have zk:i=t:=by
     have y:t<=i:=by
      by_cases h:i<t
      ·exact absurd (m i h (λh=>absurd h zb)) (lQ ze)
      ·omega
     by_cases h:t<i
     ·exact absurd (E (by omega)) (d (i-1) (by omega))
     ·omega
    subst zk
    by_cases yb:i<M
    ·refine cC B (dW (λx q h=>?_) (dH B (I i o c w' (by omega) yb r hg (λe A C X p=>K _ X p (z e A C)))))
     obtain⟨v,rfl,zj⟩:=h;refine⟨by simp[hs],s,.inr (.inl ⟨i+1,aH c i v,by omega,by omega,rfl,λj g p=>?_,H i rfl d,zj,λj g p h=>?_⟩)⟩
     ·refine gF (by omega) ?_
      by_cases e:j=i
      ·exact .inl e
      ·exact .inr (m j (by omega) p)
     ·have Y:j≠i:=by omega
      rw[show aH c i v j=c j by unfold aH;rw[if_neg Y]]
      rcases dJ h with e|e
      ·omega
      ·exact K j g p e
    ·have zq:i=M:=by omega
     subst zq;have T:∀j,j<i->gZ b j:=λj g=>AP yf r J z j g rfl;have p:=zp c w' hg (λj g p=>K j g p (T j (by omega)));rw[V i rfl]at p;refine cC B (dW (λx q h=>?_) (mF B p));exact⟨by simp[hs],s,.inr (.inr ⟨i+1,by omega,by omega,zf i rfl T,H i rfl d,h⟩)⟩
  ·have zk:i=t:=by
    have y:t<=i:=by
     by_cases h:i<t
     ·exact absurd (m i h) (lQ ze)
     ·omega
    by_cases h:t<i
    ·exact absurd (E (by omega)) (d (i-1) (by omega))
    ·omega
   subst zk;rw[V i rfl]at hk;refine cC B (dW (λx q h=>?_) (mF B hk));exact⟨by simp[hs],s,.inr (.inr ⟨i+1,by omega,by omega,zf i rfl m,H i rfl d,h⟩)⟩
 ·rintro b x w' ⟨hs,J,D⟩ hr
  have zg:=lX hr (λi o B=>u i o (by simpa using B)) (by simp;omega)
  rcases D with⟨c,rfl,d,_⟩|⟨t,c,Z,zm,rfl,m,d,_⟩|⟨t,Z,yi,m,d,hk⟩
  ·exact absurd (zg N (by simp;omega)) (d N (nlq _))
  ·exact absurd (zg t (by simp;omega)) (d t (nlq _))
  ·have yj:t=l.length:=by
    by_cases h:t<l.length
    ·exact absurd (zg t (by simpa using h)) (d t (nlq _))
    ·omega
   subst yj;rw[List.drop_length]at hk;exact hk
end
theorem SZ {P:Program} {Q:Exit->Act->World->Prop} {id:Nat} {a:Act} {w:World} {l:List Oper} (f N M:Nat) (n:List (Option Tmp)) (g:Nat->Bool) (A:Nat->List Nat)
 (d:Nat->(Nat->Value)->World->Prop) (r:Nat->Value->Prop) (G:Nat->(Nat->Value)->World->Prop)
 (J:∀j b w w',d j b w->Below w.heap.size w w'->d j b w') (y:∀j b z w,(∀k∈A j,b k=z k)->d j b w->d j z w) (F:∀j b w,g j=true->d j b w->r j (b j))
 (q:∀(i:Nat) (o:Oper) b w',i<N->l[i]?=some o->Below w.heap.size w w'->(∀e∈o.after,Region.binds .any e=true->d (Edge.on e) b w')->
  wpListIn Fence.wide 0 P l.toArray (Exit.then (λs c=>∃v,s=aE a n 0 (aH b i v)/\d i (aH b i v) c/\Below w'.heap.size w' c) Q) [o] (aE a n 0 b) w')
 (p:∀(i:Nat) (o:Oper) b w' t,i<N->g i=true->l[i]?=some o->N<t->t<=M->G t b w'->(∀e∈o.after,Region.binds .any e=true->g (Edge.on e)=true->r (Edge.on e) (b (Edge.on e)))->
  wpListIn Fence.wide 0 P l.toArray (Exit.then (λs c=>∃v,s=aE a n 0 (aH b i v)/\r i v/\c=w') Q) [o] (aE a n 0 b) w')
 (B:∀b w',Below w.heap.size w w'->(∀j,j<N->g j=false->d j b w')->G N b w')
 (C:∀t b w' i v,g i=true->G t b w'->G t (aH b i v) w')
 (m:∀(t:Nat) (o:Oper) b w',N<=t->t<M->l[t]?=some o->G t b w'->(∀e∈o.after,Region.binds .any e=true->Edge.on e<N->g (Edge.on e)=true->r (Edge.on e) (b (Edge.on e)))->
  wpListIn Fence.wide 0 P l.toArray (Exit.then (λs c=>∃v,s=aE a n 0 (aH b t v)/\G (t+1) (aH b t v) c) Q) [o] (aE a n 0 b) w')
 (x:∀b w',G M b w'->(∀j,j<N->g j=true->r j (b j))->wpListIn Fence.wide 0 P l.toArray Q (l.drop M) (aE a n 0 b) w')
 (L:P.follows .mixedOrders=true:=by kernel_rfl) (D:N<M:=by decide) (K:M<l.length:=by decide) (u:zN l=true:=by kernel_rfl) (E:Y8 l f N A=true:=by kernel_rfl) (I:z8 l f N g=true:=by kernel_rfl) (H:z8 l f M (λ_=>false)=true:=by kernel_rfl) (h:BU l N=true:=by kernel_rfl):
 (Code.region id l.toArray true).wp P Q a w:=wpIn_wide.1 (uT L f N M n D K g A d r G J y F u E I H h q p B C m x)
section
variable {F:Fence}{n:Nat}{P:Program}{Q:Exit->Act->World->Prop}
theorem gP {id:Nat} {a:Act} {w:World} {l:List Oper} (U:P.follows .mixedOrders=true) (m:List (Option Tmp)) (I:(Nat->Prop)->(Nat->Value)->World->Prop)
 (y:zN l=true) (O:I (λ_=>False) (G4 a m) w.drew)
 (k:∀L N c w',(∀j,L j↔N j)->I L c w'->I N c w')
 (s:∀(L:Nat->Prop) (i:Nat) (o:Oper) c w',l[i]?=some o->¬L i->(∀e∈o.after,Region.binds .any e=true->L (Edge.on e))->
  (∀j g,L j->l[j]?=some g->∀e∈g.after,Region.binds .any e=true->L (Edge.on e))->I L c w'->
  wpListIn F n P l.toArray (Exit.then (λt D=>∃v,t=aE a m 0 (aH c i v)/\I (λj=>L j∨j=i) (aH c i v) D) Q) [o] (aE a m 0 c) w')
 (A:∀(L:Nat->Prop) c w',(∀j,j<l.length->L j)->I L c w'->Q .normal (aE a m 0 c) w'):
 (Code.region id l.toArray true).wpIn F n P Q a w:=by
 have d:=o5 y
 suffices h:(Code.region id l.toArray true).wpIn F n P Q (aE a m 0 (G4 a m)) w by rw[BD]at h;exact h
 refine f9 U (λb t w'=>b.size=l.length/\(∀j g,gZ b j->l[j]?=some g->∀e∈g.after,Region.binds .any e=true->gZ b (Edge.on e))/\∃c,t=aE a m 0 c/\I (gZ b) c w') ?_ ?_ ?_
 ·exact⟨by simp,λj g h=>absurd h (eG _ _),_,rfl,k _ _ _ _ (λj=>⟨λh=>h.elim,λh=>absurd h (eG _ _)⟩) O⟩
 ·rintro b t w' i o ⟨K,q,c,rfl,E⟩ T u
  obtain⟨M,g,C,S⟩:=mem_ready.1 T;rw[u]at C
  cases C
  have r:l[i]?=some o:=by simpa using u
  have x:∀e∈o.after,Region.binds .any e=true->gZ b (Edge.on e):=λe z R=>S e z R;refine cC u (dW (λt D h=>?_) (dH u (s (gZ b) i o c w' r (lQ M) x q E)));obtain⟨v,rfl,G⟩:=h;refine⟨by simp[K],λj g B f e z p=>?_,_,rfl,k _ _ _ _ (λj=>?_) G⟩
  ·have J:Edge.on e<b.size:=by
    have h1:=d j g f e z p;have h2:=(lgs.1 f).1;omega
   refine gF J (.inr ?_)
   rcases dJ B with h|h
   ·subst h;rw[r]at f;cases f;exact x e z p
   ·exact q j g h f e z p
  ·constructor
   ·rintro(h|rfl)
    ·refine gF ?_ (.inr h)
     by_cases B:j<b.size
     ·exact B
     ·exfalso
      unfold gZ at h;rw[Array.getD_eq_getD_getElem?,Array.getElem?_eq_none (by omega)]at h;simp at h
    ·exact gF (by rw[K];exact(lgs.1 r).1) (.inl rfl)
   ·intro h
    rcases dJ h with e|e
    ·exact .inr e
    ·exact .inl e
 ·rintro b t w' ⟨K,q,c,rfl,E⟩ V
  have H:=lX V (λi o u=>d i o (by simpa using u)) (by simp;omega);exact A _ c w' (λj B=>H j (by simpa using B)) E
end
section
variable {F:Fence}{n:Nat}{P:Program}{Q:Exit->Act->World->Prop}
theorem uA {id:Nat} {a:Act} {w:World} {l:List Oper} (E:P.follows .mixedOrders=true) (N:Nat) (s:List (Option Tmp)) (B:l.length=N) (k:Nat->Value->World->Prop)
 (z:∀j v w w',k j v w->aF w w'->k j v w')
 (p:zN l=true)
 (f:∀(i:Nat) (o:Oper) b w',i<N->l[i]?=some o->aF w w'->(∀e∈o.after,Region.binds .any e=true->k (Edge.on e) (b (Edge.on e)) w')->
  wpListIn F n P l.toArray (Exit.then (λA g=>∃v,A=aE a s 0 (aH b i v)/\k i v g/\aF w' g) Q) [o] (aE a s 0 b) w')
 (q:∀b w',aF w w'->(∀j,j<N->k j (b j) w')->wpListIn F n P l.toArray Q [] (aE a s 0 b) w'):
 (Code.region id l.toArray true).wpIn F n P Q a w:=by
 refine gP E s (λL b w'=>aF w w'/\∀j,L j->k j (b j) w') p ⟨(br _ _).drew,λ_ h=>h.elim⟩ (λL L' b w' x h=>⟨h.1,λj u=>h.2 j ((x j).2 u)⟩) ?_ ?_
 ·intro L i o b w' y hnL C _ c
  have r:l.toArray[i]?=some o:=by simpa using y
  have D:i<N:=by rw[←B];exact(lgs.1 y).1
  refine cC r (dW (λA g h=>?_) (dH r (f i o b w' D y c.1 (λe x t=>c.2 _ (C e x t)))));obtain⟨v,rfl,G,t⟩:=h;refine⟨v,rfl,aC c.1 t,λj u=>?_⟩
  by_cases d:j=i
  ·subst d
   simpa[aH]using G
  ·have:L j:=u.elim (λh=>h) (λh=>absurd h d)
   simpa[aH,d]using z j _ _ _ (c.2 j this) t
 ·intro L b w' m c
  exact q b w' c.1 (λj u=>c.2 j (m j (by omega)))
end
end Go.Proofs.YtcdbcliaepcpfaaGreatDoor
