import Derived.TacticsInMore
import Derived.Test.YtoolgmmljacfmaaGreatDoorAft
open List renaming length → ln
open Go.RowKit
namespace Go.Proofs.YtoolgmmljacfmaaGreatDoor
section
variable {F:Fence}{n:Nat}{P:Program}{ops:Array Oper}{Q:Exit->Act->World->Prop}
theorem cQ {o:Oper} {i:Nat} {K:Act->Wd->Prop} {a:Act} {w:Wd} (d:ops[i]?=some o) (h:wpListIn F n P ops (Exit.then K Q) [o] a w):wpOpIn F n P ops Q i K a w:=by
 unfold wpOpIn;rw[d];simp only[wpListIn]at h;dsimp only;split
 ·rename_i c;rw[if_pos c]at h;refine⟨h.1,?_⟩;have b:=h.2;generalize(Oper.semAt F.round a.eval o).run P w=r at b ⊢;cases r with
  |ok x w'=>cases x<;>exact b
  |halt x w'=>cases x<;>exact b
 ·rename_i c;rw[if_neg c]at h;exact h
theorem GB {l:List Bool}{i:Nat}(h:l[i]?=some false):(l.set i true).count false+1=l.count false:=by
 induction l generalizing i with
 |nil=>simp at h
 |cons b r ih=>
  cases i with
  |zero=>simp at h;subst h;simp
  |succ i=>simp at h;have:=ih h;cases b<;>simp<;>omega
theorem rU {md:Region.Mode}{a:Array Bool}{i:Nat}(h:i∈Region.ready md ops a):a.toList[i]?=some false:=by
 have c:=(mem_ready.1 h).1;rw[Array.getElem?_toList];cases e:a[i]? with
 |none=>rw[agd,e]at c;cases c
 |some b=>rw[agd,e]at c;simp at c;rw[c]
theorem yY (d:Array Bool->Act->Wd->Prop)
 (f:∀b a w i o,d b a w->i∈Region.ready .any ops b->ops[i]?=some o->wpListIn F n P ops (Exit.then (λh w'=>d (b.setIfInBounds i true) h w') Q) [o] a w)
 (e:∀b a w,d b a w->Region.ready .any ops b=[]->Q .normal a w):
 ∀(c:Nat) (b:Array Bool) (a:Act) (w:Wd),d b a w->b.toList.count false<=c->wpAnyIn F n P .any ops Q c b a w
 |0,b,a,w,hI,hc=>by
  have m:Region.ready .any ops b=[]:=by
   rw[List.eq_nil_iff_forall_not_mem];intro i j;have:=GB (rU j);omega
  exact⟨m,e _ _ _ hI m⟩
 |c+1,b,a,w,hI,hc=>⟨e _ _ _ hI,λi j=>by
  obtain⟨_,o,k,_⟩:=mem_ready.1 j;have g:=cQ k (f _ _ _ _ _ hI j k);have hcs:=GB (rU j);unfold wpOpIn at g ⊢;rw[k]at g ⊢
  dsimp only at g ⊢
  have p:∀h w',d (b.setIfInBounds i true) h w'->wpAnyIn F n P .any ops Q c (b.setIfInBounds i true) h w':=λh w' h'=>yY d f e c _ h w' h' (by rw[Array.toList_setIfInBounds];omega)
  split
  ·rename_i l;rw[if_pos l]at g;exact Oper.wpIn_mono p g
  ·rename_i l;rw[if_neg l]at g;exact⟨g.1,p _ _ g.2⟩⟩
theorem gJ {id:Nat} {a:Act} {w:Wd} {l:List Oper} (h:P.follows .mixedOrders=true) (c:Array Bool->Act->Wd->Prop)
 (g:c (Array.replicate (ln l) false) a w.drew)
 (d:∀b a w i o,c b a w->i∈Region.ready .any l.toArray b->l.toArray[i]?=some o->wpListIn F n P l.toArray (Exit.then (λf w'=>c (b.setIfInBounds i true) f w') Q) [o] a w)
 (e:∀b a w,c b a w->Region.ready .any l.toArray b=[]->Q .normal a w):(Code.region id l.toArray true).wpIn F n P Q a w:=
 wpIn_region_any h (yY c d e _ _ _ _ (by simpa using g) sm)
theorem NK {md:Region.Mode}{a:Array Bool}(h:Region.ready md ops a=[])(d:∀(i:Nat)(o:Oper),ops[i]?=some o->∀e∈o.after,Edge.on e<i)(g:a.size=ops.size):∀i,i<ops.size->a.getD i false=true:=by
 intro i;induction i using Nat.strongRecOn with
 |_ i ih=>
  intro c;have b:i<a.size:=om;cases hb:a[i]with
  |true=>rw[agd,age b,hb];rfl
  |false=>
   have:i∈Region.ready md ops a:=by
    refine mem_ready.2 ⟨by rw[agd,age b,hb];rfl,ops[i],age c,λe f _=>?_⟩;have:=d i _ (age c) e f;exact ih _ this om
   rw[h]at this;cases this
theorem dP {a:Array Bool}{i j:Nat}(h:(a.setIfInBounds i true).getD j false=true):j=i∨a.getD j false=true:=by
 by_cases e:j=i;·exact .inl e
 ·right;rw[agd]at h ⊢;rw[Array.getElem?_setIfInBounds_ne om]at h;exact h
theorem dM {i:Nat}{K e:Act->Wd->Prop}{a:Act}{w:Wd}(b:∀a w,K a w->e a w)(h:wpOpIn F n P ops Q i K a w):wpOpIn F n P ops Q i e a w:=by
 unfold wpOpIn at h ⊢;split;·rename_i c;simp only[c]at h;exact b _ _ h
 ·rename_i o c;simp only[c]at h;split;·rename_i d;rw[if_pos d]at h;exact Oper.wpIn_mono b h
  ·rename_i d;rw[if_neg d]at h;exact⟨h.1,b _ _ h.2⟩
theorem bV {o:Oper}{i:Nat}{K:Act->Wd->Prop}{a:Act}{w:Wd}(d:ops[i]?=some o)(h:wpOpIn F n P ops Q i K a w):wpListIn F n P ops (Exit.then K Q) [o] a w:=by
 unfold wpOpIn at h;rw[d]at h;dsimp only at h;simp only[wpListIn];split
 ·rename_i c;rw[if_pos c]at h;refine⟨h.1,?_⟩;have b:=h.2;generalize(Oper.semAt F.round a.eval o).run P w=r at b ⊢;cases r with
  |ok x w'=>cases x<;>exact b
  |halt x w'=>cases x<;>exact b
 ·rename_i c;rw[if_neg c]at h;exact h
abbrev iM (listed:Array Bool)(i:Nat):Prop:=listed.getD i false=true
theorem gL {a:Array Bool}{i j:Nat}(b:j<a.size)(h:j=i∨iM a j):iM (a.setIfInBounds i true) j:=by
 unfold iM;rw[agd];by_cases e:i=j;·subst e;simp[b]
 ·rw[Array.getElem?_setIfInBounds_ne e];rcases h with h|h;·exact absurd h.symm e
  ·unfold iM at h;rw[agd]at h;exact h
theorem eO (k j:Nat):¬iM (Array.replicate k false) j:=by
 unfold iM;rw[agd,Array.getElem?_replicate];split<;>simp
theorem mH {a:Array Bool}{i:Nat}(h:a.getD i true=false):¬iM a i:=by
 unfold iM;intro c;rw[agd]at h c;cases e:a[i]? with
 |none=>rw[e]at h;cases h
 |some b=>rw[e]at h c;simp at h c;rw[h]at c;cases c
theorem uhx {P:Prop}(h:P:=by and_intros<;>rfl):P:=h
def aH (vs:Nat->Value)(i:Nat)(v:Value):Nat->Value:=λj=>if j=i then v else vs j
theorem j6 {id:Nat} {w:Wd} {l:List Oper} (V:P.follows .mixedOrders=true) (N:Nat) (R:ln l=N+1) (D:(Nat->Va)->Act) (G:Nat->Va) (q:Nat->Va->Wd->Prop)
 (O:∀j v w w',q j v w->aG w w'->q j v w')
 (p:∀(i:Nat) (o:Oper),l[i]?=some o->∀e∈o.after,Edge.on e<i) (f:∀(o:Oper),l[N]?=some o->∀j,j<N->∃e∈o.after,Region.binds .any e=true/\Edge.on e=j)
 (t:∀(i:Nat) (o:Oper) c w',i<N->l[i]?=some o->aG w w'->(∀e∈o.after,Region.binds .any e=true->q (Edge.on e) (c (Edge.on e)) w')->
  wpListIn F n P l.toArray (Exit.then (λx d=>∃v,x=D (aH c i v)/\q i v d/\aG w' d) Q) [o] (D c) w')
 (A:∀(o:Oper) c w',l[N]?=some o->aG w w'->(∀j,j<N->q j (c j) w')->wpListIn F n P l.toArray (Exit.then (λx d=>Q .normal x d) Q) [o] (D c) w'):
 (Code.region id l.toArray true).wpIn F n P Q (D G) w:=by
 have hsz:l.toArray.size=N+1:=by simpa using R
 refine gJ V (λb a w'=>b.size=N+1/\((∃c,a=D c/\¬iM b N/\aG w w'/\∀j,j<N->iM b j->q j (c j) w')∨(Q .normal a w'/\∀j,j<=N->iM b j))) ?_ ?_ ?_
 ·exact⟨by simp[R],.inl ⟨G,rfl,eO _ _,(br _ _).drew,λj B h=>absurd h (eO _ _)⟩⟩
 ·rintro b a w' i o ⟨M,⟨c,rfl,r,H,U⟩|⟨_,y⟩⟩ T k
  ·obtain⟨hun,o',C,S⟩:=mem_ready.1 T
   rw[k]at C
   cases C
   have hil:i<N+1:=by have:=(cE k);omega
   have g:l[i]?=some o:=by simpa using k
   have z:∀e∈o.after,Region.binds .any e=true->q (Edge.on e) (c (Edge.on e)) w':=λe u m=>U _ (by have:=p i o g e u;omega) (S e u m)
   by_cases L:i=N
   ·subst L
    refine bV k (dM (λx d h=>⟨by simp[M],.inr ⟨h,λj B=>gL om ?_⟩⟩) (cQ k (A o c w' g H (λj B=>?_))))
    ·by_cases e:j=i
     ·exact .inl e
     ·obtain⟨K,u,m,s⟩:=f o g j om
      right
      have:=S K u m;rw[s]at this;exact this
    ·obtain⟨K,u,m,s⟩:=f o g j B
     have:=z K u m;rw[s]at this;exact this
   ·refine bV k (dM (λx d h=>?_) (cQ k (t i o c w' om g H z)))
    obtain⟨v,rfl,X,m⟩:=h;refine⟨by simp[M],.inl ⟨aH c i v,rfl,λh=>?_,H.trans (m.mono H.size),λj B h=>?_⟩⟩
    ·rcases dP h with e|e
     ·omega
     ·exact r e
    ·unfold aH
     split
     ·rename_i e;subst e;exact X
     ·rename_i e
      rcases dP h with J|J
      ·exact absurd J e
      ·exact O _ _ _ _ (U j B J) m
  ·exact absurd (y i (by have:=(cE k);omega)) (mH (mem_ready.1 T).1)
 ·rintro b a w' ⟨M,⟨c,rfl,r,_⟩|⟨h,_⟩⟩ W
  ·exact absurd (NK W (λi o k=>p i o (by simpa using k)) om N om) r
  ·exact h
def depB (l:List Oper):Bool:=(List.range l.length).all λi=>match l[i]? with
 |some o=>o.after.all λe=>decide (e.on<i)
 |none=>true
def lastB (l:List Oper)(N:Nat):Bool:=match l[N]? with
 |some o=>(List.range N).all λj=>o.after.any λe=>Region.binds .any e&&decide (e.on=j)
 |none=>true
theorem GN {l:List Oper}(h:depB l=true)(i:Nat)(o:Oper)(a:l[i]?=some o):∀e∈o.after,Edge.on e<i:=by
 have c:i<ln l:=(lgs.1 a).1;have:=lat.1 h i (by simp[c]);rw[a]at this;simp only[Array.all_eq_true']at this;intro e b;have:=this e b;simpa using this
theorem zQ {l:List Oper}{N:Nat}(h:lastB l N=true)(o:Oper)(d:l[N]?=some o)(j:Nat)(c:j<N):∃e∈o.after,Region.binds .any e=true/\Edge.on e=j:=by
 unfold lastB at h;rw[d]at h;have:=lat.1 h j (by simp[c]);obtain⟨e,b,a⟩:=Array.any_eq_true'.1 this;simp only[bat,dte]at a;exact⟨e,b,a.1,a.2⟩
end
section
variable {F:Fence}{n:Nat}{P:Program}{Q:Exit->Act->World->Prop}
theorem mQ {b:Array Oper}{a:Array Bool}(h:Region.ready .any b a=[])(g:∀(i:Nat)(o:Oper),b[i]?=some o->∀e∈o.after,Region.binds .any e=true->Edge.on e<i)(k:a.size=b.size):∀i,i<b.size->a.getD i false=true:=by
 intro i;induction i using Nat.strongRecOn with
 |_ i ih=>
  intro f;have c:i<a.size:=om;cases hb:a[i]with
  |true=>rw[agd,age c,hb];rfl
  |false=>
   have:i∈Region.ready .any b a:=by
    refine mem_ready.2 ⟨by rw[agd,age c,hb];rfl,b[i],age f,λe j d=>?_⟩;have:=g i _ (age f) e j d;exact ih _ this om
   rw[h]at this;cases this
def uV (l:List Oper):Bool:=(List.range l.length).all λi=>match l[i]? with
 |some o=>o.after.all λe=>!Region.binds .any e||decide (e.on<i)
 |none=>true
theorem qG {l:List Oper}(h:uV l=true)(i:Nat)(o:Oper)(a:l[i]?=some o):∀e∈o.after,Region.binds .any e=true->Edge.on e<i:=by
 have d:i<ln l:=(lgs.1 a).1;have:=lat.1 h i (by simp[d]);rw[a]at this;simp only[Array.all_eq_true']at this;intro e c b;have:=this e c;rw[b]at this;simpa using this
def dL (mk:(Nat->Value)->Act)(Pr:Nat->(Nat->Value)->World->Prop)(D:Nat->Prop)(i:Nat)(vs:Nat->Value)(w:World)(a':Act)(w'':World):Prop:=∃v,a'=mk (aH vs i v)/\aG w w''/\∀j,j=i∨D j->Pr j (aH vs i v) w''
theorem dL.mk' {e:(Nat->Va)->Act}{c:Nat->(Nat->Va)->Wd->Prop}{D:Nat->Prop}{i:Nat}{b:Nat->Va}{w:Wd}{d:Act}{a:Wd}(v:Va)(f:d=e (aH b i v))(g:aG w a)(k:c i (aH b i v) a)(l:∀j,D j->c j (aH b i v) a):dL e c D i b w d a:=
 ⟨v,f,g,λj h=>by rcases h with h|h;exact h▸k;exact l j h⟩
theorem oD {id:Nat} {w:Wd} {l:List Oper} (U:P.follows .mixedOrders=true) (G:(Nat->Va)->Act) (g:Nat->Va) (H:Nat->(Nat->Va)->Wd->Prop)
 (k:∀(i:Nat) (o:Oper),l[i]?=some o->∀e∈o.after,Region.binds .any e=true->Edge.on e<i)
 (t:∀(D:Nat->Prop) (i:Nat) (o:Oper) c w',¬D i->(∀j,¬D j->c j=g j)->(∀j f,D j->l[j]?=some f->∀e∈f.after,Region.binds .any e=true->D (Edge.on e))->l[i]?=some o->
  (∀e∈o.after,Region.binds .any e=true->D (Edge.on e))->aG w w'->(∀j,D j->H j c w')->
  wpListIn F n P l.toArray (Exit.then (dL G H D i c w) Q) [o] (G c) w')
 (A:∀c w',aG w w'->(∀j,j<ln l->H j c w')->Q .normal (G c) w'):
 (Code.region id l.toArray true).wpIn F n P Q (G g) w:=by
 refine gJ U (λb a w'=>b.size=ln l/\∃c,a=G c/\aG w w'/\(∀j,¬iM b j->c j=g j)/\(∀j f,iM b j->l[j]?=some f->∀e∈f.after,Region.binds .any e=true->iM b (Edge.on e))/\∀j,iM b j->H j c w') ?_ ?_ ?_;·exact⟨sm,g,rfl,(br _ _).drew,λ_ _=>rfl,λj f h=>absurd h (eO _ _),λj h=>absurd h (eO _ _)⟩
 ·rintro b a w' i o ⟨R,c,rfl,J,u,p,N⟩ T x;obtain⟨C,f,B,S⟩:=mem_ready.1 T;rw[x]at B;cases B;have s:l[i]?=some o:=by simpa using x
  have hil:i<ln l:=(lgs.1 s).1;have y:∀e∈o.after,Region.binds .any e=true->iM b (Edge.on e):=λe z K=>S e z K;refine bV x (dM (λa' w'' h=>?_) (cQ x (t (iM b) i o c w' (mH C) u p s y J N)));obtain⟨v,rfl,K,O⟩:=h;refine⟨by simp[R],aH c i v,rfl,K,λj q=>?_,λj f q d e z m=>?_,λj q=>O j (dP q)⟩
  ·have L:j≠i:=λe=>q (by subst e;exact gL om (.inl rfl));unfold aH;rw[if_neg L];refine u j (λh=>q ?_)
   have r:j<b.size:=by
    by_cases r:j<b.size;·exact r
    ·unfold iM at h;rw[agd,Array.getElem?_eq_none om]at h;cases h
   exact gL r (.inr h)
  ·have M:Edge.on e<b.size:=by
    have h1:=k j f d e z m;have h2:=(lgs.1 d).1;omega
   refine gL M (.inr ?_);rcases dP q with h|h;·subst h;rw[s]at d;cases d;exact y e z m
   ·exact p j f h d e z m
 ·rintro b a w' ⟨R,c,rfl,J,u,p,N⟩ V;exact A c w' J (λj q=>N j (mQ V (λi o x=>k i o (by simpa using x)) om j om))
end
section
variable {F:Fence}{n:Nat}{P:Program}{Q:Exit->Act->World->Prop}
theorem JS {l:List Oper}{N:Nat}{D:Nat->Prop}{p:Oper}(g:l[N]?=some p)(v:Region.sinkB .any l.toArray N=true)(f:∀j o,D j->l[j]?=some o->∀e∈o.after,Region.binds .any e=true->D (Edge.on e))(t:∀e∈p.after,Region.binds .any e=true->D (Edge.on e)):
 ∀(d i:Nat),i+d+1=N->D i:=by
 intro d;induction d using Nat.strongRecOn with
 |_ d ih=>
  intro i hi;have s:=lat.1 v i so;obtain⟨j,u,k⟩:=List.any_eq_true.1 s;simp only[bat,dte]at k;have hjN:j<=N:=by simp at u;omega
  obtain⟨q,h,e,n,m,b⟩:=Region.waitsFor_spec k.2;have a:l[j]?=some q:=by simpa using h
  by_cases r:j=N
  ·subst r;rw[g]at a;cases a;rw[←b];exact t e n m
  ·have c:D j:=ih (N-1-j) om j om;rw[←b];exact f j q c a e n m
theorem oG {id:Nat} {w:Wd} {l:List Oper} (hm:P.follows .mixedOrders=true) (N:Nat) (hN:ln l=N+2) (W:(Nat->Va)->Act) (X:Nat->Va) (L:Nat->Va->Wd->Prop)
 (ze:∀j v w w',L j v w->aG w w'->L j v w')
 (r:∀(i:Nat) (o:Oper),l[i]?=some o->∀e∈o.after,Region.binds .any e=true->Edge.on e<i) (J:Region.sinkB .any l.toArray N=true) (H:Region.waitsFor .any l.toArray (N+1) N=true)
 (K:∀(i:Nat) (o:Oper) k w',i<N->l[i]?=some o->aG w w'->(∀e∈o.after,Region.binds .any e=true->L (Edge.on e) (k (Edge.on e)) w')->
  wpListIn F n P l.toArray (Exit.then (λM g=>∃v,M=W (aH k i v)/\L i v g/\aG w' g) Q) [o] (W k) w')
 (R:∀(o m:Oper) k w',l[N]?=some o->l[N+1]?=some m->aG w w'->(∀j,j<N->L j (k j) w')->
  wpListIn F n P l.toArray (Exit.then (λM g=>wpListIn F n P l.toArray (Exit.then (λa w=>Q .normal a w) Q) [m] M g) Q) [o] (W k) w'):
 (Code.region id l.toArray true).wpIn F n P Q (W X) w:=by
 obtain⟨oN,hoN⟩:∃o,l[N]?=some o:=⟨l[N]'om,sm⟩;obtain⟨oM,T⟩:∃o,l[N+1]?=some o:=⟨l[N+1]'om,sm⟩
 refine gJ hm (λb a w'=>b.size=N+2/\(∀j m,iM b j->l[j]?=some m->∀e∈m.after,Region.binds .any e=true->iM b (Edge.on e))/\
  ((∃k,a=W k/\¬iM b N/\¬iM b (N+1)/\aG w w'/\∀j,j<N->iM b j->L j (k j) w')∨
   ((∀j,j<=N->iM b j)/\¬iM b (N+1)/\wpListIn F n P l.toArray (Exit.then (λa w=>Q .normal a w) Q) [oM] a w')∨
   ((∀j,j<=N+1->iM b j)/\Q .normal a w'))) ?_ ?_ ?_
 ·exact⟨by simp[hN],λj m h=>absurd h (eO _ _),.inl ⟨X,rfl,eO _ _,eO _ _,(br _ _).drew,λj y h=>absurd h (eO _ _)⟩⟩
 ·rintro b a w' i o ⟨za,D,f⟩ hi u
  obtain⟨V,m,S,hd⟩:=mem_ready.1 hi;rw[u]at S
  cases S
  have d:l[i]?=some o:=by simpa using u
  have hil:i<N+2:=by have:=(lgs.1 d).1;omega
  have A:∀e∈o.after,Region.binds .any e=true->iM b (Edge.on e):=λe x z=>hd e x z
  have q:∀j m,iM (b.setIfInBounds i true) j->l[j]?=some m->∀e∈m.after,Region.binds .any e=true->iM (b.setIfInBounds i true) (Edge.on e):=λj m y s e x C=>by
   have zc:Edge.on e<b.size:=by
    have h1:=r j m s e x C;have h2:=(lgs.1 s).1;omega
   refine gL zc (.inr ?_)
   rcases dP y with h|h
   ·subst h;rw[d]at s;cases s;exact A e x C
   ·exact D j m h s e x C
  rcases f with⟨k,rfl,B,t,Z,hp⟩|⟨c,t,hk⟩|⟨c,_⟩
  ·by_cases G:i=N+1
   ·subst G
    obtain⟨oj,U,e,x,z,zd⟩:=Region.waitsFor_spec H;have:oj=o:=by rw[u]at U;exact(osi U).symm
    subst this;have:=A e x z;rw[zd]at this;exact absurd this B
   ·by_cases zb:i=N
    ·subst zb
     have p:∀j,j<i->iM b j:=λj y=>JS d J D A (i-1-j) j om;refine bV u (dM (λM g h=>⟨by simp[za],q,.inr (.inl ⟨λj y=>gL om ?_,λh=>?_,h⟩)⟩) (cQ u (R o oM k w' d T Z (λj y=>hp j y (p j y)))))
     ·by_cases e:j=i
      ·exact .inl e
      ·exact .inr (p j om)
     ·rcases dP h with e|e
      ·omega
      ·exact t e
    ·refine bV u (dM (λM g h=>?_) (cQ u (K i o k w' om d Z (λe x z=>hp _ (by have:=r i o d e x z;omega) (A e x z)))))
     obtain⟨v,rfl,hv,z⟩:=h;refine⟨by simp[za],q,.inl ⟨aH k i v,rfl,λh=>?_,λh=>?_,Z.trans (z.mono Z.size),λj y h=>?_⟩⟩
     ·rcases dP h with e|e
      ·omega
      ·exact B e
     ·rcases dP h with e|e
      ·omega
      ·exact t e
     ·unfold aH
      split
      ·rename_i e;subst e;exact hv
      ·rename_i e
       rcases dP h with e'|e'
       ·exact absurd e' e
       ·exact ze _ _ _ _ (hp j y e') z
  ·have G:i=N+1:=by
    by_cases e:i<=N
    ·exact absurd (c i e) (mH V)
    ·omega
   subst G;have:oM=o:=by rw[T]at d;exact osi d
   subst this;refine bV u (dM (λM g h=>⟨by simp[za],q,.inr (.inr ⟨λj y=>gL om ?_,h⟩)⟩) (cQ u hk))
   by_cases e:j=N+1
   ·exact .inl e
   ·exact .inr (c j om)
  ·exact absurd (c i om) (mH V)
 ·rintro b a w' ⟨za,D,f⟩ hr
  have O:=mQ hr (λi o u=>r i o (by simpa using u)) so
  rcases f with⟨k,rfl,B,_⟩|⟨c,t,hk⟩|⟨_,h⟩
  ·exact absurd (O N so) B
  ·exact absurd (O (N+1) so) t
  ·exact h
end
section
variable {F:Fence}{n:Nat}{P:Program}{Q:Exit->Act->World->Prop}
def CY (l:List Oper)(N:Nat):Bool:=(List.range l.length).all λi=>decide (i<=N)||Region.waitsFor .any l.toArray i (i-1)
theorem nE {b:Array Oper}{o:Oper}{i:Nat}{c:List Oper}{a:Act}{w:Wd}(d:b[i]?=some o)(h:wpListIn F n P b Q (o::c) a w):wpOpIn F n P b Q i (wpListIn F n P b Q c) a w:=by
 unfold wpOpIn;rw[d];exact h
theorem vP {id:Nat} {w:Wd} {l:List Oper} (hm:P.follows .mixedOrders=true) (N:Nat) (hN:N<ln l) (mk:(Nat->Va)->Act) (za:Nat->Va) (R:Nat->Va->Wd->Prop)
 (zg:∀j v w w',R j v w->aG w w'->R j v w')
 (r:∀(i:Nat) (o:Oper),l[i]?=some o->∀e∈o.after,Region.binds .any e=true->Edge.on e<i) (M:Region.sinkB .any l.toArray N=true) (G:CY l N=true)
 (O:∀(i:Nat) (o:Oper) f w',i<N->l[i]?=some o->aG w w'->(∀e∈o.after,Region.binds .any e=true->R (Edge.on e) (f (Edge.on e)) w')->
  wpListIn F n P l.toArray (Exit.then (λa' z=>∃v,a'=mk (aH f i v)/\R i v z/\aG w' z) Q) [o] (mk f) w')
 (T:∀f w',aG w w'->(∀j,j<N->R j (f j) w')->wpListIn F n P l.toArray Q (l.drop N) (mk f) w'):
 (Code.region id l.toArray true).wpIn F n P Q (mk za) w:=by
 refine gJ hm (λb a w'=>b.size=ln l/\(∀j B,iM b j->l[j]?=some B->∀e∈B.after,Region.binds .any e=true->iM b (Edge.on e))/\
  ((∃f,a=mk f/\(∀j,N<=j->¬iM b j)/\aG w w'/\∀j,j<N->iM b j->R j (f j) w')∨
   (∃t,N<t/\t<=ln l/\(∀j,j<t->iM b j)/\(∀j,t<=j->¬iM b j)/\wpListIn F n P l.toArray Q (l.drop t) a w'))) ?_ ?_ ?_
 ·exact⟨sm,λj B h=>absurd h (eO _ _),.inl ⟨za,rfl,λj _=>eO _ _,(br _ _).drew,λj k h=>absurd h (eO _ _)⟩⟩
 ·rintro b a w' i o ⟨zb,L,d⟩ hi x
  obtain⟨zk,B,X,hd⟩:=mem_ready.1 hi;rw[x]at X
  cases X
  have g:l[i]?=some o:=by simpa using x
  have V:i<ln l:=(lgs.1 g).1;have H:∀e∈o.after,Region.binds .any e=true->iM b (Edge.on e):=λe A D=>hd e A D
  have y:N<i->iM b (i-1):=λhNi=>by
   have C:=lat.1 G i (by simpa using V);simp only[bot,dte]at C
   rcases C with C|C
   ·omega
   ·obtain⟨oj,Z,e,A,D,zf⟩:=Region.waitsFor_spec C
    have:oj=o:=by rw[x]at Z;exact(osi Z).symm
    subst this;have:=H e A D;rw[zf]at this;exact this
  have q:∀j B,iM (b.setIfInBounds i true) j->l[j]?=some B->∀e∈B.after,Region.binds .any e=true->iM (b.setIfInBounds i true) (Edge.on e):=λj B k u e A K=>by
   have ze:Edge.on e<b.size:=by
    have C:=r j B u e A K;have h2:=(lgs.1 u).1;omega
   refine gL ze (.inr ?_)
   rcases dP k with h|h
   ·subst h;rw[g]at u;cases u;exact H e A K
   ·exact L j B h u e A K
  have s:∀t,t=i->l.drop t=o::l.drop (t+1):=λt e=>by
   subst e;rw[List.drop_eq_getElem_cons V]
   congr 1
   exact(lgs.1 g).2
  have J:∀t,t=i->(∀j,j<t->iM b j)->(∀j,t<=j->¬iM b j)->(∀j,j<t+1->iM (b.setIfInBounds i true) j)/\(∀j,t+1<=j->¬iM (b.setIfInBounds i true) j):=λt e C h2=>by
   subst e;refine⟨λj k=>gL om ?_,λj k h=>?_⟩
   ·by_cases e:j=t
    ·exact .inl e
    ·exact .inr (C j om)
   ·rcases dP h with e|e
    ·omega
    ·exact h2 j om e
  rcases d with⟨f,rfl,c,hB,hp⟩|⟨t,zh,zi,m,c,W⟩
  ·by_cases zc:i<N
   ·refine bV x (dM (λa' z h=>?_) (cQ x (O i o f w' zc g hB (λe A D=>hp _ (by have:=r i o g e A D;omega) (H e A D)))))
    obtain⟨v,rfl,hv,D⟩:=h;refine⟨by simp[zb],q,.inl ⟨aH f i v,rfl,λj k h=>?_,hB.trans (D.mono hB.size),λj k h=>?_⟩⟩
    ·rcases dP h with e|e
     ·omega
     ·exact c j k e
    ·unfold aH
     split
     ·rename_i e;subst e;exact hv
     ·rename_i e
      rcases dP h with e'|e'
      ·exact absurd e' e
      ·exact zg _ _ _ _ (hp j k e') D
   ·have U:i=N:=by
     by_cases h:N<i
     ·exact absurd (y h) (c (i-1) om)
     ·omega
    subst U;have p:∀j,j<i->iM b j:=λj k=>JS g M L H (i-1-j) j om;have hf:=T f w' hB (λj k=>hp j k (p j k));rw[s i rfl]at hf;refine bV x (dM (λa' z h=>?_) (nE x hf));obtain⟨g1,g2⟩:=J i rfl p c;exact⟨by simp[zb],q,.inr ⟨i+1,om,om,g1,g2,h⟩⟩
  ·have zd:i=t:=by
    have C:t<=i:=by
     by_cases h:i<t
     ·exact absurd (m i h) (mH zk)
     ·omega
    by_cases h:t<i
    ·exact absurd (y om) (c (i-1) om)
    ·omega
   subst zd;rw[s i rfl]at W;refine bV x (dM (λa' z h=>?_) (nE x W));obtain⟨g1,g2⟩:=J i rfl m c;exact⟨by simp[zb],q,.inr ⟨i+1,om,om,g1,g2,h⟩⟩
 ·rintro b a w' ⟨zb,L,d⟩ hr
  have S:=mQ hr (λi o x=>r i o (by simpa using x)) so
  rcases d with⟨f,rfl,c,_⟩|⟨t,zh,zi,m,c,W⟩
  ·exact absurd (S N (by simpa using hN)) (c N (nlq _))
  ·have zj:t=ln l:=by
    by_cases h:t<ln l
    ·exact absurd (S t (by simpa using h)) (c t (nlq _))
    ·omega
   subst zj;rw[List.drop_length]at W;exact W
end
section
variable {F:Fence}{n:Nat}{P:Program}{Q:Exit->Act->World->Prop}
end
def aD (a:Act):List (Option Tmp)->Nat->(Nat->Value)->Act
 |[],_,_=>a
 |d::r,k,vs=>aD (a.put d (vs k)) r (k+1) vs
attribute [go_sem] aD Act.put
def DI (a:Act)(ds:List (Option Tmp))(j:Nat):Value:=
 match ds[j]? with
 |some (some d)=>a.tmps.getD d undef
 |_=>undef
theorem ZL (a:Act)(b:List (Option Tmp))(d:Option Tmp)(k:Nat)(h:b[k]?=some d):a.put d (DI a b k)=a:=by
 cases d with
 |none=>rfl
 |some d=>
  unfold DI;rw[h];simp only[Act.put]
  have:a.tmps.setIfInBounds d (a.tmps.getD d undef)=a.tmps:=by
   apply Array.ext_getElem?;intro i;rw[Array.getElem?_setIfInBounds];split
   ·rename_i e;subst e;split
    ·rename_i c;exact(age c).symm
    ·rename_i c;rw[Array.getElem?_eq_none om]
   ·rfl
  rw[this]
theorem yN (a:Act)(b:List (Option Tmp)):∀(r:List (Option Tmp)) (k:Nat),(∀j,r[j]?=b[k+j]?)->aD a r k (DI a b)=a
 |[],_,_=>rfl
 |d::r,k,h=>by
  have c:b[k]?=some d:=by have:=h 0;simpa using this.symm
  unfold aD;rw[ZL a b d k c];exact yN a b r (k+1) (λj=>by have:=h (j+1);simp only[List.getElem?_cons_succ]at this;rw[this];congr 1;omega)
theorem BC (a:Act)(b:List (Option Tmp)):aD a b 0 (DI a b)=a:=yN a b b 0 (λj=>by rw[nza])
section
variable {F:Fence}{n:Nat}{P:Program}{Q:Exit->Act->Wd->Prop}
theorem vX {id:Nat} {a:Act} {w:Wd} {l:List Oper} (u:P.follows .mixedOrders=true) (N:Nat) (k:List (Option Tmp)) (t:N<ln l) (f:Nat->Va->Wd->Prop)
 (r:∀j v w w',f j v w->aG w w'->f j v w')
 (m:uV l=true) (c:Region.sinkB .any l.toArray N=true) (b:CY l N=true)
 (d:∀(i:Nat) (o:Oper) g w',i<N->l[i]?=some o->aG w w'->(∀e∈o.after,Region.binds .any e=true->f (Edge.on e) (g (Edge.on e)) w')->
  wpListIn F n P l.toArray (Exit.then (λs q=>∃v,s=aD a k 0 (aH g i v)/\f i v q/\aG w' q) Q) [o] (aD a k 0 g) w')
 (p:∀g w',aG w w'->(∀j,j<N->f j (g j) w')->wpListIn F n P l.toArray Q (l.drop N) (aD a k 0 g) w'):
 (Code.region id l.toArray true).wpIn F n P Q a w:=by
 have h:=vP (id:=id) u N t (aD a k 0) (DI a k) f r (qG m) c b d p;rw[BC]at h;exact h
end
theorem pG {P:Program} {Q:Exit->Act->Wd->Prop} {id:Nat} {a:Act} {w:Wd} {l:List Oper} (N:Nat) (n:List (Option Tmp)) (f:Nat->Va->Wd->Prop)
 (p:∀j v w w',f j v w->Below w.heap.size w w'->f j v w')
 (d:∀(i:Nat) (o:Oper) g w',i<N->l[i]?=some o->Below w.heap.size w w'->(∀e∈o.after,Region.binds .any e=true->f (Edge.on e) (g (Edge.on e)) w')->
  wpListIn Fence.wide 0 P l.toArray (Exit.then (λq m=>∃v,q=aD a n 0 (aH g i v)/\f i v m/\Below w'.heap.size w' m) Q) [o] (aD a n 0 g) w')
 (k:∀g w',Below w.heap.size w w'->(∀j,j<N->f j (g j) w')->wpListIn Fence.wide 0 P l.toArray Q (l.drop N) (aD a n 0 g) w')
 (s:P.follows .mixedOrders=true:=by kernel_rfl) (r:N<ln l:=by decide) (h:uV l=true:=by kernel_rfl) (c:Region.sinkB .any l.toArray N=true:=by kernel_rfl) (b:CY l N=true:=by kernel_rfl):
 (Code.region id l.toArray true).wp P Q a w:=wpIn_wide.1 (vX s N n r f p h c b d k)
def oP (l:List Oper):Nat->Nat->Nat->Bool
 |0,_,_=>false
 |f+1,i,j=>Region.waitsFor .any l.toArray i j||(List.range i).any λk=>Region.waitsFor .any l.toArray i k&&oP l f k j
section
variable {F:Fence}{n:Nat}{P:Program}{Q:Exit->Act->World->Prop}
theorem xK {l:List Oper}{a:Array Bool}(b:∀j n,iM a j->l[j]?=some n->∀e∈n.after,Region.binds .any e=true->iM a (Edge.on e)):
 ∀(f i j:Nat),oP l f i j=true->(∀o,l[i]?=some o->∀e∈o.after,Region.binds .any e=true->iM a (Edge.on e))->iM a j
 |0,_,_,h,_=>by simp[oP]at h
 |f+1,i,j,h,hi=>by
  have d:∀k,Region.waitsFor .any l.toArray i k=true->iM a k:=λk c=>by
   obtain⟨o,g,e,q,p,m⟩:=Region.waitsFor_spec c;have:=hi o (by simpa using g) e q p;rw[m]at this;exact this
  unfold oP at h;rw[bot]at h;rcases h with h|h;·exact d j h
  ·obtain⟨k,_,c⟩:=List.any_eq_true.1 h;rw[bat]at c;exact xK b f k j c.2 (λo g=>b k o (d k c.1) g)
def BD (l:List Oper)(f N:Nat)(fr:Nat->Bool):Bool:=(List.range N).all λj=>fr j||oP l f N j
def dpOk (l:List Oper)(f N:Nat)(dp:Nat->List Nat):Bool:=(List.range N).all λj=>(dp j).all λk=>k==j||oP l f j k
theorem BV {l:List Oper}{f N:Nat}{i:Nat->Bool}(h:BD l f N i=true){o:Oper}{a:Array Bool}(p:l[N]?=some o)
 (c:∀j g,iM a j->l[j]?=some g->∀e∈g.after,Region.binds .any e=true->iM a (Edge.on e))
 (d:∀e∈o.after,Region.binds .any e=true->iM a (Edge.on e))(j:Nat)(n:j<N)(m:i j=false):iM a j:=by
 have k:=lat.1 h j (by simpa using n);rw[m,Bool.false_or]at k;exact xK c f N j k (λg b=>by rw[p]at b;cases b;exact d)
theorem vV {id:Nat} {a:Act} {w:Wd} {l:List Oper} (hm:P.follows .mixedOrders=true) (f N M:Nat) (U:List (Option Tmp)) (yf:N<M) (hM:M<ln l) (R:Nat->Bool) (dp:Nat->List Nat)
 (T:Nat->(Nat->Va)->Wd->Prop) (Pf:Nat->Va->Prop) (G:Nat->(Nat->Va)->Wd->Prop)
 (yn:∀j c w w',T j c w->aG w w'->T j c w') (zy:∀j c yc w,(∀k∈dp j,c k=yc k)->T j c w->T j yc w) (yb:∀j c w,R j=true->T j c w->Pf j (c j))
 (zs:uV l=true) (yg:dpOk l f N dp=true) (ym:BD l f N R=true) (yl:BD l f M (λ_=>false)=true) (zd:CY l N=true)
 (zq:∀(i:Nat) (o:Oper) c w',i<N->l[i]?=some o->aG w w'->(∀e∈o.after,Region.binds .any e=true->T (Edge.on e) c w')->
  wpListIn F n P l.toArray (Exit.then (λx q=>∃v,x=aD a U 0 (aH c i v)/\T i (aH c i v) q/\aG w' q) Q) [o] (aD a U 0 c) w')
 (zl:∀(i:Nat) (o:Oper) c w' t,i<N->R i=true->l[i]?=some o->N<t->t<=M->G t c w'->(∀e∈o.after,Region.binds .any e=true->R (Edge.on e)=true->Pf (Edge.on e) (c (Edge.on e)))->
  wpListIn F n P l.toArray (Exit.then (λx q=>∃v,x=aD a U 0 (aH c i v)/\Pf i v/\q=w') Q) [o] (aD a U 0 c) w')
 (yd:∀c w',aG w w'->(∀j,j<N->R j=false->T j c w')->G N c w')
 (ye:∀t c w' i v,R i=true->G t c w'->G t (aH c i v) w')
 (K:∀(t:Nat) (o:Oper) c w',N<=t->t<M->l[t]?=some o->G t c w'->(∀e∈o.after,Region.binds .any e=true->Edge.on e<N->R (Edge.on e)=true->Pf (Edge.on e) (c (Edge.on e)))->
  wpListIn F n P l.toArray (Exit.then (λx q=>∃v,x=aD a U 0 (aH c t v)/\G (t+1) (aH c t v) q) Q) [o] (aD a U 0 c) w')
 (zu:∀c w',G M c w'->(∀j,j<N->R j=true->Pf j (c j))->wpListIn F n P l.toArray Q (l.drop M) (aD a U 0 c) w'):
 (Code.region id l.toArray true).wpIn F n P Q a w:=by
 have u:=qG zs
 suffices h:(Code.region id l.toArray true).wpIn F n P Q (aD a U 0 (DI a U)) w by rw[BC]at h;exact h
 refine gJ hm (λb x w'=>b.size=ln l/\(∀j S,iM b j->l[j]?=some S->∀e∈S.after,Region.binds .any e=true->iM b (Edge.on e))/\
  ((∃c,x=aD a U 0 c/\(∀j,N<=j->¬iM b j)/\aG w w'/\∀j,j<N->iM b j->T j c w')∨
   (∃t c,N<t/\t<=M/\x=aD a U 0 c/\(∀j,j<t->(j<N->R j=false)->iM b j)/\(∀j,t<=j->¬iM b j)/\G t c w'/\∀j,j<N->R j=true->iM b j->Pf j (c j))∨
   (∃t,M<t/\t<=ln l/\(∀j,j<t->iM b j)/\(∀j,t<=j->¬iM b j)/\wpListIn F n P l.toArray Q (l.drop t) x w'))) ?_ ?_ ?_
 ·exact⟨sm,λj S h=>absurd h (eO _ _),.inl ⟨_,rfl,λj _=>eO _ _,(br _ _).drew,λj g h=>absurd h (eO _ _)⟩⟩
 ·rintro b x w' i o ⟨zp,L,D⟩ hi B
  obtain⟨zh,S,zg,hd⟩:=mem_ready.1 hi;rw[B]at zg
  cases zg
  have r:l[i]?=some o:=by simpa using B
  have zx:i<ln l:=(lgs.1 r).1;have z:∀e∈o.after,Region.binds .any e=true->iM b (Edge.on e):=λe A C=>hd e A C
  have H:N<i->iM b (i-1):=λhNi=>by
   have y:=lat.1 zd i (by simpa using zx);simp only[bot,dte]at y
   rcases y with y|y
   ·omega
   ·obtain⟨oj,zz,e,A,C,yk⟩:=Region.waitsFor_spec y
    have:oj=o:=by rw[B]at zz;exact(osi zz).symm
    subst this;have:=z e A C;rw[yk]at this;exact this
  have s:∀j S,iM (b.setIfInBounds i true) j->l[j]?=some S->∀e∈S.after,Region.binds .any e=true->iM (b.setIfInBounds i true) (Edge.on e):=λj S g Z e A zk=>by
   have za:Edge.on e<b.size:=by
    have y:=u j S Z e A zk;have h2:=(lgs.1 Z).1;omega
   refine gL za (.inr ?_)
   rcases dP g with h|h
   ·subst h;rw[r]at Z;cases Z;exact z e A zk
   ·exact L j S h Z e A zk
  have X:∀t,t=i->l.drop t=o::l.drop (t+1):=λt e=>by
   subst e;rw[List.drop_eq_getElem_cons zx]
   congr 1
   exact(lgs.1 r).2
  have J:∀t,t=i->(∀j,t<=j->¬iM b j)->(∀j,t+1<=j->¬iM (b.setIfInBounds i true) j):=λt e h2 j g h=>by
   subst e
   rcases dP h with e|e
   ·omega
   ·exact h2 j om e
  have zi:∀t,t=i->(∀j,j<t->iM b j)->(∀j,j<t+1->iM (b.setIfInBounds i true) j):=λt e y j g=>by
   subst e;refine gL om ?_
   by_cases e:j=t
   ·exact .inl e
   ·exact .inr (y j om)
  have zf:∀j c v w1,j<N->iM b j->T j c w1->T j (aH c i v) w1:=λj c v w1 yi g O=>by
   refine zy j c _ w1 (λk hk=>?_) O;have y:=lat.1 (lat.1 yg j (by simpa using yi)) k hk;rw[bot,beq_iff_eq]at y
   have yj:iM b k:=by
    rcases y with y|y
    ·subst y;exact g
    ·exact xK L f j k y (λS zg=>L j S g zg)
   have zb:k≠i:=λe=>by subst e;exact mH zh yj
   unfold aH;rw[if_neg zb]
  rcases D with⟨c,rfl,d,hB,O⟩|⟨t,c,zc,zr,rfl,m,d,hg,O⟩|⟨t,zc,yo,m,d,hk⟩
  ·by_cases ze:i<N
   ·refine bV B (dM (λx q h=>?_) (cQ B (zq i o c w' ze r hB (λe A C=>O _ (by have:=u i o r e A C;omega) (z e A C)))))
    obtain⟨v,rfl,hv,C⟩:=h;refine⟨by simp[zp],s,.inl ⟨aH c i v,rfl,λj g h=>?_,hB.trans (C.mono hB.size),λj g h=>?_⟩⟩
    ·rcases dP h with e|e
     ·omega
     ·exact d j g e
    ·rcases dP h with e'|e'
     ·subst e';exact hv
     ·exact zf j c v q g e' (yn _ _ _ _ (O j g e') C)
   ·have zw:i=N:=by
     by_cases h:N<i
     ·exact absurd (H h) (d (i-1) om)
     ·omega
    subst zw;have W:=λj g p=>BV ym r L z j g p;have hg:=yd c w' hB (λj g p=>O j g (W j g p));refine bV B (dM (λx q h=>?_) (cQ B (K i o c w' (nlq _) yf r hg (λe A C za p=>yb _ _ _ p (O _ za (z e A C))))));obtain⟨v,rfl,zm⟩:=h;refine⟨by simp[zp],s,.inr (.inl ⟨i+1,aH c i v,om,om,rfl,λj g p=>?_,J i rfl d,zm,λj g p h=>?_⟩)⟩
    ·refine gL om ?_
     by_cases e:j=i
     ·exact .inl e
     ·exact .inr (W j om (p om))
    ·have zb:j≠i:=om
     rw[show aH c i v j=c j by unfold aH;rw[if_neg zb]]
     rcases dP h with e|e
     ·omega
     ·exact yb _ _ _ p (O j g e)
  ·by_cases ze:i<N
   ·have zt:R i=true:=by
     cases p:R i with
     |true=>rfl
     |false=>exact absurd (m i om (λ_=>p)) (mH zh)
    refine bV B (dM (λx q h=>?_) (cQ B (zl i o c w' t ze zt r zc zr hg (λe A C p=>O _ (by have:=u i o r e A C;omega) p (z e A C)))));obtain⟨v,rfl,hv,rfl⟩:=h;refine⟨by simp[zp],s,.inr (.inl ⟨t,aH c i v,zc,zr,rfl,λj g p=>gL om (.inr (m j g p)),λj g h=>?_,ye t c _ i v zt hg,λj g p h=>?_⟩)⟩
    ·rcases dP h with e|e
     ·omega
     ·exact d j g e
    ·unfold aH
     split
     ·rename_i e;subst e;exact hv
     ·rename_i e
      rcases dP h with e'|e'
      ·exact absurd e' e
      ·exact O j g p e'
   ·have zn:i=t:=by
     have y:t<=i:=by
      by_cases h:i<t
      ·exact absurd (m i h (λh=>absurd h ze)) (mH zh)
      ·omega
     by_cases h:t<i
     ·exact absurd (H om) (d (i-1) om)
     ·omega
    subst zn
    by_cases yh:i<M
    ·refine bV B (dM (λx q h=>?_) (cQ B (K i o c w' om yh r hg (λe A C za p=>O _ za p (z e A C)))))
     obtain⟨v,rfl,zm⟩:=h;refine⟨by simp[zp],s,.inr (.inl ⟨i+1,aH c i v,om,om,rfl,λj g p=>?_,J i rfl d,zm,λj g p h=>?_⟩)⟩
     ·refine gL om ?_
      by_cases e:j=i
      ·exact .inl e
      ·exact .inr (m j om p)
     ·have zb:j≠i:=om
      rw[show aH c i v j=c j by unfold aH;rw[if_neg zb]]
      rcases dP h with e|e
      ·omega
      ·exact O j g p e
    ·have zv:i=M:=om
     subst zv;have V:∀j,j<i->iM b j:=λj g=>BV yl r L z j g rfl;have p:=zu c w' hg (λj g p=>O j g p (V j om));rw[X i rfl]at p;refine bV B (dM (λx q h=>?_) (nE B p));exact⟨by simp[zp],s,.inr (.inr ⟨i+1,om,om,zi i rfl V,J i rfl d,h⟩)⟩
  ·have zn:i=t:=by
    have y:t<=i:=by
     by_cases h:i<t
     ·exact absurd (m i h) (mH zh)
     ·omega
    by_cases h:t<i
    ·exact absurd (H om) (d (i-1) om)
    ·omega
   subst zn;rw[X i rfl]at hk;refine bV B (dM (λx q h=>?_) (nE B hk));exact⟨by simp[zp],s,.inr (.inr ⟨i+1,om,om,zi i rfl m,J i rfl d,h⟩)⟩
 ·rintro b x w' ⟨zp,L,D⟩ hr
  have zj:=mQ hr (λi o B=>u i o (by simpa using B)) so
  rcases D with⟨c,rfl,d,_⟩|⟨t,c,zc,zr,rfl,m,d,_⟩|⟨t,zc,yo,m,d,hk⟩
  ·exact absurd (zj N so) (d N (nlq _))
  ·exact absurd (zj t so) (d t (nlq _))
  ·have yp:t=ln l:=by
    by_cases h:t<ln l
    ·exact absurd (zj t (by simpa using h)) (d t (nlq _))
    ·omega
   subst yp;rw[List.drop_length]at hk;exact hk
end
theorem ZC {P:Program} {Q:Exit->Act->Wd->Prop} {id:Nat} {a:Act} {w:Wd} {l:List Oper} (f N M:Nat) (n:List (Option Tmp)) (g:Nat->Bool) (A:Nat->List Nat)
 (d:Nat->(Nat->Va)->Wd->Prop) (r:Nat->Va->Prop) (G:Nat->(Nat->Va)->Wd->Prop)
 (L:∀j b w w',d j b w->Below w.heap.size w w'->d j b w') (y:∀j b z w,(∀k∈A j,b k=z k)->d j b w->d j z w) (H:∀j b w,g j=true->d j b w->r j (b j))
 (q:∀(i:Nat) (o:Oper) b w',i<N->l[i]?=some o->Below w.heap.size w w'->(∀e∈o.after,Region.binds .any e=true->d (Edge.on e) b w')->
  wpListIn Fence.wide 0 P l.toArray (Exit.then (λs c=>∃v,s=aD a n 0 (aH b i v)/\d i (aH b i v) c/\Below w'.heap.size w' c) Q) [o] (aD a n 0 b) w')
 (p:∀(i:Nat) (o:Oper) b w' t,i<N->g i=true->l[i]?=some o->N<t->t<=M->G t b w'->(∀e∈o.after,Region.binds .any e=true->g (Edge.on e)=true->r (Edge.on e) (b (Edge.on e)))->
  wpListIn Fence.wide 0 P l.toArray (Exit.then (λs c=>∃v,s=aD a n 0 (aH b i v)/\r i v/\c=w') Q) [o] (aD a n 0 b) w')
 (B:∀b w',Below w.heap.size w w'->(∀j,j<N->g j=false->d j b w')->G N b w')
 (C:∀t b w' i v,g i=true->G t b w'->G t (aH b i v) w')
 (m:∀(t:Nat) (o:Oper) b w',N<=t->t<M->l[t]?=some o->G t b w'->(∀e∈o.after,Region.binds .any e=true->Edge.on e<N->g (Edge.on e)=true->r (Edge.on e) (b (Edge.on e)))->
  wpListIn Fence.wide 0 P l.toArray (Exit.then (λs c=>∃v,s=aD a n 0 (aH b t v)/\G (t+1) (aH b t v) c) Q) [o] (aD a n 0 b) w')
 (x:∀b w',G M b w'->(∀j,j<N->g j=true->r j (b j))->wpListIn Fence.wide 0 P l.toArray Q (l.drop M) (aD a n 0 b) w')
 (R:P.follows .mixedOrders=true:=by kernel_rfl) (D:N<M:=by decide) (O:M<ln l:=by decide) (u:uV l=true:=by kernel_rfl) (F:dpOk l f N A=true:=by kernel_rfl) (K:BD l f N g=true:=by kernel_rfl) (J:BD l f M (λ_=>false)=true:=by kernel_rfl) (h:CY l N=true:=by kernel_rfl):
 (Code.region id l.toArray true).wp P Q a w:=wpIn_wide.1 (vV R f N M n D O g A d r G L y H u F K J h q p B C m x)
section
variable {F:Fence}{n:Nat}{P:Program}{Q:Exit->Act->World->Prop}
theorem fA {id:Nat} {a:Act} {w:Wd} {l:List Oper} (W:P.follows .mixedOrders=true) (p:List (Option Tmp)) (b:(Nat->Prop)->(Nat->Va)->Wd->Prop)
 (z:uV l=true) (S:b (λ_=>False) (DI a p) w.drew)
 (m:∀L R d w',(∀j,L j↔R j)->b L d w'->b R d w')
 (t:∀(L:Nat->Prop) (i:Nat) (o:Oper) d w',l[i]?=some o->¬L i->(∀e∈o.after,Region.binds .any e=true->L (Edge.on e))->
  (∀j k,L j->l[j]?=some k->∀e∈k.after,Region.binds .any e=true->L (Edge.on e))->b L d w'->
  wpListIn F n P l.toArray (Exit.then (λu G=>∃v,u=aD a p 0 (aH d i v)/\b (λj=>L j∨j=i) (aH d i v) G) Q) [o] (aD a p 0 d) w')
 (B:∀(L:Nat->Prop) d w',(∀j,j<ln l->L j)->b L d w'->Q .normal (aD a p 0 d) w'):
 (Code.region id l.toArray true).wpIn F n P Q a w:=by
 have f:=qG z
 suffices h:(Code.region id l.toArray true).wpIn F n P Q (aD a p 0 (DI a p)) w by rw[BC]at h;exact h
 refine gJ W (λc u w'=>c.size=ln l/\(∀j k,iM c j->l[j]?=some k->∀e∈k.after,Region.binds .any e=true->iM c (Edge.on e))/\∃d,u=aD a p 0 d/\b (iM c) d w') ?_ ?_ ?_
 ·exact⟨sm,λj k h=>absurd h (eO _ _),_,rfl,m _ _ _ _ (λj=>⟨λh=>h.elim,λh=>absurd h (eO _ _)⟩) S⟩
 ·rintro c u w' i o ⟨N,r,d,rfl,H⟩ V x
  obtain⟨O,k,D,U⟩:=mem_ready.1 V;rw[x]at D
  cases D
  have s:l[i]?=some o:=by simpa using x
  have y:∀e∈o.after,Region.binds .any e=true->iM c (Edge.on e):=λe A T=>U e A T;refine bV x (dM (λu G h=>?_) (cQ x (t (iM c) i o d w' s (mH O) y r H)));obtain⟨v,rfl,J⟩:=h;refine⟨by simp[N],λj k C g e A q=>?_,_,rfl,m _ _ _ _ (λj=>?_) J⟩
  ·have M:Edge.on e<c.size:=by
    have h1:=f j k g e A q;have h2:=(lgs.1 g).1;omega
   refine gL M (.inr ?_)
   rcases dP C with h|h
   ·subst h;rw[s]at g;cases g;exact y e A q
   ·exact r j k h g e A q
  ·constructor
   ·rintro(h|rfl)
    ·refine gL ?_ (.inr h)
     by_cases C:j<c.size
     ·exact C
     ·exfalso
      unfold iM at h;rw[agd,Array.getElem?_eq_none om]at h;simp at h
    ·exact gL (by rw[N];exact(lgs.1 s).1) (.inl rfl)
   ·intro h
    rcases dP h with e|e
    ·exact .inr e
    ·exact .inl e
 ·rintro c u w' ⟨N,r,d,rfl,H⟩ X
  have K:=mQ X (λi o x=>f i o (by simpa using x)) so;exact B _ d w' (λj C=>K j (by simpa using C)) H
end
section
variable {F:Fence}{n:Nat}{P:Program}{Q:Exit->Act->World->Prop}
theorem RV {l:List Oper}{L:Nat->Prop}(a:∀j m,L j->l[j]?=some m->∀e∈m.after,Region.binds .any e=true->L (Edge.on e)):
 ∀(f i j:Nat),oP l f i j=true->(∀o,l[i]?=some o->∀e∈o.after,Region.binds .any e=true->L (Edge.on e))->L j
 |0,_,_,h,_=>by simp[oP]at h
 |f+1,i,j,h,hi=>by
  have c:∀k,Region.waitsFor .any l.toArray i k=true->L k:=λk b=>by
   obtain⟨o,d,e,p,n,g⟩:=Region.waitsFor_spec b;have:=hi o (by simpa using d) e p n;rw[g]at this;exact this
  unfold oP at h;rw[bot]at h;rcases h with h|h;·exact c j h
  ·obtain⟨k,_,b⟩:=List.any_eq_true.1 h;rw[bat]at b;exact RV a f k j b.2 (λo d=>a k o (c k b.1) d)
def aAC (l:List Oper)(f:Nat)(ch:List Nat):Bool:=(List.range (ch.length-1)).all λt=>oP l f (ch.getD (t+1) 0) (ch.getD t 0)
theorem dA {id:Nat} {a:Act} {w:Wd} {l:List Oper} (hm:P.follows .mixedOrders=true) (D:List (Option Tmp)) (f:Nat) (b:List Nat) (S:Nat->(Nat->Va)->Wd->Prop) (V:Nat->Va->Prop)
 (Z:uV l=true) (zj:aAC l f b=true) (ze:b.Pairwise (· <·))
 (zd:∀k d zg w,(∀c∈b.take k,d c=zg c)->S k d w->S k zg w)
 (h0:S 0 (DI a D) w.drew)
 (N:∀(j:Nat) (o:Oper) (k:Nat) d w',l[j]?=some o->b.contains j=false->k<=ln b->(∀c∈b.take k,Region.waitsFor .any l.toArray c j=false)->S k d w'->
  (∀e∈o.after,Region.binds .any e=true->(b.contains (Edge.on e)=false->V (Edge.on e) (d (Edge.on e)))/\(b.contains (Edge.on e)=true->Edge.on e∈b.take k))->
  wpListIn F n P l.toArray (Exit.then (λW x=>∃v,W=aD a D 0 (aH d j v)/\x=w'/\V j v) Q) [o] (aD a D 0 d) w')
 (za:∀(k i:Nat) (o:Oper) d w',b[k]?=some i->l[i]?=some o->S k d w'->
  (∀e∈o.after,Region.binds .any e=true->b.contains (Edge.on e)=false->V (Edge.on e) (d (Edge.on e)))->
  wpListIn F n P l.toArray (Exit.then (λW x=>∃v,W=aD a D 0 (aH d i v)/\S (k+1) (aH d i v) x) Q) [o] (aD a D 0 d) w')
 (zb:∀d w',S (ln b) d w'->(∀j,j<ln l->b.contains j=false->V j (d j))->Q .normal (aD a D 0 d) w')
 (zc:∀c∈b,c<ln l):
 (Code.region id l.toArray true).wpIn F n P Q a w:=by
 refine fA hm D (λL d w'=>∃k,k<=ln b/\(∀i c,b[i]?=some c->(L c↔i<k))/\S k d w'/\∀j,L j->b.contains j=false->V j (d j)) Z ?_ ?_ ?_ ?_
 ·exact⟨0,nz _,λi c _=>⟨λh=>h.elim,λh=>absurd h om⟩,h0,λj h=>h.elim⟩
 ·rintro L L' d w' T ⟨k,hk,p,G,B⟩
  exact⟨k,hk,λi c q=>(T c).symm.trans (p i c q),G,λj r=>B j ((T j).2 r)⟩
 ·rintro L i o d w' zh M z X ⟨k,hk,p,G,B⟩
  have zm:∀c,c∈b->L c->c∈b.take k:=λc q T=>by
   obtain⟨t,ht,rfl⟩:=lgo q;have:=(p t _ (lge ht)).1 T;rw[List.mem_take_iff_getElem];exact⟨t,om,rfl⟩
  have m:l.toArray[i]?=some o:=by simpa using zh
  by_cases q:b.contains i=true
  ·have hm:i∈b:=by simpa using q
   obtain⟨t,ht,zt⟩:=lgo hm;have u:b[t]?=some i:=by rw[lge ht,zt]
   have hkt:¬t<k:=λh=>M ((p t i u).2 h)
   have htk:t<=k:=by
    rcases Nat.eq_zero_or_pos t with h|h
    ·omega
    ·have hr:=lat.1 zj (t-1) so
     have e1:b.getD (t-1+1) 0=i:=by rw[show t-1+1=t by omega,List.getD_eq_getElem?_getD,u];rfl
     have e2:b[t-1]?=some (b.getD (t-1) 0):=by rw[List.getD_eq_getElem?_getD,lge om];rfl
     simp only[e1]at hr;have T:=RV X f i _ hr (λo' m=>by rw[zh]at m;cases m;exact z);have:=(p (t-1) _ e2).1 T;omega
   obtain rfl:t=k:=om
   have O:=za t i o d w' u zh G (λe J U hn=>B _ (z e J U) hn);refine bV m (dM ?_ (cQ m O));rintro W x ⟨v,rfl,hS⟩;refine⟨v,rfl,t+1,om,λA R g=>?_,hS,λj r s=>?_⟩
   ·constructor
    ·rintro(h|rfl)
     ·have:=(p A R g).1 h;omega
     ·have h':=(lgs.1 g)
      have y:=(lgs.1 u)
      rcases Nat.lt_trichotomy A t with zn|J|zl
      ·have:=List.pairwise_iff_getElem.1 ze A t h'.1 y.1 zn
       rw[h'.2,y.2]at this;omega
      ·omega
      ·have:=List.pairwise_iff_getElem.1 ze t A y.1 h'.1 zl
       rw[h'.2,y.2]at this;omega
    ·intro h
     by_cases e:A=t
     ·subst e;rw[u]at g;cases g;exact .inr rfl
     ·exact .inl ((p A R g).2 om)
   ·rcases r with r|rfl
    ·have:j≠i:=λe=>by rw[e]at r;exact M r
     have e:aH d i v j=d j:=by simp[aH,this]
     rw[e];exact B j r s
    ·rw[q]at s;cases s
  ·have g:b.contains i=false:=by simpa using q
   have zp:∀c∈b.take k,Region.waitsFor .any l.toArray c i=false:=λc zk=>by
    cases hw:Region.waitsFor .any l.toArray c i with
    |false=>rfl
    |true=>
     exfalso
     obtain⟨o',zq,e,J,U,zr⟩:=Region.waitsFor_spec hw;obtain⟨t,ht,zs⟩:=List.mem_take_iff_getElem.1 zk;have zi:L c:=(p t c (by rw[lge om,zs])).2 om;have:=X c o' zi (by simpa using zq) e J U;rw[zr]at this;exact M this
   have O:=N i o k d w' zh g hk zp G (λe J U=>⟨λhn=>B _ (z e J U) hn,λhy=>zm _ (by simpa using hy) (z e J U)⟩);refine bV m (dM ?_ (cQ m O));rintro W x ⟨v,rfl,rfl,hP⟩;have zf:i∉b:=by simpa using g
   refine⟨v,rfl,k,hk,λA R H=>?_,zd k d _ _ (λc q=>?_) G,λj r s=>?_⟩
   ·have K:R≠i:=λe=>zf (by rw[←e];exact List.mem_of_getElem? H)
    constructor
    ·rintro(h|h)
     ·exact(p A R H).1 h
     ·exact absurd h K
    ·intro h;exact .inl ((p A R H).2 h)
   ·have K:c≠i:=λe=>zf (by rw[←e];exact lmt q)
    simp[aH,K]
   ·by_cases e:j=i
    ·subst e;simpa[aH]using hP
    ·have:aH d i v j=d j:=by simp[aH,e]
     rw[this];exact B j (r.resolve_right e) s
 ·rintro L d w' C ⟨k,hk,p,G,B⟩
  obtain rfl:k=ln b:=by
   rcases Nat.eq_zero_or_pos (ln b)with h|h
   ·omega
   ·have hl:b[ln b-1]?=some b[ln b-1]:=lge om
    have:=(p _ _ hl).1 (C _ (zc _ (lgm _)));omega
  exact zb d w' G (λj r q=>B j (C j r) q)
theorem iJ {l:List Oper}{b:List Nat}{k j c:Nat}(a:∀c∈b.take k,Region.waitsFor .any l.toArray c j=false)(e:c∈b)(d:Region.waitsFor .any l.toArray c j=true):k<ln b:=by
 rcases Nat.lt_or_ge k (ln b)with h|h;·exact h
 ·rw[ltl h]at a;rw[a c e]at d;cases d
end
section
variable {F:Fence}{n:Nat}{P:Program}{Q:Exit->Act->World->Prop}
theorem qR {id:Nat} {a:Act} {w:Wd} {l:List Oper} (W:P.follows .mixedOrders=true) (m:List (Option Tmp)) (k:Nat->Va->Wd->Prop) (G:Wd->Wd->Prop) (J:(Nat->Prop)->Wd->Prop)
 (D:∀j v w w',k j v w->G w w'->k j v w') (p:uV l=true) (O:J (λ_=>False) w.drew)
 (q:∀L t w',(∀j,L j↔t j)->J L w'->J t w')
 (g:∀(L:Nat->Prop) (i:Nat) (o:Oper) b w',l[i]?=some o->¬L i->(∀j u,l[j]?=some u->(∃e∈u.after,Region.binds .any e=true/\Edge.on e=i)->b j=DI a m j)->J L w'->(∀e∈o.after,Region.binds .any e=true->k (Edge.on e) (b (Edge.on e)) w')->
  wpListIn F n P l.toArray (Exit.then (λH d=>∃v,H=aD a m 0 (aH b i v)/\k i v d/\G w' d/\J (λj=>L j∨j=i) d) Q) [o] (aD a m 0 b) w')
 (r:∀(L:Nat->Prop) b w',J L w'->(∀j,j<ln l->k j (b j) w')->Q .normal (aD a m 0 b) w'):
 (Code.region id l.toArray true).wpIn F n P Q a w:=by
 refine fA W m (λL b w'=>J L w'/\(∀j,L j->k j (b j) w')/\∀j,¬L j->b j=DI a m j) p ⟨O,λ_ h=>h.elim,λ_ _=>rfl⟩ (λL t b w' e h=>⟨q L t w' e h.1,λj c=>h.2.1 j ((e j).2 c),λj c=>h.2.2 j (λf=>c ((e j).1 f))⟩) ?_ (λL b w' V h=>r L b w' h.1 (λj c=>h.2.1 j (V j c)));rintro L i o b w' N B z y ⟨U,M,K⟩;have s:l.toArray[i]?=some o:=by simpa using N
 refine bV s (dM (λH d h=>?_) (cQ s (g L i o b w' N B (λj u c ⟨e,A,x,C⟩=>K j (λf=>B (C▸y j u f c e A x))) U (λe A x=>M _ (z e A x)))));obtain⟨v,rfl,R,S,T⟩:=h;refine⟨v,rfl,T,λj c=>?_,λj c=>?_⟩
 ·rcases c with c|rfl
  ·have e:j≠i:=λe=>B (e▸c)
   rw[show aH b i v j=b j from if_neg e];exact D j _ _ _ (M j c) S
  ·rw[show aH b j v j=v from if_pos rfl]
   exact R
 ·rw[show aH b i v j=b j from if_neg (λe=>c (.inr e))]
  exact K j (λf=>c (.inl f))
end
section
variable {F:Fence}{n:Nat}{P:Program}{Q:Exit->Act->World->Prop}
theorem wJ {id:Nat} {a:Act} {w:Wd} {l:List Oper} (G:P.follows .mixedOrders=true) (N:Nat) (s:List (Option Tmp)) (B:ln l=N) (k:Nat->Va->Wd->Prop)
 (z:∀j v w w',k j v w->aG w w'->k j v w')
 (p:uV l=true)
 (f:∀(i:Nat) (o:Oper) b w',i<N->l[i]?=some o->aG w w'->(∀e∈o.after,Region.binds .any e=true->k (Edge.on e) (b (Edge.on e)) w')->
  wpListIn F n P l.toArray (Exit.then (λA g=>∃v,A=aD a s 0 (aH b i v)/\k i v g/\aG w' g) Q) [o] (aD a s 0 b) w')
 (q:∀b w',aG w w'->(∀j,j<N->k j (b j) w')->wpListIn F n P l.toArray Q [] (aD a s 0 b) w'):
 (Code.region id l.toArray true).wpIn F n P Q a w:=by
 refine fA G s (λL b w'=>aG w w'/\∀j,L j->k j (b j) w') p ⟨(br _ _).drew,λ_ h=>h.elim⟩ (λL L' b w' x h=>⟨h.1,λj u=>h.2 j ((x j).2 u)⟩) ?_ ?_
 ·intro L i o b w' y hnL C _ c
  have r:l.toArray[i]?=some o:=by simpa using y
  have D:i<N:=by rw[←B];exact(lgs.1 y).1
  refine bV r (dM (λA g h=>?_) (cQ r (f i o b w' D y c.1 (λe x t=>c.2 _ (C e x t)))));obtain⟨v,rfl,H,t⟩:=h;refine⟨v,rfl,aE c.1 t,λj u=>?_⟩
  by_cases d:j=i
  ·subst d
   simpa[aH]using H
  ·have:L j:=u.elim (λh=>h) (λh=>absurd h d)
   simpa[aH,d]using z j _ _ _ (c.2 j this) t
 ·intro L b w' m c
  exact q b w' c.1 (λj u=>c.2 j (m j om))
end
