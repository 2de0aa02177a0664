import Derived.Test.YtoolgmmljacfmaaGreatDoorDq
import Derived.Test.YtoolgmmljacfmaaGreatDoorRx0
import Derived.Test.YtoolgmmljacfmaaGreatDoorWv
set_option maxRecDepth 100000
set_option maxHeartbeats 4000000
open List renaming length → ln
open Go.RowKit
namespace Go.Proofs.YtoolgmmljacfmaaGreatDoor
open Go.Shelf Go.BigFrame
attribute [local go_sem] Oper.semAt_some
def PY (xs:List Value):Prop:=∀u∈xs,∃z:Int,u=I z
theorem F3:∀(m:Nat) (xs:List Va),ln xs=m*6->PY xs->∃l:List Bx,ln l=m/\xs=fG l
 |0,xs,h,_=>⟨[],rfl,by show xs=[];simpa using h⟩
 |m+1,xs,h,hi=>by
  match xs,h with
  |x0::x1::x2::x3::x4::x5::r,h=>
   obtain⟨z0,rfl⟩:=hi x0 sm;obtain⟨d,rfl⟩:=hi x1 sm;obtain⟨e,rfl⟩:=hi x2 sm;obtain⟨f,rfl⟩:=hi x3 sm;obtain⟨g,rfl⟩:=hi x4 sm;obtain⟨i,rfl⟩:=hi x5 sm;obtain⟨l,a,b⟩:=F3 m r (by simp at h;omega) (λu c=>hi u (by simp[c]));exact⟨⟨z0,d,e,f,g,i⟩::l,by simp[a],by rw[b];rfl⟩
  |[],h=>simp at h
  |[_],h=>simp at h;omega
  |[_,_],h=>simp at h;omega
  |[_,_,_],h=>simp at h;omega
  |[_,_,_,_],h=>simp at h;omega
  |[_,_,_,_,_],h=>simp at h;omega
theorem UG (l:List Bx):PY (fG l):=by
 induction l with
 |nil=>intro u a;simp[fG]at a
 |cons b r ih=>
  intro u a;rcases lma.1 a with h|h
  ·simp[aR]at h;rcases h with rfl|rfl|rfl|rfl|rfl|rfl<;>exact⟨_,rfl⟩
  ·exact ih u h
theorem ZR {w:Wd}{base e sz:Nat}{v:Va}{m:Nat}{xs:List Va}(h:w.ownsRow base e sz v m xs):ln xs=m*sz:=h.1
structure x9 (w wx:World)(R n cap:Nat)(ao:Option Addr)(q:Int)(g m vc:Nat):Prop where
 rd:∃p',p'<=q/\Rd wx R ao n cap p'
 but:aZ R w wx
 own:∃xs,wx.ownsRow w.heap.size 91 6 (.slice (some ⟨g,0,none⟩) m vc) m xs/\PY xs
section
variable {w wx w1:World}{R n cap:Nat}{ao:Option Addr}{q q1 p1:Int}{g m vc:Nat}
theorem x9.next (h:x9 w wx R n cap ao q g m vc)(a:aZ R wx w1)(f:Rd w1 R ao n cap p1)(e:p1<=q1)(d:R<w.heap.size):x9 w w1 R n cap ao q1 g m vc:=by
 obtain⟨xs,b,c⟩:=h.own;exact⟨⟨p1,e,f⟩,h.but.trans a,xs,wE b a d,c⟩
theorem x9.wide (h:x9 w wx R n cap ao q g m vc)(hq:q<=q1):x9 w wx R n cap ao q1 g m vc:=
 ⟨by obtain⟨p,hp,a⟩:=h.rd;exact⟨p,om,a⟩,h.but,h.own⟩
theorem x9.below (h:x9 w wx R n cap ao q g m vc)(a:aG wx w1)(b:R<w.heap.size):x9 w w1 R n cap ao q g m vc:=by
 obtain⟨p,c,d⟩:=h.rd;exact h.next (aZ.below a) (d.zL (a.mono (by have:=h.but.size;omega))) c b
theorem x9.row (h:x9 w wx R n cap ao q g m vc):∃f,wx.rowIs g 91 (vc*6) f/\m<=vc/\w.heap.size<=g/\∀i,i<m*6->∃z:Int,f i=I z:=by
 obtain⟨xs,⟨h0,⟨j,_⟩|⟨g',c',a,j,l,o,d,_,e,p⟩⟩,k⟩:=h.own;·cases j
 ·cases j;refine⟨λi=>a.getD i undef,⟨a,o,e,λi c=>by simp[e,c]⟩,d,l,λi c=>?_⟩;have b:i<a.size:=by rw[e];omega
  have hx:xs[i]?=some a[i]:=by
   rw[←p,ltg c,Array.getElem?_toList,age b]
  obtain⟨z,r⟩:=k a[i] (List.mem_of_getElem? hx);exact⟨z,by simp[b,r]⟩
theorem x9.cell (h:x9 w wx R n cap ao q g m vc)(i:Nat)(b:i<m*6):∃z:Int,wx.cell? (Y g i)=some (I z):=by
 obtain⟨f,c,hle,_,a⟩:=h.row;obtain⟨z,d⟩:=a i b;exact⟨z,(c.cell (i:=i) om).trans (by rw[d])⟩
theorem x9.frozen (h:x9 w wx R n cap ao q g m vc)(i:Nat):wx.frozen? (Y g i)=false:=by
 obtain⟨f,a,_⟩:=h.row;exact a.frozen i
theorem x9.ge (h:x9 w wx R n cap ao q g m vc):w.heap.size<=g/\m<=vc/\g<wx.heap.size:=by
 obtain⟨f,c,a,b,_⟩:=h.row;exact⟨b,a,c.lt⟩
theorem x9.put (h:x9 w wx R n cap ao q g m vc)(hR:R<w.heap.size)(i:Nat)(z:Int):x9 w (wx.setCell (Y g i) (I z)) R n cap ao q g m vc:=by
 obtain⟨p,J,K⟩:=h.rd;obtain⟨s,_,_⟩:=h.ge;have l:∀B,B<=g->Below B wx (wx.setCell (Y g i) (I z)):=λB l=>(br B wx).setCell (p:=(Y g i)) l _;have a:=l w.heap.size s;refine⟨⟨p,J,K.zL (l _ om)⟩,⟨a.os.trans h.but.os,a.tape.trans h.but.tape,a.output.trans h.but.output,nlt h.but.size a.size,λk C D=>(a.block k C).trans (h.but.block k C D)⟩,?_⟩;obtain⟨f,d,hle,_,G⟩:=h.row;obtain⟨c,F,b,r⟩:=d.set i (I z);obtain⟨xs,⟨h0,⟨y,_⟩|⟨g',c',cur,y,o,hg,x,v,D,ht⟩⟩,h2⟩:=h.own;·cases y
 ·cases y;refine⟨c.toList.take (m*6),⟨?_,.inr ⟨g,vc,c,rfl,o,F,x,v,b,rfl⟩⟩,?_⟩;·rw[llt,Array.length_toList,b];omega
  ·intro u L;obtain⟨j,H,rfl⟩:=lgo L;have t:j<m*6:=by rw[llt]at H;omega
   have A:=r j om
   have e:(c.toList.take (m*6))[j]=if j=i then(I z)else f j:=by
    rw[List.getElem_take,Array.getElem_toList];rw[age om]at A;exact osi A
   rw[e];split;·exact⟨z,rfl⟩
   ·exact G j t
end
theorem XW {w wx:Wd}{v:Va}{m:Nat}{xs:List Va}(h:wx.ownsRow w.heap.size 91 6 v m xs)(a:PY xs):∃l,aN wx w.heap.size v l/\(ln l)=m:=by
 obtain⟨l,rfl,rfl⟩:=F3 m xs (ZR h) a;exact⟨l,aN.of_owns h,rfl⟩
def IP (now:Int)(fa:Option Addr)(m fc:Nat)(hv:Value):Nat->Value
 |0=>I now
 |1=>.slice fa m fc
 |_=>hv
structure uS (w wx:World)(R n cap:Nat)(ao:Option Addr)(q:Int)(B:Nat)(x:Wx)(now:Int)(fa:Option Addr)(m fc:Nat)(hv:Value):Prop where
 rd:∃p',p'<=q/\Rd wx R ao n cap p'
 but:aZ R w wx
 lt:w.heap.size<B
 bk:wx.rowIs w.heap.size 32 3 (IP now fa m fc hv)
 obj:wx.rowIs B 40 8 (tJ x)
 d:pF wx (w.heap.size+1) x
theorem pF.set {wx:Wd}{base B i:Nat}{u:Va}{f:Nat->Va}{m:Nat}{x x':Wx}(h:pF wx base x)(v:wx.rowIs B 40 m f)(o:x'.wa=x.wa)(b:x'.wl=x.wl)(p:x'.wc=x.wc)(q:x'.la=x.la)(d:x'.ll=x.ll)(r:x'.lc=x.lc)(s:x'.n=x.n):pF (wx.setCell (Y B i) u) base x':=by
 have j:∀(e:Nat),e≠40->∀k,base<=k->k<wx.heap.size->∀c,wx.heap[k]?=some (.cells c e)->(wx.setCell (Y B i) u).heap[k]?=wx.heap[k]?:=λe t k _ _ c g=>bhs _ _ _ _ (λl=>by
  have a:k=B:=l;subst a;exact iK v (λh=>t h.symm) c g)
 refine⟨?_,?_,?_,?_,?_,?_,?_,?_⟩;·rw[o,b,p];exact eZ h.ws (j _ dz)
 ·rw[b];exact λy w=>(h.yn y w).same (j _ dz)
 ·rw[q,d,r];exact eZ h.ls (j _ dz)
 ·rw[b];exact h.w1
 ·rw[b];exact h.w3
 ·rw[d];exact h.l1
 ·rw[d];exact h.l3
 ·rw[s];exact h.n3
section
variable {w wx w1:Wd}{R n cap:Nat}{ao:Oa}{q q1 p1:Int}{B:Nat}{x x':Wx}{now:Int}{fa:Oa}{m fc:Nat}{hv:Va}
theorem uS.next (h:uS w wx R n cap ao q B x now fa m fc hv)(c:aZ R wx w1)(g:Rd w1 R ao n cap p1)(f:p1<=q1)(hR:R<w.heap.size):uS w w1 R n cap ao q1 B x now fa m fc hv:=by
 have hl:=h.lt;have a:∀k,w.heap.size<=k->k<wx.heap.size->w1.heap[k]?=wx.heap[k]?:=λk a b=>c.block k b om;exact⟨⟨p1,f,g⟩,h.but.trans c,h.lt,h.bk.of_block (a _ (nlq _) h.bk.lt),h.obj.of_block (a _ om h.obj.lt),h.d.same (λk h1 e=>a k om e)⟩
theorem uS.wide (h:uS w wx R n cap ao q B x now fa m fc hv)(hq:q<=q1):uS w wx R n cap ao q1 B x now fa m fc hv:=
 ⟨by obtain⟨p,hp,a⟩:=h.rd;exact⟨p,om,a⟩,h.but,h.lt,h.bk,h.obj,h.d⟩
theorem uS.below (h:uS w wx R n cap ao q B x now fa m fc hv)(a:aG wx w1)(b:R<w.heap.size):uS w w1 R n cap ao q B x now fa m fc hv:=by
 obtain⟨p,c,d⟩:=h.rd;exact h.next (aZ.below a) (d.zL (a.mono (by have:=h.but.size;omega))) c b
theorem uS.set (h:uS w wx R n cap ao q B x now fa m fc hv)(hR:R<w.heap.size)(i:Nat)(u:Va)(hx:∀j,j<8->(if j=i then u else tJ x j)=tJ x' j)(e:x'.wa=x.wa)(f:x'.wl=x.wl)(g:x'.wc=x.wc)(l:x'.la=x.la)(o:x'.ll=x.ll)(r:x'.lc=x.lc)(s:x'.n=x.n):
 uS w (wx.setCell (Y B i) u) R n cap ao q B x' now fa m fc hv:=by
 have t:=h.lt;obtain⟨p,v,y⟩:=h.rd;have b:Below B wx (wx.setCell (Y B i) u):=(br B wx).setCell (p:=(Y B i)) (nlq _) u;have a:=b.mono (nol t);exact⟨⟨p,v,y.zL (b.mono om)⟩,⟨a.os.trans h.but.os,a.tape.trans h.but.tape,a.output.trans h.but.output,nlt h.but.size a.size,λk c z=>(a.block k c).trans (h.but.block k c z)⟩,h.lt,h.bk.of_block (bhs _ _ _ _ (by show w.heap.size≠B;omega)),(h.obj.set i u).congr hx,h.d.set h.obj e f g l o r s⟩
theorem uS.start {w0:Wd}(d:w0=w.alloc (.cells #[I now,.slice fa m fc,hv] 32))(j:aZ R w0 w1)(t:Rd w1 R ao n cap p1)(r:p1<=q)(p:pF w1 (w.heap.size+1) x)(hR:R<w.heap.size):
 uS w (w1.alloc (.cells #[.string x.n,I x.q,I x.s,I x.f,I x.b,I x.l,.slice x.wa (ln x.wl) x.wc,.slice x.la (ln x.ll) x.lc] 40)) R n cap ao q w1.heap.size x now fa m fc hv:=by
 have hs0:w0.heap.size=w.heap.size+1:=by rw[d];simp
 have e:w0.rowIs w.heap.size 32 3 (IP now fa m fc hv):=by
  rw[d];refine wra w #[I now,.slice fa m fc,hv] 32 _ (λi c=>?_);match i,c with
  |0,_|1,_|2,_=>rfl
  |k+3,c=>simp at c;omega
 have h:aG w w0:=by rw[d];exact aC (br _ _) _
 have a:aG w1 (w1.alloc (wo x)):=aC (br _ _) _;have g:=e.of_block (j.block _ e.lt om);have hsz:=j.size;refine⟨⟨p1,r,t.zL (a.mono om)⟩,((aZ.below h).trans j).trans (aZ.below a),om,g.of_block (a.block _ g.lt),?_,p.same (λk _ o=>a.block k o)⟩;refine wra w1 #[.string x.n,I x.q,I x.s,I x.f,I x.b,I x.l,.slice x.wa (ln x.wl) x.wc,.slice x.la (ln x.ll) x.lc] 40 _ (λi c=>?_);match i,c with
 |0,_|1,_|2,_|3,_|4,_|5,_|6,_|7,_=>rfl
 |k+8,c=>simp at c;omega
end
def SG (T U:Int->World->Prop)(q m c:Int):Nat->(Nat->Value)->World->Prop
 |0,_,wx=>T q wx
 |1,vs,wx=>T (q+1) wx/\∃r,vs 3=I r/\0<=r/\r<m
 |2,vs,wx=>T (q+1) wx/\∃r,vs 4=I (c+r)/\0<=r/\r<m
 |_,_,wx=>∃r,0<=r/\r<m/\U r wx
theorem VY {T U:Int->Wd->Prop}{q m c:Int}:∀k g a wx,(∀i∈[3,4,6].take k,g i=a i)->SG T U q m c k g wx->SG T U q m c k a wx:=by
 intro k g a wx h b;match k with
 |0=>exact b
 |1=>obtain⟨d,r,e,f⟩:=b;exact⟨d,r,by rw[←h 3 sm];exact e,f⟩
 |2=>obtain⟨d,r,e,f⟩:=b;exact⟨d,r,by rw[←h 4 sm];exact e,f⟩
 |k+3=>exact b
theorem SG_T {T U:Int->Wd->Prop}{q m c:Int}{k:Nat}{b:Nat->Va}{wx:Wd}(h:SG T U q m c k b wx)(a:k<3):∃q',T q' wx:=by
 match k,a with
 |0,_=>exact⟨_,h⟩
 |1,_|2,_=>exact⟨_,h.1⟩
def PG (R b1 i1 b2 i2:Nat)(c:Int):Nat->Value->Prop
 |0,v=>v=(E b1 i1)
 |1,v=>v=I c
 |2,v=>v=(E R 0)
 |5,v=>v=(E b2 i2)
 |_,_=>True
def S4 (T:Int->World->Prop)(q:Int)(base:Nat):Nat->(Nat->Value)->World->Prop
 |0,_,wx=>T q wx
 |1,vs,wx=>T (q+1) wx/\∃r,vs 5=I r
 |2,vs,wx=>T (q+2) wx/\∃r r',vs 5=I r/\vs 10=I r'
 |3,vs,wx=>T (q+2) wx/\∃l,aN wx base (vs 11) l/\l.length<=40
 |_,vs,wx=>T (q+2) wx/\∃l,aN wx base (vs 12) l/\l.length<=40
theorem S4_loc {T:Int->Wd->Prop}{q:Int}{base:Nat}:∀k e c wx,(∀i∈[5,10,11,12].take k,e i=c i)->S4 T q base k e wx->S4 T q base k c wx:=by
 intro k e c wx h d;match k with
 |0=>exact d
 |1=>obtain⟨a,r,b⟩:=d;exact⟨a,r,by rw[←h 5 sm];exact b⟩
 |2=>obtain⟨a,r,g,b,f⟩:=d;exact⟨a,r,g,by rw[←h 5 sm];exact b,by rw[←h 10 sm];exact f⟩
 |3=>obtain⟨a,l,b⟩:=d;exact⟨a,l,by rw[←h 11 sm];exact b⟩
 |k+4=>obtain⟨a,l,b⟩:=d;exact⟨a,l,by rw[←h 12 sm];exact b⟩
theorem S4_T {T:Int->Wd->Prop}{q:Int}{base:Nat}{k:Nat}{a:Nat->Va}{wx:Wd}(h:S4 T q base k a wx):∃q',T q' wx:=by
 match k with
 |0=>exact⟨_,h⟩
 |1=>exact⟨_,h.1⟩
 |2=>exact⟨_,h.1⟩
 |3=>exact⟨_,h.1⟩
 |k+4=>exact⟨_,h.1⟩
def P4 (R B:Nat)(x:Wx):Nat->Value->Prop
 |0,v=>v=x.val
 |1,v=>v=(E R 0)
 |2,v=>v=(E B 6)
 |3,v=>v=.slice x.wa x.wl.length x.wc
 |4,v=>v=I (x.wl.length:Int)
 |6,v=>v=(E R 0)
 |7,v=>v=(E B 7)
 |8,v=>v=.slice x.la x.ll.length x.lc
 |9,v=>v=I (x.ll.length:Int)
 |_,_=>True
theorem aN.weak' {w:Wd}{base base':Nat}{v:Va}{l:List Bx}(h:aN w base v l)(hb:base'<=base):aN w base' v l:=by
 rcases h with h|⟨g,cap,a,h2,b,c⟩;·exact .inl h
 ·exact .inr ⟨g,cap,a,om,b,c⟩
theorem MT (x:Wx)(a b c:Int):ln (bL x a b c)<=40:=by
 unfold bL;split;·unfold qM;simp;omega
 ·simp
theorem LX {w:Wd}{base:Nat}{v:Va}{l:List Bx}(h:aN w base v l):∃ta c,v=.slice ta (ln l) c/\jG w ta l:=by
 rcases h with⟨rfl,rfl⟩|⟨g,cap,rfl,_,a,b⟩;·exact⟨none,0,rfl,.inl rfl⟩
 ·exact⟨_,cap,rfl,b.bxs (nlq _) a⟩
theorem aN.butU {w w':Wd}{R base:Nat}{v:Va}{l:List Bx}(h:aN w base v l)(e:aZ R w w')(hR:R<base):aN w' base v l:=by
 rcases h with h|⟨g,cap,b,c,d,f,a,i⟩;·exact .inl h
 ·exact .inr ⟨g,cap,b,c,d,f,a.of_block (e.block _ a.lt om),i⟩
def S6 (T:Int->World->Prop)(q:Int)(base hb ho:Nat)(hl:List Hx):Nat->(Nat->Value)->World->Prop
 |0,_,wx=>T q wx
 |1,vs,wx=>T (q+1) wx/\∃i:Nat,vs 6=I (i:Int)/\i<hl.length
 |2,vs,wx=>T (q+1) wx/\∃i:Nat,vs 7=(E hb (ho+i*3))/\i<hl.length
 |3,vs,wx=>T (q+1) wx/\∃i:Nat,vs 8=(E hb (ho+i*3+1))/\i<hl.length
 |4,vs,wx=>T (q+1) wx/\∃x∈hl,vs 9=.slice x.ta x.tl.length x.tc
 |5,vs,wx=>T (q+1) wx/\∃m xs,wx.ownsRow base 91 6 (vs 10) m xs/\PY xs/\m<=1000
 |_,vs,wx=>T (q+1) wx/\∃m xs,wx.ownsRow base 91 6 (vs 11) m xs/\PY xs/\m<=1000
theorem S6_loc {T:Int->Wd->Prop}{q:Int}{base f j:Nat}{g:List Hx}:∀k e d wx,(∀i∈[6,7,8,9,10,11].take k,e i=d i)->S6 T q base f j g k e wx->S6 T q base f j g k d wx:=by
 intro k e d wx h c;match k with
 |0=>exact c
 |1=>obtain⟨a,r,b⟩:=c;exact⟨a,r,by rw[←h 6 sm];exact b⟩
 |2=>obtain⟨a,r,b⟩:=c;exact⟨a,r,by rw[←h 7 sm];exact b⟩
 |3=>obtain⟨a,r,b⟩:=c;exact⟨a,r,by rw[←h 8 sm];exact b⟩
 |4=>obtain⟨a,r,l,b⟩:=c;exact⟨a,r,l,by rw[←h 9 sm];exact b⟩
 |5=>obtain⟨a,r,xs,b⟩:=c;exact⟨a,r,xs,by rw[←h 10 sm];exact b⟩
 |k+6=>obtain⟨a,r,xs,b⟩:=c;exact⟨a,r,xs,by rw[←h 11 sm];exact b⟩
theorem S6_T {T:Int->Wd->Prop}{q:Int}{base a c:Nat}{b:List Hx}{k:Nat}{d:Nat->Va}{wx:Wd}(h:S6 T q base a c b k d wx):∃q',T q' wx:=by
 match k with
 |0=>exact⟨_,h⟩
 |1=>exact⟨_,h.1⟩
 |2=>exact⟨_,h.1⟩
 |3=>exact⟨_,h.1⟩
 |4=>exact⟨_,h.1⟩
 |5=>exact⟨_,h.1⟩
 |k+6=>exact⟨_,h.1⟩
def P6 (R Z:Nat)(hv:Value)(n:Nat):Nat->Value->Prop
 |0,v=>v=(E Z 2)
 |1,v=>v=hv
 |2,v=>v=(E R 0)
 |3,v=>v=(E Z 2)
 |4,v=>v=hv
 |5,v=>v=I (n:Int)
 |_,_=>True
def S10 (T:Int->World->Prop)(q:Int):Nat->(Nat->Value)->World->Prop
 |0,_,wx=>T q wx
 |1,vs,wx=>T (q+1) wx/\∃r,vs 9=I r
 |2,vs,wx=>T (q+1) wx/\∃z,vs 10=I z
 |_,_,wx=>T (q+1) wx
theorem aAP {T:Int->Wd->Prop}{q:Int}:∀k e a wx,(∀i∈[9,10,13].take k,e i=a i)->S10 T q k e wx->S10 T q k a wx:=by
 intro k e a wx h b;match k with
 |0=>exact b
 |1=>obtain⟨c,r,d⟩:=b;exact⟨c,r,by rw[←h 9 sm];exact d⟩
 |2=>obtain⟨c,r,d⟩:=b;exact⟨c,r,by rw[←h 10 sm];exact d⟩
 |k+3=>exact b
theorem S10_T {T:Int->Wd->Prop}{q:Int}{k:Nat}{a:Nat->Va}{wx:Wd}(h:S10 T q k a wx):∃q',T q' wx:=by
 match k with
 |0=>exact⟨_,h⟩
 |1=>exact⟨_,h.1⟩
 |2=>exact⟨_,h.1⟩
 |k+3=>exact⟨_,h⟩
def P10 (R g m vc j:Nat):Nat->Value->Prop
 |0,v=>v=.slice (some (Y g 0)) m vc
 |1,v=>v=I (j:Int)
 |2,v=>v=.slice (some (Y g 0)) m vc
 |3,v=>v=I (j:Int)
 |4,v=>v=(E g (j*6))
 |5,v=>v=(E g (j*6+5))
 |6,v=>∃z:Int,v=I z
 |7,v=>∃z:Int,v=I z
 |8,v=>v=(E R 0)
 |11,v=>v=(E g (j*6))
 |12,v=>v=(E g (j*6+5))
 |_,_=>True
theorem VQ (R n cap:Nat)(ao:Option Addr)(p:Int)(b:Bk)(w:World)(h:Rd w R ao n cap p)(hp:p<=700000)(xn:-1000000<=b.now)(xp:b.now<=1000000)(hF:∀w',aZ R w w'->Xs 3 Fx.cells w' b.fa b.fl)(xk:1<=b.fl.length)(xl:b.fl.length<=100)(xj:∀f∈b.fl,rD ⟨f.x,f.y⟩)
 (hH:∀w',aZ R w w'->Xs 3 Hx.cells w' b.ha b.hl/\∀x∈b.hl,jG w' x.ta x.tl)(hhl:b.hl.length<=1000)(ys:∀x∈b.hl,x.tl.length<=1000):
 aW 25 #[E R 0,b.val] w λe w'=>(∃v l,e=rt v/\aN w' w.heap.size v l/\l.length<=1000)/\
  (∃p',p'<=p+4000/\Rd w' R ao n cap p')/\aZ R w w':=by
 have K:=h.lt;have zm:aG w (w.alloc (.cells #[I b.now,.slice b.fa b.fl.length b.fc,.slice b.ha b.hl.length b.hc] 32)):=aC (br _ _) _;have yq:=h.zL (zm.mono K);have yk:=λw' (h:aZ R (w.alloc (.cells #[I b.now,.slice b.fa b.fl.length b.fc,.slice b.ha b.hl.length b.hc] 32)) w')=>hF w' ((aZ.below zm).trans h)
 go_enter Tryz.func25,Tryz.ntmps25
 go_wp2_with fail
 refine(J5 R n cap ao p b.now b.fl b.fa b.fc _ yq om xn xp yk xk xl xj).mono ?_;rintro e w1 ⟨x0,rfl,hd,⟨p1,T,J⟩,T1⟩;have S0:=uS.start (x:=x0) rfl T1 J T (by simpa using hd) K;have V:Hid _:=S0;clear S0 hd J T1 zm yq yk
 go_upto_region 2 with fail
 go_cut [] (λwx=>∃r:Int,0<=r/\r<12/\(λr wx=>uS w wx R n cap ao (p+1001) w1.heap.size { x0 with f:=b.now+r} b.now b.fa b.fl.length b.fc (.slice b.ha b.hl.length b.hc)) r wx)
 case first=>
  refine wpIn_wide.1 (dA (F:=Fence.wide) (n:=0) kr [some 14,some 15,some 16,some 17,some 18,some 19,none] 10 [3,4,6] (SG (λq wx=>uS w wx R n cap ao q w1.heap.size x0 b.now b.fa b.fl.length b.fc (.slice b.ha b.hl.length b.hc)) (λr wx=>uS w wx R n cap ao (p+1001) w1.heap.size { x0 with f:=b.now+r} b.now b.fa b.fl.length b.fc (.slice b.ha b.hl.length b.hc)) (p+1000) 12 b.now) (PG R w.heap.size 0 w1.heap.size 3 b.now) kr kr dz ?loc ?h0 ?read ?eff ?fin dz)
  case loc=>exact VY
  case h0=>exact V.oQ.below (br _ _).drew K
  case read=>
   intro j o k u w' B hc hk Q C a;have hj:j<7:=(lgs.1 B).1
   match j,hj with
   |0,_|2,_|5,_=>
    simp at B;subst B;simp only[aD,Act.put];gi_wp2;exact⟨_,by simp[aH],rfl⟩
   |1,_=>
    have zt:k<3:=iJ Q (c:=6) dz kr;have xf:w'.cell? (Y w.heap.size 0)=some (I b.now):=by obtain⟨q',L⟩:=SG_T C zt;exact L.bk.cell (i:=0) om
    simp at B;subst B;have X:u 0=_:=(Zq a 0).1 dz;simp only[aD,Act.put];rw[X];gi_wp2;exact⟨_,by simp[aH,X],rfl⟩
   |3,_|4,_|6,_=>exact absurd hc dz
   |q+7,h=>omega
  case eff=>
   intro k i o u w' D B C a
   match k with
   |0=>
    simp at D;subst D;simp at B;subst B;have Z:u 2=_:=a (eD 2) sm rfl dz;have A:(λq wx=>uS w wx R n cap ao q w1.heap.size x0 b.now b.fa b.fl.length b.fc (.slice b.ha b.hl.length b.hc)) (p+1000) w':=C;obtain⟨p1,T,J⟩:=A.rd;simp only[aD,Act.put];rw[Z];gi_wp2_with fail
    refine⟨trivial,rfl,?_⟩;refine(cw.2 (bP R n cap ao p1 12 w' J om om)).mono ?_;rintro e w1 ⟨⟨r,rfl,U,O,-⟩,M,B1⟩;have G:=A.next (q1:=p+1000+1) B1 M om K
    replace O:=O om
    clear A C;gi_wp2;exact⟨I r,by simp[aH,Z],G,r,by simp[aH],U,O⟩
   |1=>
    simp at D;subst D;simp at B;subst B;obtain⟨A,r,d3,U,O⟩:=C;have d1:u 1=_:=a (eD 1) sm rfl dz;have G:Hid _:=A;clear A;simp only[aD,Act.put];rw[d1,d3];gi_wp2;exact⟨I (b.now+r),by simp[aH,d1,d3],G.oQ,r,by simp[aH],U,O⟩
   |2=>
    simp at D;subst D;simp at B;subst B;obtain⟨A,r,d4,U,O⟩:=C;have d5:u 5=_:=a (eD 5) sm rfl dz;have xe:=A.obj.cell (i:=3) om;have zq:=λi=>A.obj.frozen i;have G:Hid _:=A;clear A;simp only[aD,Act.put];rw[d5,d4];gi_wp2;refine⟨undef,by simp[aH,d5,d4],r,U,O,(G.oQ.wide om).set K 3 _ ?_ rfl rfl rfl rfl rfl rfl rfl⟩;intro j hj
    match j,hj with
    |0,_|1,_|2,_|3,_|4,_|5,_|6,_|7,_=>rfl
   |k+3=>simp at D
  case fin=>
   intro u w' C hP;simp only[aD,Act.put];generalize u 0=u0v;generalize u 1=u1v;generalize u 2=u2v;generalize u 3=u3v;generalize u 4=u4v;generalize u 5=u5v;go_wp2_with fail
   go_meet
   exact C
 case rest=>
 obtain⟨b1,yy,yz,S1⟩:=hcut;obtain⟨x1,zx⟩:∃x:Wx,x={ x0 with f:=b.now+b1}:=⟨_,rfl⟩;simp only[←zx]at S1;have xi:-1000000<=x1.f/\x1.f<=1000030:=by rw[zx];dsimp only;omega
 clear V;have V:=aI S1;clear S1 zx yy yz
 go_upto_region 3 with fail
 go_cut [] (λwx=>∃r:Int,0<=r/\r<4/\(λr wx=>uS w wx R n cap ao (p+1002) w1.heap.size { x1 with b:=x1.f+r} b.now b.fa b.fl.length b.fc (.slice b.ha b.hl.length b.hc)) r wx)
 case first=>
  refine wpIn_wide.1 (dA (F:=Fence.wide) (n:=0) kr [some 20,some 21,some 22,some 23,some 24,some 25,none] 10 [3,4,6] (SG (λq wx=>uS w wx R n cap ao q w1.heap.size x1 b.now b.fa b.fl.length b.fc (.slice b.ha b.hl.length b.hc)) (λr wx=>uS w wx R n cap ao (p+1002) w1.heap.size { x1 with b:=x1.f+r} b.now b.fa b.fl.length b.fc (.slice b.ha b.hl.length b.hc)) (p+1001) 4 x1.f) (PG R w1.heap.size 3 w1.heap.size 4 x1.f) kr kr dz ?loc ?h0 ?read ?eff ?fin dz)
  case loc=>exact VY
  case h0=>exact V.oQ.below (br _ _).drew K
  case read=>
   intro j o k u w' B hc hk Q C a;have hj:j<7:=(lgs.1 B).1
   match j,hj with
   |0,_|2,_|5,_=>
    simp at B;subst B;simp only[aD,Act.put];gi_wp2;exact⟨_,by simp[aH],rfl⟩
   |1,_=>
    have zt:k<3:=iJ Q (c:=6) dz kr;have xf:w'.cell? (Y w1.heap.size 3)=some (I x1.f):=by obtain⟨q',L⟩:=SG_T C zt;exact L.obj.cell (i:=3) om
    simp at B;subst B;have X:u 0=_:=(Zq a 0).1 dz;simp only[aD,Act.put];rw[X];gi_wp2;exact⟨_,by simp[aH,X],rfl⟩
   |3,_|4,_|6,_=>exact absurd hc dz
   |q+7,h=>omega
  case eff=>
   intro k i o u w' D B C a
   match k with
   |0=>
    simp at D;subst D;simp at B;subst B;have Z:u 2=_:=a (eD 2) sm rfl dz;have A:(λq wx=>uS w wx R n cap ao q w1.heap.size x1 b.now b.fa b.fl.length b.fc (.slice b.ha b.hl.length b.hc)) (p+1001) w':=C;obtain⟨p1,T,J⟩:=A.rd;simp only[aD,Act.put];rw[Z];gi_wp2_with fail
    refine⟨trivial,rfl,?_⟩;refine(cw.2 (bP R n cap ao p1 4 w' J om om)).mono ?_;rintro e w1 ⟨⟨r,rfl,U,O,-⟩,M,B1⟩;have G:=A.next (q1:=p+1001+1) B1 M om K
    replace O:=O om
    clear A C;gi_wp2;exact⟨I r,by simp[aH,Z],G,r,by simp[aH],U,O⟩
   |1=>
    simp at D;subst D;simp at B;subst B;obtain⟨A,r,d3,U,O⟩:=C;have d1:u 1=_:=a (eD 1) sm rfl dz;have G:Hid _:=A;clear A;simp only[aD,Act.put];rw[d1,d3];gi_wp2;exact⟨I (x1.f+r),by simp[aH,d1,d3],G.oQ,r,by simp[aH],U,O⟩
   |2=>
    simp at D;subst D;simp at B;subst B;obtain⟨A,r,d4,U,O⟩:=C;have d5:u 5=_:=a (eD 5) sm rfl dz;have xe:=A.obj.cell (i:=4) om;have zq:=λi=>A.obj.frozen i;have G:Hid _:=A;clear A;simp only[aD,Act.put];rw[d5,d4];gi_wp2;refine⟨undef,by simp[aH,d5,d4],r,U,O,(G.oQ.wide om).set K 4 _ ?_ rfl rfl rfl rfl rfl rfl rfl⟩;intro j hj
    match j,hj with
    |0,_|1,_|2,_|3,_|4,_|5,_|6,_|7,_=>rfl
   |k+3=>simp at D
  case fin=>
   intro u w' C hP;simp only[aD,Act.put];generalize u 0=u0v;generalize u 1=u1v;generalize u 2=u2v;generalize u 3=u3v;generalize u 4=u4v;generalize u 5=u5v;go_wp2_with fail
   go_meet
   exact C
 case rest=>
 obtain⟨b2,xa,xb,S2⟩:=hcut;obtain⟨N,yt⟩:∃x:Wx,x={ x1 with b:=x1.f+b2}:=⟨_,rfl⟩;simp only[←yt]at S2;clear V;have V:=aI S2;clear S2 yt xa xb xi
 go_upto_region 4 with fail
 go_cut [6] (λv wx=>(λq wx=>uS w wx R n cap ao q w1.heap.size N b.now b.fa b.fl.length b.fc (.slice b.ha b.hl.length b.hc)) (p+1002+2) wx/\∃l,aN wx w.heap.size v l/\l.length<=40)
 case first=>
  refine wpIn_wide.1 (dA (F:=Fence.wide) (n:=0) kr [some 26,some 27,some 28,some 29,some 30,some 31,some 32,some 33,some 34,some 35,some 36,some 37,some 6] 14 [5,10,11,12] (S4 (λq wx=>uS w wx R n cap ao q w1.heap.size N b.now b.fa b.fl.length b.fc (.slice b.ha b.hl.length b.hc)) (p+1002) w.heap.size) (P4 R w1.heap.size N) kr kr dz ?loc ?h0 ?read ?eff ?fin dz)
  case loc=>exact S4_loc
  case h0=>exact V.oQ.below (br _ _).drew K
  case read=>
   intro j o k u w' B hc hk Q C a;have hj:j<13:=(lgs.1 B).1;obtain⟨q',L⟩:=S4_T C;have o0:w'.cell? (Y w1.heap.size 0)=some (.string N.n):=L.obj.cell (i:=0) om;have o1:w'.cell? (Y w1.heap.size 1)=some (I N.q):=L.obj.cell (i:=1) om;have o2:w'.cell? (Y w1.heap.size 2)=some (I N.s):=L.obj.cell (i:=2) om;have o3:w'.cell? (Y w1.heap.size 3)=some (I N.f):=L.obj.cell (i:=3) om;have o4:w'.cell? (Y w1.heap.size 4)=some (I N.b):=L.obj.cell (i:=4) om;have o5:w'.cell? (Y w1.heap.size 5)=some (I N.l):=L.obj.cell (i:=5) om;have o6:w'.cell? (Y w1.heap.size 6)=some (.slice N.wa N.wl.length N.wc):=L.obj.cell (i:=6) om;have o7:w'.cell? (Y w1.heap.size 7)=some (.slice N.la N.ll.length N.lc):=L.obj.cell (i:=7) om;clear L
   match j,hj with
   |0,_|1,_|2,_|6,_|7,_=>
    simp at B;subst B;simp only[aD,Act.put];gi_wp2;exact⟨_,by simp[aH],rfl⟩
   |3,_=>
    simp at B;subst B;have Z:u 2=_:=(Zq a 2).1 dz;simp only[aD,Act.put];rw[Z];gi_wp2;exact⟨_,by simp[aH,Z],rfl⟩
   |4,_=>
    simp at B;subst B;have d3:u 3=_:=(Zq a 3).1 dz;simp only[aD,Act.put];rw[d3];gi_wp2;exact⟨_,by simp[aH,d3],rfl⟩
   |5,_|10,_|11,_|12,_=>exact absurd hc dz
   |8,_=>
    simp at B;subst B;have d7:u 7=_:=(Zq a 7).1 dz;simp only[aD,Act.put];rw[d7];gi_wp2;exact⟨_,by simp[aH,d7],rfl⟩
   |9,_=>
    simp at B;subst B;have d8:u 8=_:=(Zq a 8).1 dz;simp only[aD,Act.put];rw[d8];gi_wp2;exact⟨_,by simp[aH,d8],rfl⟩
   |q+13,h=>omega
  case eff=>
   intro k i o u w' D B C a
   match k with
   |0=>
    simp at D;subst D;simp at B;subst B;have dm:u 1=_:=a (eD 1) sm rfl dz;have dn:u 4=_:=a (eD 4) sm rfl dz;have A:(λq wx=>uS w wx R n cap ao q w1.heap.size N b.now b.fa b.fl.length b.fc (.slice b.ha b.hl.length b.hc)) (p+1002) w':=C;obtain⟨p1,T,J⟩:=A.rd;have zu:=A.d.w3;have zv:=A.d.l3;simp only[aD,Act.put];rw[dm,dn];gi_wp2_with fail
    refine⟨trivial,rfl,?_⟩;refine(cw.2 (bP R n cap ao p1 (N.wl.length:Int) w' J om om)).mono ?_;rintro e w1 ⟨⟨r,rfl,-,-,-⟩,M,B1⟩;have G:=A.next (q1:=p+1002+1) B1 M om K;clear A zu zv;gi_wp2;exact⟨I r,by simp[aH,dm,dn],G,r,by simp[aH]⟩
   |1=>
    simp at D;subst D;simp at B;subst B;have dm:u 6=_:=a (eD 6) sm rfl dz;have dn:u 9=_:=a (eD 9) sm rfl dz;obtain⟨A,ra,da⟩:=C;obtain⟨p1,T,J⟩:=A.rd;have zu:=A.d.w3;have zv:=A.d.l3;simp only[aD,Act.put];rw[dm,dn];gi_wp2_with fail
    refine⟨trivial,rfl,?_⟩;refine(cw.2 (bP R n cap ao p1 (N.ll.length:Int) w' J om om)).mono ?_;rintro e w1 ⟨⟨r,rfl,-,-,-⟩,M,B1⟩;have G:=A.next (q1:=p+1002+1+1) B1 M om K;clear A zu zv;have DA:Hid _:=da;clear da;gi_wp2;exact⟨I r,by simp[aH,dm,dn,DA.out],G.wide om,ra,r,by simp[aH];exact DA.out,by simp[aH]⟩
   |2=>
    simp at D;subst D;simp at B;subst B;have X:u 0=_:=a (eD 0) sm rfl dz;obtain⟨A,ra,rb,da,db⟩:=C;simp only[aD,Act.put];rw[X,da,db];gi_wp2_with fail
    refine⟨trivial,rfl,?_⟩;refine(cw.2 (cw.1 (oS 4 om N ra rb 0 w' A.d.in (by have:=A.d.w3;omega) (by have:=A.d.l3;omega) (λy hy=>by have:=(A.d.yn y hy).l2;omega)))).mono ?_;rintro e w1 ⟨⟨v,rfl,H⟩,zp⟩;have G:=A.below zp K;have P:Hid _:=aN.weak' H A.but.size;clear A H;gi_wp2;exact⟨v,by simp[aH,X,da,db],G,_,by simp[aH];exact P.oQ,MT _ _ _ _⟩
   |3=>
    simp at D;subst D;simp at B;subst B;obtain⟨A,l,H,hl⟩:=C;have G:Hid _:=A;have P:Hid _:=H;clear A H;simp only[aD,Act.put];gi_wp2;exact⟨u 11,by simp[aH],G.oQ,l,by simp[aH];exact P.oQ,hl⟩
   |k+4=>simp at D
  case fin=>
   intro u w' C hP;simp only[aD,Act.put];generalize u 0=u0v;generalize u 1=u1v;generalize u 2=u2v;generalize u 3=u3v;generalize u 4=u4v;generalize u 5=u5v;generalize u 6=u6v;generalize u 7=u7v;generalize u 8=u8v;generalize u 9=u9v;generalize u 10=u10v;generalize u 11=u11v;obtain⟨L,l,H,hl⟩:=C;have P:Hid _:=H;have HT:Hid _:=L;clear H L;generalize u 12=u12v at P ⊢;go_wp2_with fail
   go_meet
   exact⟨HT.oQ,l,P.oQ,hl⟩
 case rest=>
 obtain⟨S3,l,H,hl⟩:=hcut;have xc:wc.cell? (Y w.heap.size 2)=some (.slice b.ha b.hl.length b.hc):=S3.bk.cell (i:=2) om;have zl:Hid (uS w wc R n cap ao (p+1004) w1.heap.size N b.now b.fa b.fl.length b.fc (.slice b.ha b.hl.length b.hc)):=S3.wide om;obtain⟨p3,hp3,zw⟩:=S3.rd;obtain⟨ta,tc,rfl,-⟩:=LX H;have P:=aI H;clear S3 H V
 by_cases zi:b.hl.length=0
 ·have ze:¬(0:Int)<(b.hl.length:Int):=om
  have yl:decide ((0:Int)<(b.hl.length:Int))=false:=def0 ze;go_wp2
  all_goals (go_ret;refine⟨?_,⟨p3,om,zw⟩,zl.oQ.but⟩;first|exact⟨_,l,rfl,P.oQ,om⟩|exact⟨_,rfl,l,P.oQ,om⟩)
 have ze:(0:Int)<(b.hl.length:Int):=om
 have yl:decide ((0:Int)<(b.hl.length:Int))=true:=det ze;have hh0n:0<b.hl.length:=om
 go_wp2_with fail
 refine(bP R n cap ao p3 _ _ zw om om).mono ?_;rintro e w4 ⟨⟨r,rfl,U,O,-⟩,yr,T4⟩;have zd:Hid (uS w w4 R n cap ao (p+1005) w1.heap.size N b.now b.fa b.fl.length b.fc (.slice b.ha b.hl.length b.hc)):=zl.oQ.next T4 yr om K;have zk:=aI (P.oQ.butU T4 K);clear zl P zw xc
 by_cases hz:r=0
 ·subst hz
  obtain⟨hb,B,zn⟩:∃hb B,b.ha=some (Y hb B):=by
   rcases(hH w (aZ.refl _ _)).1 with h|⟨hb,B,e,_⟩
   ·rw[h]at zi;simp at zi
   ·exact⟨hb,B,e⟩
  have yc:Hid (∀W,aZ R w W->∀i (D:i<b.hl.length),bC W hb (B+i*3) b.hl[i].cells):=λW A i D=>by
   rcases(hH W A).1 with h|⟨bl',off',e,hc⟩
   ·rw[h]at zi;simp at zi
   ·rw[zn]at e;cases e;exact hc i D
  have yb:Hid (∀W,aZ R w W->∀x∈b.hl,jG W x.ta x.tl):=λW A=>(hH W A).2;have zz:=aI zn;clear zn;have yg:=aI ys;have V:Hid _:=zd.oQ;clear hH ys hF zd zk yr T4
  go_upto_region 6 with fail
  go_cut [6] (λv wx=>(∃m xs,wx.ownsRow w.heap.size 91 6 v m xs/\PY xs/\m<=1000)/\(∃p',p'<=p+1005+1/\Rd wx R ao n cap p')/\aZ R w wx)
  case first=>
   refine wpIn_wide.1 (dA (F:=Fence.wide) (n:=0) kr [some 47,some 48,some 49,some 50,some 51,some 52,some 53,some 54,some 55,some 56,some 57,some 6] 14 [6,7,8,9,10,11] (S6 (λq wx=>uS w wx R n cap ao q w1.heap.size N b.now b.fa b.fl.length b.fc (.slice b.ha b.hl.length b.hc)) (p+1005) w.heap.size hb B b.hl) (P6 R w.heap.size (.slice b.ha b.hl.length b.hc) b.hl.length) kr kr dz S6_loc ?h0 ?read ?eff ?fin dz)
   case h0=>exact V.oQ.below (br _ _).drew K
   case read=>
    intro j o k u w' t hc hk Q C a;have hj:j<12:=(lgs.1 t).1;obtain⟨q',L⟩:=S6_T C;have o2:w'.cell? (Y w.heap.size 2)=some (.slice b.ha b.hl.length b.hc):=L.bk.cell (i:=2) om;clear L C hk Q
    match j,hj with
    |0,_|3,_=>
     simp at t;subst t;clear a;simp only[aD,Act.put];gi_wp2;exact⟨(E w.heap.size 2),by simp[aH],by first|exact rfl|exact⟨trivial,rfl⟩⟩
    |1,_=>
     simp at t;subst t;have X:u 0=_:=(Zq a 0).1 dz;clear a;simp only[aD,Act.put];rw[X];gi_wp2;exact⟨.slice b.ha b.hl.length b.hc,by simp[aH,X],by first|exact rfl|exact⟨trivial,rfl⟩⟩
    |2,_=>
     simp at t;subst t;clear a;simp only[aD,Act.put];gi_wp2;exact⟨(E R 0),by simp[aH],by first|exact rfl|exact⟨trivial,rfl⟩⟩
    |4,_=>
     simp at t;subst t;have d3:u 3=_:=(Zq a 3).1 dz;clear a;simp only[aD,Act.put];rw[d3];gi_wp2;exact⟨.slice b.ha b.hl.length b.hc,by simp[aH,d3],by first|exact rfl|exact⟨trivial,rfl⟩⟩
    |5,_=>
     simp at t;subst t;have d4:u 4=_:=(Zq a 4).1 dz;clear a;simp only[aD,Act.put];rw[d4];gi_wp2;exact⟨I (b.hl.length:Int),by simp[aH,d4],by first|exact rfl|exact⟨trivial,rfl⟩⟩
    |6,_|7,_|8,_|9,_|10,_|11,_=>exact absurd hc dz
    |q+12,h=>omega
   case eff=>
    intro k i o u w' D t C a
    match k with
    |0=>
     simp at D;subst D;simp at t;subst t;have Z:u 2=_:=a (eD 2) sm rfl dz;have d5:u 5=_:=a (eD 5) sm rfl dz;have A:(λq wx=>uS w wx R n cap ao q w1.heap.size N b.now b.fa b.fl.length b.fc (.slice b.ha b.hl.length b.hc)) (p+1005) w':=C;obtain⟨p1,T,J⟩:=A.rd;clear C a;simp only[aD,Act.put];rw[Z,d5];gi_wp2_with fail
     refine⟨trivial,rfl,?_⟩;refine(cw.2 (bP R n cap ao p1 (b.hl.length:Int) w' J om om)).mono ?_;rintro e w5 ⟨⟨r,rfl,U,O,-⟩,M,B1⟩;have G:=A.next (q1:=p+1005+1) B1 M om K
     replace O:=O om
     obtain⟨i,rfl⟩:=ieo U;clear A;gi_wp2;exact⟨I (i:Int),by simp[aH,Z,d5],G,i,by simp[aH],om⟩
    |1=>
     simp at D;subst D;simp at t;subst t;have d1:u 1=_:=a (eD 1) sm rfl dz;obtain⟨A,i,d6,zf⟩:=C;have G:Hid _:=A;clear A a;have hil':(i:Int)<(b.hl.length:Int):=om
     rw[zz.oQ]at d1;simp only[aD,Act.put];rw[d1,d6];gi_wp2;exact⟨(E hb (B+i*3)),by simp[aH,d1,d6],G.oQ,i,by simp[aH],zf⟩
    |2=>
     simp at D;subst D;simp at t;subst t;obtain⟨A,i,d7,zf⟩:=C;have G:Hid _:=A;clear A a;simp only[aD,Act.put];rw[d7];gi_wp2;exact⟨(E hb (B+i*3+1)),by simp[aH,d7],G.oQ,i,by simp[aH],zf⟩
    |3=>
     simp at D;subst D;simp at t;subst t;obtain⟨A,i,d8,zf⟩:=C;have xg:=(gN (yc.oQ w' A.but i zf)).2.1;have G:Hid _:=A;clear A a;obtain⟨x,hx⟩:=bQ (b.hl[i]);rw[←hx]at xg;have HX:Hid (x∈b.hl):=by rw[hx];exact lgm _
     clear hx;simp only[aD,Act.put];rw[d8];gi_wp2;exact⟨.slice x.ta x.tl.length x.tc,by simp[aH,d8],G.oQ,x,HX.oQ,by simp[aH]⟩
    |4=>
     simp at D;subst D;simp at t;subst t;obtain⟨A,x,hx,d9⟩:=C;have xd:=yb.oQ w' A.but x hx;have xt:=yg.oQ x hx;clear a;simp only[aD,Act.put];rw[d9];gi_wp2_with fail
     refine⟨trivial,rfl,?_⟩;refine(cw.2 (uN x.tl x.ta x.tc w' xd om)).mono ?_;rintro e w5 ⟨⟨v,rfl,H⟩,zp⟩;have G:=A.below zp K;have P:Hid _:=iY H A.but.size;clear A H;gi_wp2;exact⟨v,by simp[aH,d9],G,_,_,by simp[aH];exact P.oQ,UG _,xt⟩
    |5=>
     simp at D;subst D;simp at t;subst t;obtain⟨A,m,xs,H,hI,hm⟩:=C;have G:Hid _:=A;have P:Hid _:=H;clear A H a;simp only[aD,Act.put];gi_wp2;exact⟨u 10,by simp[aH],G.oQ,m,xs,by simp[aH];exact P.oQ,hI,hm⟩
    |k+6=>simp at D
   case fin=>
    intro u w' C hP;obtain⟨L,m,xs,H,hI,hm⟩:=C;have P:Hid _:=H;have HT:Hid _:=L;clear H L hP;simp only[aD,Act.put,sit,lcs,lcz];generalize u 0=u0v;generalize u 1=u1v;generalize u 2=u2v;generalize u 3=u3v;generalize u 4=u4v;generalize u 5=u5v;generalize u 6=u6v;generalize u 7=u7v;generalize u 8=u8v;generalize u 9=u9v;generalize u 10=u10v;generalize u 11=u11v at P ⊢
    first|go_meet|(go_wp2_with fail;go_meet)
    exact⟨⟨m,xs,P.oQ,hI,hm⟩,HT.oQ.rd,HT.oQ.but⟩
  case rest=>
  clear V yc yb yg zz;obtain⟨⟨m,xs,H,hI,hm⟩,⟨p5,xq,zc⟩,T5⟩:=hcut;obtain⟨va,vc,rfl⟩:=nI H
  by_cases yp:m=0
  ·subst yp
   have yd:=aI H;clear H;go_wp2_with fail
   refine(bP R n cap ao p5 _ _ zc om om).mono ?_;rintro e w6 ⟨⟨r,rfl,-,-,r2⟩,zj,T6⟩;obtain rfl:=r2 sm;have yx:Hid _:=T5.trans T6;have yv:=aI (wE yd.oQ T6 K);clear T5 T6 yd;go_wp2_with fail
   go_loopg [7] 0 (λkk i wr=>i=I 0/\wr=w6)
   case atStart=>exact⟨rfl,rfl⟩
   case round=>
    obtain⟨rfl,rfl⟩:=hrel;go_wp2
    obtain⟨l',zg,xm⟩:=XW yv.oQ hI
    (go_ret;refine⟨?_,⟨_,om,zj⟩,yx.oQ⟩;first|exact⟨_,l',rfl,zg,om⟩|exact⟨_,rfl,l',zg,om⟩)
  ·obtain⟨g,rfl⟩:∃g,va=some (Y g 0):=by
    obtain⟨_,⟨_,h0⟩|⟨g,c',cur,hv,_⟩⟩:=H
    ·exact absurd h0 yp
    ·cases hv;exact⟨g,rfl⟩
   have ye:Hid (x9 w wc R n cap ao (p+1007) g m vc):=⟨⟨p5,om,zc⟩,T5,xs,H,hI⟩;clear H T5;go_wp2_with fail
   refine(bP R n cap ao p5 _ _ zc om om).mono ?_;rintro e w6 ⟨⟨j0,rfl,yu,zy,-⟩,zj,T6⟩
   replace zy:=zy om
   obtain⟨j1,rfl⟩:=ieo yu;have yf:Hid (x9 w w6 R n cap ao (p+1008) g m vc):=ye.oQ.next T6 zj om K;clear ye zc zj T6;go_wp2_with fail
   go_loopg [7] (m-j1) (λkk i wr=>∃j:Nat,i=I j/\j+kk=m/\x9 w wr R n cap ao (p+1008+j) g m vc)
   case atStart=>exact⟨j1,rfl,om,yf.oQ.wide om⟩
   case round=>
    clear yf yu zy;obtain⟨j,rfl,hjk,S⟩:=hrel
    by_cases hjm:j<m
    ·have yo:(j:Int)<(m:Int):=om
     have V:=aI S;clear S
     go_upto_region 10 with fail
     go_cut [] (λwx=>x9 w wx R n cap ao (p+1008+j+1) g m vc)
     case first=>
      refine wpIn_wide.1 (dA (F:=Fence.wide) (n:=0) kr [some 68,some 69,some 70,some 71,some 72,some 73,some 74,some 75,some 76,some 77,some 78,some 79,some 80,none] 16 [9,10,13] (S10 (λq wx=>x9 w wx R n cap ao q g m vc) (p+1008+j)) (P10 R g m vc j) kr kr dz aAP ?h0 ?read ?eff ?fin dz)
      case h0=>exact V.oQ.below (br _ _).drew K
      case read=>
       intro jj o k u w' t hc hk Q C a;have hj:jj<14:=(lgs.1 t).1;obtain⟨q',L⟩:=S10_T C;obtain⟨z,hz⟩:=L.cell (j*6+5) om;clear L C hk Q
       match jj,hj with
       |0,_|2,_=>
        simp at t;subst t;clear a;simp only[aD,Act.put];gi_wp2;exact⟨.slice (some (Y g 0)) m vc,by simp[aH],by first|exact rfl|exact⟨trivial,rfl⟩⟩
       |1,_|3,_=>
        simp at t;subst t;clear a;simp only[aD,Act.put];gi_wp2;exact⟨I (j:Int),by simp[aH],by first|exact rfl|exact⟨trivial,rfl⟩⟩
       |4,_=>
        simp at t;subst t;have Z:u 2=_:=(Zq a 2).1 dz;have d3:u 3=_:=(Zq a 3).1 dz;clear a;simp only[aD,Act.put];rw[Z,d3];gi_wp2;exact⟨(E g (j*6)),by simp[aH,Z,d3],by first|exact rfl|exact⟨trivial,rfl⟩⟩
       |5,_=>
        simp at t;subst t;have d4:u 4=_:=(Zq a 4).1 dz;clear a;simp only[aD,Act.put];rw[d4];gi_wp2;exact⟨(E g (j*6+5)),by simp[aH,d4],by first|exact rfl|exact⟨trivial,rfl⟩⟩
       |6,_=>
        simp at t;subst t;have d5:u 5=_:=(Zq a 5).1 dz;clear a;simp only[aD,Act.put];rw[d5];gi_wp2;exact⟨I z,by simp[aH,d5],by first|exact⟨z,rfl⟩|exact⟨trivial,z,rfl⟩⟩
       |7,_=>
        simp at t;subst t;obtain⟨z6,d6⟩:=(Zq a 6).1 dz;clear a;simp only[aD,Act.put];rw[d6];gi_wp2;exact⟨I (wrap64 (z6+1)),by simp[aH,d6],by first|exact⟨_,rfl⟩|exact⟨trivial,_,rfl⟩⟩
       |8,_=>
        simp at t;subst t;clear a;simp only[aD,Act.put];gi_wp2;exact⟨(E R 0),by simp[aH],by first|exact rfl|exact⟨trivial,rfl⟩⟩
       |9,_|10,_|13,_=>exact absurd hc dz
       |11,_=>
        simp at t;subst t;have X:u 0=_:=(Zq a 0).1 dz;have d1:u 1=_:=(Zq a 1).1 dz;clear a;simp only[aD,Act.put];rw[X,d1];gi_wp2;exact⟨(E g (j*6)),by simp[aH,X,d1],by first|exact rfl|exact⟨trivial,rfl⟩⟩
       |12,_=>
        simp at t;subst t;have yi:u 11=_:=(Zq a 11).1 dz;clear a;simp only[aD,Act.put];rw[yi];gi_wp2;exact⟨(E g (j*6+5)),by simp[aH,yi],by first|exact rfl|exact⟨trivial,rfl⟩⟩
       |q+14,h=>omega
      case eff=>
       intro k i o u w' D t C a
       match k with
       |0=>
        simp at D;subst D;simp at t;subst t;have d8:u 8=_:=a (eD 8) sm rfl dz;have A:(λq wx=>x9 w wx R n cap ao q g m vc) (p+1008+j) w':=C;obtain⟨p1,T,J⟩:=A.rd;clear C a;simp only[aD,Act.put];rw[d8];gi_wp2_with fail
        refine⟨trivial,rfl,?_⟩;refine(cw.2 (bP R n cap ao p1 2 w' J om om)).mono ?_;rintro e w5 ⟨⟨r,rfl,U,O,-⟩,M,B1⟩;have G:=A.next (q1:=p+1008+j+1) B1 M om K;clear A;gi_wp2;exact⟨I r,by simp[aH,d8],G,r,by simp[aH]⟩
       |1=>
        simp at D;subst D;simp at t;subst t;obtain⟨z7,d7⟩:=a (eD 7) sm rfl dz;obtain⟨A,r,d9⟩:=C;have G:Hid _:=A;clear A a;simp only[aD,Act.put];rw[d7,d9];gi_wp2;exact⟨I (wrap64 (z7+r)),by simp[aH,d7,d9],G.oQ,_,by simp[aH];rfl⟩
       |2=>
        simp at D;subst D;simp at t;subst t;have yj:u 12=_:=a (eD 12) sm rfl dz;obtain⟨A,z,yh⟩:=C;obtain⟨z0,hz0⟩:=A.cell (j*6+5) om;have zq:=λi=>A.frozen i;have G:Hid _:=A;clear A a;simp only[aD,Act.put];rw[yj,yh];gi_wp2;exact⟨undef,by simp[aH,yj,yh],G.oQ.put K (j*6+5) z⟩
       |k+3=>simp at D
      case fin=>
       intro u w' C hP;have HF:=aI C;clear C hP;simp only[aD,Act.put,sit,lcs,lcz];generalize u 0=u0v;generalize u 1=u1v;generalize u 2=u2v;generalize u 3=u3v;generalize u 4=u4v;generalize u 5=u5v;generalize u 6=u6v;generalize u 7=u7v;generalize u 8=u8v;generalize u 9=u9v;generalize u 10=u10v;generalize u 11=u11v;generalize u 12=u12v;go_wp2_with fail
       go_meet
       exact HF.oQ
     case rest=>
     have za:=aI hcut;clear V hcut;obtain⟨z1,k1⟩:=za.oQ.cell (j*6+5) om
     go_upto_region 11 with fail
     go_cut [96] (λg' wx=>(∃gb,g'=.bool gb/\(gb=true->0<j))/\x9 w wx R n cap ao (p+1008+j+1) g m vc)
     case first=>
      by_cases zs:0<j
      ·obtain⟨e,he,zh⟩:∃e:Nat,(j:Int)-1=(e:Int)/\e+1=j:=⟨j-1,om,om⟩
       obtain⟨z2,k2⟩:=za.oQ.cell (e*6+5) om;have xh:e<m:=om
       clear zh;have ym:(0:Int)<(j:Int):=om
       by_cases hlt:z1<z2
       ·go_quiet (fail)
        go_wp2
        go_meet
        exact⟨⟨_,rfl,λ_=>zs⟩,za.oQ.below (below_drewN (br _ _) _) K⟩
       ·go_quiet (fail)
        go_wp2
        go_meet
        exact⟨⟨_,rfl,λ_=>zs⟩,za.oQ.below (below_drewN (br _ _) _) K⟩
      ·have ym:¬(0:Int)<(j:Int):=om
       go_quiet (fail)
       go_wp2
       go_meet
       exact⟨⟨_,rfl,λh=>absurd h Bool.false_ne_true⟩,za.oQ.below (below_drewN (br _ _) _) K⟩
     case rest=>
     obtain⟨⟨gb,rfl,zr⟩,S2⟩:=hcut;have zb:=aI S2;clear za S2 k1
     cases gb with
     |false=>
      clear zr;go_wp2
      go_roundg (gk-1)
      case measure=>omega
      case rel=>exact⟨j+1,gn,om,zb.oQ.wide om⟩
     |true=>
      have zs:=zr rfl;clear zr;obtain⟨e,he,zh⟩:∃e:Nat,(j:Int)-1=(e:Int)/\e+1=j:=⟨j-1,om,om⟩;obtain⟨z2,k2⟩:=zb.oQ.cell (e*6+5) om;obtain⟨z1,k1⟩:=zb.oQ.cell (j*6+5) om;have xh:e<m:=om
      have HEJ:=aI zh;clear zh;have zq:=λi=>zb.oQ.frozen i;have yw:Hid _:=zb.oQ.put K (j*6+5) z2;clear zb;go_wp2
      go_roundg (gk-1)
      case measure=>omega
      case rel=>exact⟨j+1,gn,om,yw.oQ.wide om⟩
    ·have yo:¬(j:Int)<(m:Int):=om
     have HF:Hid _:=S;clear S;go_wp2
     obtain⟨xs,H,hI⟩:=HF.oQ.own;obtain⟨l',zg,xm⟩:=XW H hI;obtain⟨p',hp',xr⟩:=HF.oQ.rd
     (go_ret;refine⟨?_,⟨p',om,xr⟩,HF.oQ.but⟩;first|exact⟨_,l',rfl,zg,om⟩|exact⟨_,rfl,l',zg,om⟩)
 ·have hzb:(r==0)=false:=by simp[hz]
  obtain⟨p5,xq,zc⟩:=zd.oQ.rd;have HB:Hid _:=zd.oQ.but;clear zd hH;go_wp2
  all_goals (go_ret;refine⟨?_,⟨p5,om,zc⟩,HB.oQ⟩;first|exact⟨_,l,rfl,zk.oQ,om⟩|exact⟨_,rfl,l,zk.oQ,om⟩)
