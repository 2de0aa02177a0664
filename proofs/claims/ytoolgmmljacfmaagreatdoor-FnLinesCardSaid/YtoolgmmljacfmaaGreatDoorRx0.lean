import Derived.Test.YtoolgmmljacfmaaGreatDoorRw
import Derived.Test.YtoolgmmljacfmaaGreatDoorAny
set_option maxRecDepth 100000
set_option maxHeartbeats 4000000
open List renaming length → ln
open Go.Proofs.Tryz Go.RowKit
namespace Go.Proofs.YtoolgmmljacfmaaGreatDoor
open Go.BigFrame
def tJ (x:Wx):Nat->Value
 |0=>.string x.n
 |1=>I x.q
 |2=>I x.s
 |3=>I x.f
 |4=>I x.b
 |5=>I x.l
 |6=>.slice x.wa x.wl.length x.wc
 |_=>.slice x.la x.ll.length x.lc
def WP (f:Fx):Nat->Value
 |0=>.string f.n
 |1=>I f.x
 |_=>I f.y
structure uH (w:World)(B:Nat)(y:Yx):Prop where
 own:w.ownsRow B 107 2 (.slice y.a y.l.length y.c) y.l.length (aJ Cx.cells y.l)
 l1:1<=y.l.length
 l2:y.l.length<=40
 near:∀c∈y.l,rD c
structure kN (w wx:World)(R n cap:Nat)(ao:Option Addr)(q:Int)(B:Nat)(x:Wx)(fb:List (Nat×Fx)):Prop where
 rd:∃p',p'<=q/\Rd wx R ao n cap p'
 but:aZ R w wx
 lt:w.heap.size<B
 res:∃f,wx.rowIs w.heap.size 40 8 f
 obj:wx.rowIs B 40 8 (tJ x)
 ws:wx.ownsRow (B+1) 89 1 (.slice x.wa x.wl.length x.wc) x.wl.length (aJ Yx.cells x.wl)
 yn:∀y∈x.wl,uH wx (B+1) y
 ls:wx.ownsRow (B+1) 3 1 (.slice x.la x.ll.length x.lc) x.ll.length (aJ dV x.ll)
 fb:∀p∈fb,B<p.1/\wx.rowIs p.1 34 3 (WP p.2)
theorem eZ {w w':Wd}{base e sz:Nat}{v:Va}{m:Nat}{xs:List Va}(h:w.ownsRow base e sz v m xs)(l:∀k,base<=k->k<w.heap.size->(∀i,w.heap[k]?=some (.cells i e)->w'.heap[k]?=w.heap[k]?)):w'.ownsRow base e sz v m xs:=by
 obtain⟨d,b|⟨g,cap,a,b,f,c,j⟩⟩:=h;·exact⟨d,.inl b⟩
 ·exact⟨d,.inr ⟨g,cap,a,b,f,(l g f (cE c) a c).trans c,j⟩⟩
theorem uH.same {w w':Wd}{B:Nat}{y:Yx}(h:uH w B y)(b:∀k,B<=k->k<w.heap.size->(∀a,w.heap[k]?=some (.cells a 107)->w'.heap[k]?=w.heap[k]?)):uH w' B y:=⟨eZ h.own b,h.l1,h.l2,h.near⟩
section
variable {w wx w1:Wd}{R n cap:Nat}{ao:Oa}{q q1 p1:Int}{B:Nat}{x x':Wx}{fb:List (Nat×Fx)}
theorem kN.next (h:kN w wx R n cap ao q B x fb)(g:aZ R wx w1)(j:Rd w1 R ao n cap p1)(b:p1<=q1)(hR:R<w.heap.size):kN w w1 R n cap ao q1 B x fb:=by
 have hl:=h.lt;obtain⟨f,i⟩:=h.res;have a:∀k,w.heap.size<=k->k<wx.heap.size->w1.heap[k]?=wx.heap[k]?:=λk a d=>g.block k d om
 exact⟨⟨p1,b,j⟩,h.but.trans g,h.lt,⟨f,i.of_block (a _ (nlq _) i.lt)⟩,h.obj.of_block (a _ om h.obj.lt),eZ h.ws (λk e c _ _=>a k om c),λy l=>(h.yn y l).same (λk e c _ _=>a k om c),eZ h.ls (λk e c _ _=>a k om c),
  λp b=>⟨(h.fb p b).1,(h.fb p b).2.of_block (a _ (by have:=(h.fb p b).1;omega) (h.fb p b).2.lt)⟩⟩
theorem kN.wide (h:kN w wx R n cap ao q B x fb)(hq:q<=q1):kN w wx R n cap ao q1 B x fb:=
 ⟨by obtain⟨p,hp,a⟩:=h.rd;exact⟨p,om,a⟩,h.but,h.lt,h.res,h.obj,h.ws,h.yn,h.ls,h.fb⟩
theorem kN.below (h:kN w wx R n cap ao q B x fb)(a:aG wx w1)(b:R<w.heap.size):kN w w1 R n cap ao q B x fb:=by
 obtain⟨p,c,d⟩:=h.rd;exact h.next (aZ.below a) (d.zL (a.mono (by have:=h.but.size;omega))) c b
theorem kN.set (h:kN w wx R n cap ao q B x fb)(hR:R<w.heap.size)(i:Nat)(u:Va)(hx:∀j,j<8->(if j=i then u else tJ x j)=tJ x' j)(l:x'.wa=x.wa)(d:x'.wl=x.wl)(m:x'.wc=x.wc)(o:x'.la=x.la)(r:x'.ll=x.ll)(s:x'.lc=x.lc):
 kN w (wx.setCell (Y B i) u) R n cap ao q B x' fb:=by
 have v:=h.lt;obtain⟨p,c,z⟩:=h.rd;obtain⟨f,t⟩:=h.res;have g:Below B wx (wx.setCell (Y B i) u):=(br B wx).setCell (p:=(Y B i)) (nlq _) u;have a:∀k,k≠B->(wx.setCell (Y B i) u).heap[k]?=wx.heap[k]?:=λk a=>bhs _ _ _ _ a;have b:=g.mono (nol v);refine⟨⟨p,c,z.zL (g.mono om)⟩,⟨b.os.trans h.but.os,b.tape.trans h.but.tape,b.output.trans h.but.output,nlt h.but.size b.size,λk a A=>(b.block k a).trans (h.but.block k a A)⟩,h.lt,⟨f,t.of_block (a _ om)⟩,(h.obj.set i u).congr hx,?_,?_,?_,λp c=>⟨(h.fb p c).1,(h.fb p c).2.of_block (a _ (by have:=(h.fb p c).1;omega))⟩⟩;·rw[l,d,m];exact eZ h.ws (λk e _ _ _=>a k om)
 ·rw[d];exact λy C=>(h.yn y C).same (λk e _ _ _=>a k om)
 ·rw[o,r,s];exact eZ h.ls (λk e _ _ _=>a k om)
theorem jK {e sz base m:Nat}{v:Va}{i:List Va}{o:Obj}(h':wx.ownsRow base e sz v m i)(f:(wx.alloc o).grownBy w1 v.ownBlock){k:Nat}(h:k<wx.heap.size)(a:∀c,wx.heap[k]?≠some (.cells c e)):w1.heap[k]?=wx.heap[k]?:=by
 refine(f.block k so ?_).trans (halq wx o k h);intro b;obtain⟨_,⟨rfl,_⟩|⟨g,cap,cur,rfl,_,d,_⟩⟩:=h';·simp[Value.ownBlock]at b
 ·simp[Value.ownBlock]at b;subst b;exact a _ d
theorem iK {k t m e:Nat}{f:Nat->Va}(h:wx.rowIs k t m f)(a:t≠e):∀b,wx.heap[k]?≠some (.cells b e):=by
 intro b d;obtain⟨c,g,_⟩:=h;rw[g]at d;cases d;exact a rfl
theorem sI {e sz base m:Nat}{v:Va}{q:List Va}{o:Obj}(h':wx.ownsRow base e sz v m q)(n:(wx.alloc o).grownBy w1 v.ownBlock){a d b i:Nat}{j:Va}{c:List Va}(l:wx.ownsRow a d b j i c)(g:d≠e):w1.ownsRow a d b j i c:=
 eZ l (λk _ p cs f=>jK h' n p (λcs' h=>by rw[f]at h;cases h;exact g rfl))
theorem kN.addWay (h:kN w wx R n cap ao q B x fb) (hR:R<w.heap.size) (o:Obj) (y:Yx) (e:uH wx (B+1) y) (b:Oa) (c:Nat) (r:(wx.alloc o).grownBy w1 (Value.slice x.wa (ln x.wl) x.wc).ownBlock)
 (i:w1.ownsRow (B+1) 89 1 (.slice b (ln x.wl+1) c) (ln x.wl+1) (aJ Yx.cells x.wl++y.cells)):
 kN w (w1.setCell (Y B 6) (.slice b (ln x.wl+1) c)) R n cap ao q B { x with wa:=b,wl:=x.wl++[y],wc:=c} fb:=by
 have C:=h.lt;have hol:=h.obj.lt;obtain⟨p,s,D⟩:=h.rd;obtain⟨f,v⟩:=h.res;have d:Below (B+1) wx w1:=((br (B+1) wx).alloc om o).grown r so (λk a=>eH h.ws a);have t:Below B wx (w1.setCell (Y B 6) (.slice b (ln x.wl+1) c)):=(d.mono (Nat.le_succ B)).setCell (p:=(Y B 6)) (nlq _) _;have a:∀k,k≠B->(w1.setCell (Y B 6) (.slice b (ln x.wl+1) c)).heap[k]?=w1.heap[k]?:=λk a=>bhs _ _ _ _ a;have g:=t.mono (nol C)
 have u:∀y,uH wx (B+1) y->uH (w1.setCell (Y B 6) (.slice b (ln x.wl+1) c)) (B+1) y:=λy e=>by
  have m:uH w1 (B+1) y:=⟨sI h.ws r e.own dz,e.l1,e.l2,e.near⟩;exact m.same (λk m _ _ _=>a k om)
 refine⟨⟨p,s,D.zL (t.mono om)⟩,⟨g.os.trans h.but.os,g.tape.trans h.but.tape,g.output.trans h.but.output,nlt h.but.size g.size,λk a F=>(g.block k a).trans (h.but.block k a F)⟩,h.lt,⟨f,(v.of_block (d.block _ om)).of_block (a _ om)⟩,?_,?_,?_,?_,λp s=>⟨(h.fb p s).1,?_⟩⟩
 ·refine((h.obj.of_block (d.block _ om)).set 6 _).congr λj A=>?_;match j,A with
  |0,_|1,_|2,_|3,_|4,_|5,_|7,_=>rfl
  |6,_=>show Value.slice b (ln x.wl+1) c=Value.slice b (ln (x.wl++[y])) c;rw[lla];rfl
 ·show World.ownsRow _ (B+1) _ 1 (.slice b (ln (x.wl++[y])) c) (ln (x.wl++[y])) (aJ Yx.cells (x.wl++[y]));rw[eL,lL,lla];exact eZ i (λk m _ _ _=>a k om)
 ·intro z l;rcases lma.1 l with l|l;·exact u z (h.yn z l)
  ·rw[lms.1 l];exact u y e
 ·exact eZ (sI h.ws r h.ls dz) (λk m _ _ _=>a k om)
 ·have:=h.fb p s;exact(this.2.of_block (jK h.ws r this.2.lt (iK this.2 dz))).of_block (a _ om)
theorem kN.addLev (h:kN w wx R n cap ao q B x fb) (hR:R<w.heap.size) (o:Obj) (i:Int) (b:Oa) (c:Nat) (m:(wx.alloc o).grownBy w1 (Value.slice x.la (ln x.ll) x.lc).ownBlock)
 (g:w1.ownsRow (B+1) 3 1 (.slice b (ln x.ll+1) c) (ln x.ll+1) (aJ dV x.ll++dV i)):
 kN w (w1.setCell (Y B 7) (.slice b (ln x.ll+1) c)) R n cap ao q B { x with la:=b,ll:=x.ll++[i],lc:=c} fb:=by
 have z:=h.lt;have hol:=h.obj.lt;obtain⟨p,r,A⟩:=h.rd;obtain⟨f,u⟩:=h.res;have d:Below (B+1) wx w1:=((br (B+1) wx).alloc om o).grown m so (λk a=>eH h.ls a);have t:Below B wx (w1.setCell (Y B 7) (.slice b (ln x.ll+1) c)):=(d.mono (Nat.le_succ B)).setCell (p:=(Y B 7)) (nlq _) _;have a:∀k,k≠B->(w1.setCell (Y B 7) (.slice b (ln x.ll+1) c)).heap[k]?=w1.heap[k]?:=λk a=>bhs _ _ _ _ a;have e:=t.mono (nol z);refine⟨⟨p,r,A.zL (t.mono om)⟩,⟨e.os.trans h.but.os,e.tape.trans h.but.tape,e.output.trans h.but.output,nlt h.but.size e.size,λk a C=>(e.block k a).trans (h.but.block k a C)⟩,h.lt,⟨f,(u.of_block (d.block _ om)).of_block (a _ om)⟩,?_,?_,?_,?_,λp r=>⟨(h.fb p r).1,?_⟩⟩
 ·refine((h.obj.of_block (d.block _ om)).set 7 _).congr λj v=>?_;match j,v with
  |0,_|1,_|2,_|3,_|4,_|5,_|6,_=>rfl
  |7,_=>show Value.slice b (ln x.ll+1) c=Value.slice b (ln (x.ll++[i])) c;rw[lla];rfl
 ·exact eZ (sI h.ls m h.ws dz) (λk l _ _ _=>a k om)
 ·intro y s;have l:uH w1 (B+1) y:=⟨sI h.ls m (h.yn y s).own dz,(h.yn y s).l1,(h.yn y s).l2,(h.yn y s).near⟩;exact l.same (λk l _ _ _=>a k om)
 ·show World.ownsRow _ (B+1) _ 1 (.slice b (ln (x.ll++[i])) c) (ln (x.ll++[i])) (aJ dV (x.ll++[i]));rw[eL,lL,lla];exact eZ g (λk l _ _ _=>a k om)
 ·have:=h.fb p r;exact(this.2.of_block (jK h.ls m this.2.lt (iK this.2 dz))).of_block (a _ om)
end
end Go.Proofs.YtoolgmmljacfmaaGreatDoor
namespace Go.Proofs.YtoolgmmljacfmaaGreatDoor
open Go.BigFrame Go.Shelf
attribute [local go_sem] Oper.semAt_some
theorem objR {w:Wd}{z j:Nat}{a:Array Va}{t:TypeId}{v:Va}(h:w.heap[z]?=some (.cells a t))(b:a[j]?=some v):w.cell? (Y z j)=some v:=by simp[World.cell?,h,b]
theorem RT (w:Wd)(a:Array Va)(t:TypeId):∃f,(w.alloc (.cells a t)).rowIs w.heap.size t a.size f:=
 ⟨λi=>a.getD i undef,wra w a t _ (λi b=>by rw[age b];simp[b])⟩
def yJ (i:Nat):ByteArray:=match i with|0=>⟨#[97,49]⟩|1=>⟨#[98]⟩|2=>⟨#[99,45,99]⟩|3=>⟨#[100]⟩|4=>⟨#[101]⟩|_=>⟨#[102]⟩
theorem BG (i:Nat):(yJ i).size<=3:=by
 unfold yJ;split<;>decide
theorem kN.start {w d:Wd}{R n cap:Nat}{ao:Oa}{q m:Int}(r:aZ R w d)(o:Rd d R ao n cap m)(l:m<=q)(e:∃f,d.rowIs w.heap.size 40 8 f)(nm:Ba)(a b c:Int):
 kN w (d.alloc (.cells #[.string nm,I a,I 0,I b,I 0,I c,ms,ms] 40)) R n cap ao q d.heap.size ⟨nm,a,0,b,0,c,none,[],0,none,[],0⟩ []:=by
 obtain⟨f,h⟩:=e;have g:aG d (d.alloc (.cells #[.string nm,I a,I 0,I b,I 0,I c,ms,ms] 40)):=aC (br _ _) _;refine⟨⟨m,l,o.zL (g.mono (by have:=o.lt;omega))⟩,r.trans (aZ.below g),h.lt,⟨f,h.of_block (g.block _ h.lt)⟩,?_,?_,λy s=>by simp at s,?_,λp l=>by simp at l⟩
 ·refine wra d #[.string nm,I a,I 0,I b,I 0,I c,ms,ms] 40 _ (λi j=>?_);match i,j with
  |0,_|1,_|2,_|3,_|4,_|5,_|6,_|7,_=>rfl
  |k+8,j=>simp at j;omega
 ·exact won _ _ _ _
 ·exact won _ _ _ _
def V3 (w:World)(R n cap:Nat)(ao:Option Addr)(q:Int)(B:Nat)(x:Wx)(fb:List (Nat×Fx))(m c:Int)(f:Int->Wx):Nat->(Nat->Value)->World->Prop
 |0,_,wx=>kN w wx R n cap ao q B x fb
 |1,vs,wx=>kN w wx R n cap ao (q+1) B x fb/\∃r,vs 3=I r/\0<=r/\r<m
 |2,vs,wx=>kN w wx R n cap ao (q+1) B x fb/\∃r,vs 4=I (c+r)/\0<=r/\r<m
 |_,_,wx=>∃r,0<=r/\r<m/\kN w wx R n cap ao (q+1) B (f r) fb
theorem KY {w:Wd}{R n cap:Nat}{ao:Oa}{q:Int}{B:Nat}{x:Wx}{fb:List (Nat×Fx)}{m c:Int}{f:Int->Wx}:∀k j a l,(∀i∈[3,4,6].take k,j i=a i)->V3 w R n cap ao q B x fb m c f k j l->V3 w R n cap ao q B x fb m c f k a l:=by
 intro k j a l h b;match k with
 |0=>exact b
 |1=>obtain⟨d,r,e,g⟩:=b;exact⟨d,r,by rw[←h 3 sm];exact e,g⟩
 |2=>obtain⟨d,r,e,g⟩:=b;exact⟨d,r,by rw[←h 4 sm];exact e,g⟩
 |k+3=>exact b
theorem L0 {w a:Wd}{R n cap:Nat}{ao:Oa}{q:Int}{B:Nat}{x:Wx}{fb:List (Nat×Fx)}{m c:Int}{f:Int->Wx}{k:Nat}{d:Nat->Va}(h:V3 w R n cap ao q B x fb m c f k d a)(b:k<3):a.rowIs B 40 8 (tJ x):=by
 match k,b with
 |0,_=>exact kN.obj h
 |1,_|2,_=>exact h.1.obj
def PSet (R B i1 i2:Nat)(c:Int):Nat->Value->Prop
 |0,v=>v=(E B i1)
 |1,v=>v=I c
 |2,v=>v=(E R 0)
 |5,v=>v=(E B i2)
 |_,_=>True
theorem kN.box {w b:Wd}{R n cap:Nat}{ao:Oa}{q:Int}{B:Nat}{x:Wx}{fb:List (Nat×Fx)}(h:kN w b R n cap ao q B x fb)(e:R<w.heap.size)(f:Fx):
 kN w (b.alloc (.cells #[.string f.n,I f.x,I f.y] 34)) R n cap ao q B x ((b.heap.size,f)::fb):=by
 have a:=h.below (w1:=b.alloc (fo f)) (aC (br _ _) _) e;refine⟨a.rd,a.but,a.lt,a.res,a.obj,a.ws,a.yn,a.ls,λp d=>?_⟩;rcases lmc.1 d with rfl|d
 ·refine⟨h.obj.lt,wra b #[.string f.n,I f.x,I f.y] 34 _ (λi c=>?_)⟩;match i,c with
  |0,_|1,_|2,_=>rfl
  |k+3,c=>simp at c;omega
 ·exact a.fb p d
def S9 (w:World)(R n cap:Nat)(ao:Option Addr)(q:Int)(B:Nat)(x:Wx)(fb:List (Nat×Fx))(f8 f9:Fx):Nat->(Nat->Value)->World->Prop
 |0,_,wx=>kN w wx R n cap ao q B x fb
 |1,vs,wx=>kN w wx R n cap ao q B x fb/\vs 4=Cx.val ⟨f8.x,f8.y⟩
 |2,vs,wx=>kN w wx R n cap ao q B x fb/\vs 4=Cx.val ⟨f8.x,f8.y⟩/\vs 6=Cx.val ⟨f9.x,f9.y⟩
 |3,vs,wx=>kN w wx R n cap ao (q+1) B x fb/\vs 4=Cx.val ⟨f8.x,f8.y⟩/\vs 6=Cx.val ⟨f9.x,f9.y⟩/\∃r,vs 8=I r/\0<=r/\r<4
 |4,vs,wx=>kN w wx R n cap ao (q+241) B x fb/\∃y:Yx,vs 9=.slice y.a y.l.length y.c/\uH wx (B+1) y
 |5,vs,wx=>kN w wx R n cap ao (q+241) B x fb/\∃y:Yx,vs 10=y.val/\uH wx (B+1) y
 |6,vs,wx=>∃wp y,kN w wp R n cap ao (q+241) B x fb/\uH wp (B+1) y/\wx=wp.alloc (.cells #[.slice y.a y.l.length y.c] 89)/\vs 11=.slice (some (Y wp.heap.size 0)) 1 1
 |7,vs,wx=>∃wp y va vc,kN w wp R n cap ao (q+241) B x fb/\uH wp (B+1) y/\vs 12=.slice va (x.wl.length+1) vc/\(wp.alloc (.cells #[.slice y.a y.l.length y.c] 89)).grownBy wx (Value.slice x.wa x.wl.length x.wc).ownBlock/\wx.ownsRow (B+1) 89 1 (.slice va (x.wl.length+1) vc) (x.wl.length+1) (aJ Yx.cells x.wl++y.cells)
 |_,_,wx=>∃y va vc,kN w wx R n cap ao (q+241) B { x with wa:=va,wl:=x.wl++[y],wc:=vc} fb
section
variable {w:World}{R n cap:Nat}{ao:Option Addr}{q:Int}{B:Nat}{x:Wx}{fb:List (Nat×Fx)}{f8 f9:Fx}
theorem S9_loc:∀k j d m,(∀i∈[4,6,8,9,10,11,12,14].take k,j i=d i)->S9 w R n cap ao q B x fb f8 f9 k j m->S9 w R n cap ao q B x fb f8 f9 k d m:=by
 intro k j d m h a;match k with
 |0=>exact a
 |1=>exact⟨a.1,(h 4 sm).symm.trans a.2⟩
 |2=>exact⟨a.1,(h 4 sm).symm.trans a.2.1,(h 6 sm).symm.trans a.2.2⟩
 |3=>obtain⟨b,e,f,r,c,g⟩:=a;exact⟨b,(h 4 sm).symm.trans e,(h 6 sm).symm.trans f,r,(h 8 sm).symm.trans c,g⟩
 |4=>obtain⟨b,y,c,g⟩:=a;exact⟨b,y,(h 9 sm).symm.trans c,g⟩
 |5=>obtain⟨b,y,c,g⟩:=a;exact⟨b,y,(h 10 sm).symm.trans c,g⟩
 |6=>obtain⟨l,y,b,e,f,c⟩:=a;exact⟨l,y,b,e,f,(h 11 sm).symm.trans c⟩
 |7=>obtain⟨l,y,o,p,b,e,f,c⟩:=a;exact⟨l,y,o,p,b,e,(h 12 sm).symm.trans f,c⟩
 |k+8=>exact a
theorem QL {c:Wd}{k:Nat}{i:Nat->Va}(h:S9 w R n cap ao q B x fb f8 f9 k i c)(g:k<8):c.rowIs B 40 8 (tJ x)/\∀p∈fb,c.rowIs p.1 34 3 (WP p.2):=by
 have d:∀{q c},kN w c R n cap ao q B x fb->c.rowIs B 40 8 (tJ x)/\∀p∈fb,c.rowIs p.1 34 3 (WP p.2):=λh=>⟨h.obj,λp b=>(h.fb p b).2⟩;match k,g with
 |0,_=>exact d h
 |1,_|2,_|3,_|4,_|5,_=>exact d h.1
 |6,_=>
  obtain⟨j,y,a,f,rfl,e⟩:=h;exact⟨a.obj.alloc _,λp b=>(a.fb p b).2.alloc _⟩
 |7,_=>
  obtain⟨j,y,va,vc,a,f,h3,e,h5⟩:=h;exact⟨a.obj.of_block (jK a.ws e a.obj.lt (iK a.obj dz)),λp b=>(a.fb p b).2.of_block (jK a.ws e (a.fb p b).2.lt (iK (a.fb p b).2 dz))⟩
end
def P9 (R B:Nat)(x:Wx)(f8 f9:Fx):Nat->Value->Prop
 |0,v=>v=(E B 6)
 |1,v=>v=.slice x.wa x.wl.length x.wc
 |2,v=>v=(E R 0)
 |3,v=>v=f8.val
 |5,v=>v=f9.val
 |7,v=>v=(E R 0)
 |13,v=>v=(E B 6)
 |_,_=>True
def S13 (w:World)(R n cap:Nat)(ao:Option Addr)(q:Int)(B:Nat)(x:Wx)(fb:List (Nat×Fx)):Nat->(Nat->Value)->World->Prop
 |0,_,wx=>kN w wx R n cap ao q B x fb
 |1,vs,wx=>kN w wx R n cap ao (q+1) B x fb/\∃r,vs 3=I r/\0<=r/\r<4
 |2,vs,wx=>kN w wx R n cap ao (q+1) B x fb/\∃r,vs 4=I r
 |3,vs,wx=>∃wp r,kN w wp R n cap ao (q+1) B x fb/\wx=wp.alloc (.cells #[I r] 3)/\vs 5=.slice (some (Y wp.heap.size 0)) 1 1
 |4,vs,wx=>∃wp r va vc,kN w wp R n cap ao (q+1) B x fb/\vs 6=.slice va (x.ll.length+1) vc/\(wp.alloc (.cells #[I r] 3)).grownBy wx (Value.slice x.la x.ll.length x.lc).ownBlock/\wx.ownsRow (B+1) 3 1 (.slice va (x.ll.length+1) vc) (x.ll.length+1) (aJ dV x.ll++dV r)
 |_,_,wx=>∃r va vc,kN w wx R n cap ao (q+1) B { x with la:=va,ll:=x.ll++[r],lc:=vc} fb
section
variable {w:World}{R n cap:Nat}{ao:Option Addr}{q:Int}{B:Nat}{x:Wx}{fb:List (Nat×Fx)}
theorem S13_loc:∀k f c j,(∀i∈[3,4,5,6,8].take k,f i=c i)->S13 w R n cap ao q B x fb k f j->S13 w R n cap ao q B x fb k c j:=by
 intro k f c j h d;match k with
 |0=>exact d
 |1=>obtain⟨a,r,b,l⟩:=d;exact⟨a,r,(h 3 sm).symm.trans b,l⟩
 |2=>obtain⟨a,r,b⟩:=d;exact⟨a,r,(h 4 sm).symm.trans b⟩
 |3=>obtain⟨g,y,a,e,b⟩:=d;exact⟨g,y,a,e,(h 5 sm).symm.trans b⟩
 |4=>obtain⟨g,y,m,o,a,e,b⟩:=d;exact⟨g,y,m,o,a,(h 6 sm).symm.trans e,b⟩
 |k+5=>exact d
theorem ZU {c:Wd}{k:Nat}{e:Nat->Va}(h:S13 w R n cap ao q B x fb k e c)(d:k<5):c.rowIs B 40 8 (tJ x):=by
 match k,d with
 |0,_=>exact kN.obj h
 |1,_|2,_=>exact h.1.obj
 |3,_=>
  obtain⟨f,y,a,rfl,b⟩:=h;exact a.obj.alloc _
 |4,_=>
  obtain⟨f,y,va,vc,a,h3,b,h5⟩:=h;exact a.obj.of_block (jK a.ls b a.obj.lt (iK a.obj dz))
end
def P13 (R B:Nat)(x:Wx):Nat->Value->Prop
 |0,v=>v=(E B 7)
 |1,v=>v=.slice x.la x.ll.length x.lc
 |2,v=>v=(E R 0)
 |7,v=>v=(E B 7)
 |_,_=>True
theorem news1 (W:Wd)(x:Va)(t:TypeId):∀j u,[x][j]?=some u->(W.alloc (.cells #[x] t)).cell? (((Y W.heap.size 0):Addr).add j)=some u:=by
 intro j u a;match j,a with
 |0,a=>simp at a;subst a;simp[Addr.add]
 |n+1,a=>simp at a
theorem slice1 (a:Oa)(l c:Nat):∀u∈[Value.slice a l c],u.oneCell'=true:=by
 intro u b;simp at b;subst b;rfl
theorem ints1 (x:Int):∀u∈[I x],u.oneCell'=true:=by
 intro u a;simp at a;subst a;rfl
structure pF (w:World)(base:Nat)(x:Wx):Prop where
 ws:w.ownsRow base 89 1 (.slice x.wa x.wl.length x.wc) x.wl.length (aJ Yx.cells x.wl)
 yn:∀y∈x.wl,uH w base y
 ls:w.ownsRow base 3 1 (.slice x.la x.ll.length x.lc) x.ll.length (aJ dV x.ll)
 w1:1<=x.wl.length
 w3:x.wl.length<=3
 l1:1<=x.ll.length
 l3:x.ll.length<=3
 n3:x.n.size<=3
theorem GY {α:Type} {c:α->List Va} {sz:Nat} (d:∀a,ln (c a)=sz) {w:Wd} {base e:Nat} {a:Oa} {n b:Nat} {l:List α} (h:w.ownsRow base e sz (.slice a n b) (ln l) (aJ c l)):Xs sz c w a l:=by
 obtain⟨ao,cap,f,hx,_⟩:=mD d h;cases f;exact hx
theorem pF.in {w:Wd}{base:Nat}{x:Wx}(h:pF w base x):x.In w:=
 ⟨GY Yx.cells_length h.ws,λy a=>GY Cx.cells_length (h.yn y a).own,GY (c:=dV) (sz:=1) (λ_=>rfl) h.ls⟩
theorem pF.same {w w':Wd}{base:Nat}{x:Wx}(h:pF w base x)(c:∀k,base<=k->k<w.heap.size->w'.heap[k]?=w.heap[k]?):pF w' base x:=
 ⟨eZ h.ws (λk a b _ _=>c k a b),λy d=>(h.yn y d).same (λk a b _ _=>c k a b),eZ h.ls (λk a b _ _=>c k a b),h.w1,h.w3,h.l1,h.l3,h.n3⟩
theorem kN.fin {w d W:Wd}{R n cap:Nat}{ao:Oa}{q:Int}{B:Nat}{x:Wx}{fb:List (Nat×Fx)}(h:kN w d R n cap ao q B x fb)(f:R<w.heap.size)(b:Below w.heap.size d W)(c:∀k,k≠w.heap.size->W.heap[k]?=d.heap[k]?)(w1:1<=ln x.wl)(s:ln x.wl<=3)(m:1<=ln x.ll)(o:ln x.ll<=3)(r:x.n.size<=3):
 pF W w.heap.size x/\(∃e,e<=q/\Rd W R ao n cap e)/\aZ R w W:=by
 obtain⟨p,g,i⟩:=h.rd;have hl:=h.lt;refine⟨⟨iY (eZ h.ws (λk a _ _ _=>c k om)) om,λy l=>?_,iY (eZ h.ls (λk a _ _ _=>c k om)) om,w1,s,m,o,r⟩,⟨p,g,i.zL (b.mono f)⟩,⟨b.os.trans h.but.os,b.tape.trans h.but.tape,b.output.trans h.but.output,nlt h.but.size b.size,λk c j=>(b.block k c).trans (h.but.block k c j)⟩⟩;have a:=(h.yn y l).same (w':=W) (λk a _ _ _=>c k om);exact⟨iY a.own om,a.l1,a.l2,a.near⟩
theorem J5 (R n g:Nat)(C:Oa)(p zn:Int)(fl:List Fx)(fa:Oa)(fc:Nat)(w:Wd)(h:Rd w R C n g p)(hp:p<=800000)(hn0:-1000000<=zn)(hn1:zn<=1000000)(hF:∀w',aZ R w w'->Xs 3 Fx.cells w' fa fl)(zr:1<=ln fl)(hl2:ln fl<=100)(xp:∀f∈fl,rD ⟨f.x,f.y⟩):
 aW 24 #[E R 0,.slice fa (ln fl) fc,I zn] w λe w'=>∃x,e=rt (Wx.val x)/\pF w' w.heap.size x/\
  (∃p',p'<=p+1000/\Rd w' R C n g p')/\aZ R w w':=by
 have G:=h.lt;obtain⟨iw,qs,qx,zt,qy⟩:=info_parts Tryz.info89;obtain⟨ii,qq,qn,qo,qp⟩:=info_parts Tryz.info3
 obtain⟨bl,zp,rfl⟩:∃bl zp,fa=some (Y bl zp):=by
  rcases hF w (aZ.refl _ _)with h|⟨bl,zp,e,_⟩
  ·rw[h]at zr;simp at zr
  ·exact⟨bl,zp,e⟩
 have zh:Hid (∀W,aZ R w W->∀i (u:i<ln fl),bC W bl (zp+i*3) fl[i].cells):=λW d i u=>by
  rcases hF W d with h|⟨bl',off',e,hc⟩
  ·rw[h]at zr;simp at zr
  ·cases e;exact hc i u
 clear hF;have B1:aG w (w.alloc (.cells #[.string ⟨#[]⟩,I 0,I 0,I 0,I 0,I 0,ms,ms] 40)):=aC (br _ _) _
 have H:∃f,(w.alloc (.cells #[.string ⟨#[]⟩,I 0,I 0,I 0,I 0,I 0,ms,ms] 40)).rowIs w.heap.size 40 8 f:=
  RT w #[.string ⟨#[]⟩,I 0,I 0,I 0,I 0,I 0,ms,ms] 40
 obtain⟨U1,ym⟩:∃U,w.alloc (.cells #[.string ⟨#[]⟩,I 0,I 0,I 0,I 0,I 0,ms,ms] 40)=U:=⟨_,rfl⟩;have z1:U1.heap.size=w.heap.size+1:=by rw[←ym];simp
 rw[ym]at B1 H;have B2:aG w (U1.alloc (.cells #[.string ⟨#[97,49]⟩,.string ⟨#[98]⟩,.string ⟨#[99,45,99]⟩,.string ⟨#[100]⟩,.string ⟨#[101]⟩,.string ⟨#[102]⟩] 9)):=aC B1 _;have N2:=wnq U1 (.cells #[.string ⟨#[97,49]⟩,.string ⟨#[98]⟩,.string ⟨#[99,45,99]⟩,.string ⟨#[100]⟩,.string ⟨#[101]⟩,.string ⟨#[102]⟩] 9)
 have r2:∃f,(U1.alloc (.cells #[.string ⟨#[97,49]⟩,.string ⟨#[98]⟩,.string ⟨#[99,45,99]⟩,.string ⟨#[100]⟩,.string ⟨#[101]⟩,.string ⟨#[102]⟩] 9)).rowIs w.heap.size 40 8 f:=by
  obtain⟨f,hf⟩:=H;exact⟨f,hf.alloc _⟩
 obtain⟨U2,yn⟩:∃U,U1.alloc (.cells #[.string ⟨#[97,49]⟩,.string ⟨#[98]⟩,.string ⟨#[99,45,99]⟩,.string ⟨#[100]⟩,.string ⟨#[101]⟩,.string ⟨#[102]⟩] 9)=U:=⟨_,rfl⟩;rw[yn,z1]at N2;rw[yn]at B2 r2
 have ji:∀i,i<6->U2.cell? (Y (w.heap.size+1) i)=some (.string (yJ i)):=λi u=>by
  match i,u with
  |0,_|1,_|2,_|3,_|4,_|5,_=>exact objR N2 rfl
 have L:Rd U2 R C n g p:=h.zL (B2.mono G)
 go_enter func24,ntmps24
 go_wp2_with fail
 refine(QU R n g C p U2 L om (w.heap.size+1) 6 6 yJ om om om ji).mono ?_;rintro e w1 ⟨⟨i,-,rfl⟩,h1,T1⟩;obtain⟨nm,yw⟩:=bQ (yJ i);have xb:Hid (nm.size<=3):=by rw[Hid,yw];exact BG i
 rw[←yw];clear yw ji N2;go_wp2_with fail
 refine(bP R n g C _ _ _ h1 om om).mono ?_;rintro e w2 ⟨⟨a1,rfl,qf,yj,-⟩,h2,T2⟩
 replace yj:=yj om
 go_wp2_with fail
 refine(bP R n g C _ _ _ h2 om om).mono ?_;rintro e w3 ⟨⟨a2,rfl,qg,yk,-⟩,h3,T3⟩
 replace yk:=yk om
 go_wp2_with fail
 refine(bP R n g C _ _ _ h3 om om).mono ?_;rintro e A ⟨⟨a3,rfl,qh,yl,-⟩,h4,T4⟩
 replace yl:=yl om
 have TT:aZ R U2 A:=((T1.trans T2).trans T3).trans T4
 have r4:∃f,A.rowIs w.heap.size 40 8 f:=by
  obtain⟨f,hf⟩:=r2;exact⟨f,hf.of_block (TT.block _ hf.lt om)⟩
 have S0:=kN.start (q:=p+4) ((aZ.below B2).trans TT) h4 om r4 nm (1+a1) (zn+a2) a3;obtain⟨Z,AR⟩:∃x:Wx,x=⟨nm,1+a1,0,zn+a2,0,a3,none,[],0,none,[],0⟩:=⟨_,rfl⟩;rw[←AR]at S0;have M:=aI S0;have qu:1<=Z.q/\Z.q<=2:=by rw[AR];dsimp only;omega
 have xn:-1000000<=Z.f/\Z.f<=1000030:=by rw[AR];dsimp only;omega
 have xh:=aI AR;clear AR S0
 go_upto_region 2 with fail
 go_cut [] (λwx=>∃r:Int,0<=r/\r<3/\kN w wx R n g C (p+4+1) A.heap.size ({ Z with s:=Z.q+r}) [])
 case first=>
  refine wpIn_wide.1 (dA (F:=Fence.wide) (n:=0) kr [some 25,some 26,some 27,some 28,some 29,some 30,none] 10 [3,4,6] (V3 w R n g C (p+4) A.heap.size Z [] 3 Z.q (λr=>{ Z with s:=Z.q+r})) (PSet R A.heap.size 1 2 Z.q) kr kr dz ?loc ?h0 ?read ?eff ?fin dz)
  case loc=>exact KY
  case h0=>exact M.oQ.below (br _ _).drew G
  case read=>
   intro j o k m w' B hc hk Q z t;have hj:j<7:=(lgs.1 B).1
   match j,hj with
   |0,_|2,_|5,_=>
    cases B
    gi_wp2;exact⟨_,uhx,rfl⟩
   |1,_=>
    have N:k<3:=iJ Q (c:=6) dz kr;have yq:w'.cell? (ya A 1)=some (I Z.q):=(L0 z N).cell (i:=1) om
    cases B
    have d0:m 0=_:=(Zq t 0).1 dz;gi_wp2;exact⟨_,by simp[aH,d0],rfl⟩
   |3,_|4,_|6,_=>exact absurd hc dz
   |q+7,h=>omega
  case eff=>
   intro k i o m w' u B z t
   match k with
   |0=>
    simp at u;subst u
    cases B
    have d2:m 2=_:=t (eD 2) sm rfl dz;have d:kN w w' R n g C _ _ _ _:=z;obtain⟨p1,zs,T⟩:=d.rd;simp only[aD,Act.put];rw[d2];gi_wp2_with fail
    refine tqx ?_;refine(cw.2 (bP R n g C p1 3 w' T om om)).mono ?_;rintro e w1 ⟨⟨r,rfl,X,H,-⟩,L,B1⟩;have D:=d.next (q1:=p+4+1) B1 L om G
    replace H:=H om
    clear d z;gi_wp2;exact⟨I r,by simp[aH,d2],D,r,uhx,X,H⟩
   |1=>
    simp at u;subst u
    cases B
    obtain⟨d,r,d3,X,H⟩:=z;have d1:m 1=_:=t (eD 1) sm rfl dz;have D:Hid _:=d;clear d;simp only[aD,Act.put];rw[d1,d3];gi_wp2;exact⟨I (Z.q+r),by simp[aH,d1,d3],D.oQ,r,uhx,X,H⟩
   |2=>
    simp at u;subst u
    cases B
    obtain⟨d,r,V,X,H⟩:=z;have d5:m 5=_:=t (eD 5) sm rfl dz;have qk:=d.obj.cell (i:=2) om;have zm:=λi=>d.obj.frozen i;have D:Hid _:=d;clear d;simp only[aD,Act.put];rw[d5,V];gi_wp2;refine⟨undef,by simp[aH,d5,V],r,X,H,D.oQ.set G 2 _ (λj hj=>?_) rfl rfl rfl rfl rfl rfl⟩
    match j,hj with
    |0,_|1,_|2,_|3,_|4,_|5,_|6,_|7,_=>rfl
   |k+3=>simp at u
  case fin=>
   intro m w' z hP;simp only[aD,Act.put];generalize m 0=u0v,m 1=u1v,m 2=u2v,m 3=u3v,m 4=u4v,m 5=u5v;go_wp2_with fail
   go_meet
   exact z
 case rest=>
 obtain⟨b1,qi,qj,S1⟩:=hcut;clear M r4 TT T1 T2 T3 T4 h1 h2 h3 h4 B1 B2 H r2 ym yn z1 L;have yz:Hid (Z.n.size<=3/\(ln Z.wl)=0/\(ln Z.ll)=0):=by rw[xh.oQ];exact⟨xb.oQ,rfl,rfl⟩
 obtain⟨x1,zu⟩:∃x:Wx,x={ Z with s:=Z.q+b1}:=⟨_,rfl⟩;rw[←zu]at S1;have ql:-1000000<=x1.f/\x1.f<=1000030:=by rw[zu];exact xn
 have xa:Hid (x1.n.size<=3/\(ln x1.wl)=0/\(ln x1.ll)=0):=by rw[zu];exact yz.oQ
 have M:Hid (kN w wc R n g C (p+5) A.heap.size x1 []):=S1.wide om;clear S1 zu yz xh xb xn qu qi qj qf yj qg yk qh yl
 go_upto_region 3 with fail
 go_cut [] (λwx=>∃r:Int,0<=r/\r<6/\kN w wx R n g C (p+5+1) A.heap.size ({ x1 with b:=x1.f+r}) [])
 case first=>
  refine wpIn_wide.1 (dA (F:=Fence.wide) (n:=0) kr [some 31,some 32,some 33,some 34,some 35,some 36,none] 10 [3,4,6] (V3 w R n g C (p+5) A.heap.size x1 [] 6 x1.f (λr=>{ x1 with b:=x1.f+r})) (PSet R A.heap.size 3 4 x1.f) kr kr dz ?loc ?h0 ?read ?eff ?fin dz)
  case loc=>exact KY
  case h0=>exact M.oQ.below (br _ _).drew G
  case read=>
   intro j o k m w' B hc hk Q z t;have hj:j<7:=(lgs.1 B).1
   match j,hj with
   |0,_|2,_|5,_=>
    cases B
    gi_wp2;exact⟨_,uhx,rfl⟩
   |1,_=>
    have N:k<3:=iJ Q (c:=6) dz kr;have yq:w'.cell? (ya A 3)=some (I x1.f):=(L0 z N).cell (i:=3) om
    cases B
    have d0:m 0=_:=(Zq t 0).1 dz;gi_wp2;exact⟨_,by simp[aH,d0],rfl⟩
   |3,_|4,_|6,_=>exact absurd hc dz
   |q+7,h=>omega
  case eff=>
   intro k i o m w' u B z t
   match k with
   |0=>
    simp at u;subst u
    cases B
    have d2:m 2=_:=t (eD 2) sm rfl dz;have d:kN w w' R n g C _ _ _ _:=z;obtain⟨p1,zs,T⟩:=d.rd;simp only[aD,Act.put];rw[d2];gi_wp2_with fail
    refine tqx ?_;refine(cw.2 (bP R n g C p1 6 w' T om om)).mono ?_;rintro e w1 ⟨⟨r,rfl,X,H,-⟩,L,B1⟩;have D:=d.next (q1:=p+5+1) B1 L om G
    replace H:=H om
    clear d z;gi_wp2;exact⟨I r,by simp[aH,d2],D,r,uhx,X,H⟩
   |1=>
    simp at u;subst u
    cases B
    obtain⟨d,r,d3,X,H⟩:=z;have d1:m 1=_:=t (eD 1) sm rfl dz;have D:Hid _:=d;clear d;simp only[aD,Act.put];rw[d1,d3];gi_wp2;exact⟨I (x1.f+r),by simp[aH,d1,d3],D.oQ,r,uhx,X,H⟩
   |2=>
    simp at u;subst u
    cases B
    obtain⟨d,r,V,X,H⟩:=z;have d5:m 5=_:=t (eD 5) sm rfl dz;have qk:=d.obj.cell (i:=4) om;have zm:=λi=>d.obj.frozen i;have D:Hid _:=d;clear d;simp only[aD,Act.put];rw[d5,V];gi_wp2;refine⟨undef,by simp[aH,d5,V],r,X,H,D.oQ.set G 4 _ (λj hj=>?_) rfl rfl rfl rfl rfl rfl⟩
    match j,hj with
    |0,_|1,_|2,_|3,_|4,_|5,_|6,_|7,_=>rfl
   |k+3=>simp at u
  case fin=>
   intro m w' z hP;simp only[aD,Act.put];generalize m 0=u0v,m 1=u1v,m 2=u2v,m 3=u3v,m 4=u4v,m 5=u5v;go_wp2_with fail
   go_meet
   exact z
 case rest=>
 obtain⟨b2,b20,b21,S2⟩:=hcut;obtain⟨x2,yx⟩:∃x:Wx,x={ x1 with b:=x1.f+b2}:=⟨_,rfl⟩;rw[←yx]at S2;have zj:Hid (x2.n.size<=3/\(ln x2.wl)=0/\(ln x2.ll)=0):=by rw[yx];exact xa.oQ
 clear yx xa M ql;obtain⟨p4,hp4,xr⟩:=S2.rd;have xc:Hid _:=S2;clear S2;go_wp2_with fail
 refine(bP R n g C p4 _ _ xr om om).mono ?_;rintro e w5 ⟨⟨i1,rfl,ja,xy,-⟩,xs,T5⟩
 replace xy:=xy om
 obtain⟨i,rfl⟩:=ieo ja;have S3:=xc.oQ.next (q1:=p+7) T5 xs om G;have qr:i<ln fl:=om
 obtain⟨J,yr⟩:∃f,f=fl[i]:=⟨_,rfl⟩;obtain⟨k0,k1,k2⟩:=kH (zh.oQ _ S3.but i qr);rw[←yr]at k0 k1 k2;have qd:Hid (rD ⟨J.x,J.y⟩):=by rw[yr];exact xp _ (lgm _)
 clear yr;have S4:=S3.box G J;have xd:Hid _:=S4;obtain⟨p5,hp5,xt⟩:=S4.rd;clear S4 S3 xc xs T5 xr;go_wp2_with fail
 refine(bP R n g C p5 _ _ xt om om).mono ?_;rintro e w6 ⟨⟨i2,rfl,jb,xz,-⟩,xu,T6⟩
 replace xz:=xz om
 obtain⟨i',rfl⟩:=ieo jb;have S5:=xd.oQ.next (q1:=p+8) T6 xu om G;have xq:i'<ln fl:=om
 obtain⟨K,ys⟩:∃f,f=fl[i']:=⟨_,rfl⟩;clear k0 k1 k2;obtain⟨k0,k1,k2⟩:=kH (zh.oQ _ S5.but i' xq);rw[←ys]at k0 k1 k2;have qe:Hid (rD ⟨K.x,K.y⟩):=by rw[ys];exact xp _ (lgm _)
 clear ys;have S6:=S5.box G K;have xe:Hid _:=S6;obtain⟨p6,hp6,xv⟩:=S6.rd;clear S6 S5 xd xu T6 xt;go_wp2_with fail
 refine(bP R n g C p6 _ _ xv om om).mono ?_;rintro e w7 ⟨⟨i3,rfl,jc,qa,-⟩,xw,T7⟩
 replace qa:=qa om
 obtain⟨N0,rfl⟩:=ieo jc;have xf:Hid _:=xe.oQ.next (q1:=p+9) T7 xw om G;clear xe xw T7 xv k0 k1 k2;go_wp2_with fail
 go_loopg [10] (1+N0) (λk i wr=>∃x:Wx,i=I (k:Int)/\(ln x.wl)+k=1+N0/\x.n.size<=3/\(ln x.ll)=0/\kN w wr R n g C (p+9+241*(ln x.wl:Int)) A.heap.size x [(w6.heap.size,K),(w5.heap.size,J)])
 case atStart=>exact⟨x2,gn,by rw[zj.oQ.2.1];omega,zj.oQ.1,zj.oQ.2.2,by rw[zj.oQ.2.1];simpa using xf.oQ⟩
 case round=>
  clear xf zj;obtain⟨x,rfl,hN,yv,yu,S⟩:=hrel;have zq:=aI yu;have zk:=aI hN;have zv:ln x.wl<=3:=om
  have qm:gk<=3:=om
  by_cases hk:0<gk
  ·have xx:ln x.wl<=2:=om
   clear hN yu;obtain⟨q,hq⟩:=bQ (p+9+241*(ln x.wl:Int):Int);have qv:q<=801000:=om
   rw[←hq]at S;have HQ:=aI hq;have M:=aI S;clear S hq
   go_upto_region 9 with fail
   refine wpIn_wide.1 (dA (F:=Fence.wide) (n:=0) kr [some 58,some 59,some 60,some 61,some 62,some 63,some 64,some 65,some 66,some 67,some 68,some 69,some 70,some 71,none] 16 [4,6,8,9,10,11,12,14] (S9 w R n g C (q) A.heap.size x [(w6.heap.size,K),(w5.heap.size,J)] J K) (P9 R A.heap.size x J K) kr kr dz ?loc ?h0 ?read ?eff ?fin dz)
   case loc=>exact S9_loc
   case h0=>exact M.oQ.below (br _ _).drew G
   case read=>
    intro j o k m w' B hc hk Q z t;have hj:j<15:=(lgs.1 B).1
    match j,hj with
    |0,_|2,_|7,_|13,_=>
     cases B
     gi_wp2;exact⟨_,uhx,rfl⟩
    |1,_=>
     have N:k<8:=iJ Q (c:=14) dz kr;have yq:w'.cell? (ya A 6)=some (.slice (x).wa (x).wl.length (x).wc):=(QL z N).1.cell (i:=6) om
     cases B
     have d0:m 0=_:=(Zq t 0).1 dz;gi_wp2;exact⟨_,by simp[aH,d0],rfl⟩
    |3,_=>
     have N:k<8:=iJ Q (c:=14) dz kr;have P:=(QL z N).2 (w5.heap.size,J) sm;have m0:w'.cell? (ya w5 0)=some (.string J.n):=P.cell (i:=0) om;have m1:w'.cell? (ya w5 1)=some (I J.x):=P.cell (i:=1) om;have m2:w'.cell? (ya w5 2)=some (I J.y):=P.cell (i:=2) om;clear P
     cases B
     gi_wp2;exact⟨_,uhx,rfl⟩
    |4,_|6,_|8,_|9,_|10,_|11,_|12,_|14,_=>exact absurd hc dz
    |5,_=>
     have N:k<8:=iJ Q (c:=14) dz kr;have P:=(QL z N).2 (w6.heap.size,K) sm;have m0:w'.cell? (ya w6 0)=some (.string K.n):=P.cell (i:=0) om;have m1:w'.cell? (ya w6 1)=some (I K.x):=P.cell (i:=1) om;have m2:w'.cell? (ya w6 2)=some (I K.y):=P.cell (i:=2) om;clear P
     cases B
     gi_wp2;exact⟨_,uhx,rfl⟩
    |q+15,h=>omega
   case eff=>
    intro k i o m w' u B z t
    match k with
    |0=>
     simp at u;subst u
     cases B
     have d3:m 3=_:=t (eD 3) sm rfl dz;have d:kN w w' R n g C (q) A.heap.size x [(w6.heap.size,K),(w5.heap.size,J)]:=z;simp only[aD,Act.put];rw[d3];gi_wp2_with fail
     refine tqx ?_;refine(cw.2 (WG J w')).mono ?_;rintro e w1 ⟨rfl,yp⟩;have D:=d.below yp G;clear d z;gi_wp2;exact⟨Cx.val ⟨J.x,J.y⟩,by simp[aH,d3],D,uhx⟩
    |1=>
     simp at u;subst u
     cases B
     have d5:m 5=_:=t (eD 5) sm rfl dz;obtain⟨d,V⟩:=z;simp only[aD,Act.put];rw[d5];gi_wp2_with fail
     refine tqx ?_;refine(cw.2 (WG K w')).mono ?_;rintro e w1 ⟨rfl,yp⟩;have D:=d.below yp G;have D4:Hid _:=V;clear d V;gi_wp2;exact⟨Cx.val ⟨K.x,K.y⟩,by simp[aH,d5,D4.out],D,by simp[aH];exact D4.out,uhx⟩
    |2=>
     simp at u;subst u
     cases B
     have d7:m 7=_:=t (eD 7) sm rfl dz;obtain⟨d,V,d6⟩:=z;obtain⟨p1,zs,T⟩:=d.rd;simp only[aD,Act.put];rw[d7];gi_wp2_with fail
     refine tqx ?_;refine(cw.2 (bP R n g C p1 4 w' T om om)).mono ?_;rintro e w1 ⟨⟨r,rfl,X,H,-⟩,L,B1⟩;have D:=d.next (q1:=q+1) B1 L om G
     replace H:=H om
     have D4:Hid _:=V;have D6:Hid _:=d6;clear d V d6;gi_wp2;exact⟨I r,by simp[aH,d7,D4.out,D6.out],D,by simp[aH];exact D4.out,by simp[aH];exact D6.out,r,uhx,X,H⟩
    |3=>
     simp at u;subst u
     cases B
     have d2:m 2=_:=t (eD 2) sm rfl dz;obtain⟨d,V,d6,r,d8,X,H⟩:=z;obtain⟨p1,zs,T⟩:=d.rd;simp only[aD,Act.put];rw[d2,V,d6,d8];gi_wp2_with fail
     refine tqx ?_;refine(cw.2 (YV R n g C p1 r ⟨J.x,J.y⟩ ⟨K.x,K.y⟩ w' T om qd.oQ qe.oQ X om)).mono ?_;rintro e w1 ⟨⟨v,cs,rfl,O1,c1,c2,c3⟩,⟨p2,hp2,L⟩,B1⟩;obtain⟨jh,yc,rfl⟩:=nI O1;have D:=d.next (q1:=q+241) B1 L om G;have HY:uH w1 (A.heap.size+1) ⟨jh,cs,yc⟩:=⟨iY O1 d.obj.lt,c1,c2,c3⟩;clear d O1 c3;gi_wp2;exact⟨.slice jh (ln cs) yc,by simp[aH,d2,V,d6,d8],D,⟨jh,cs,yc⟩,uhx,HY⟩
    |4=>
     simp at u;subst u
     cases B
     obtain⟨d,y,d9,hY⟩:=z;have D:Hid _:=d;have HY:Hid _:=hY;clear d hY;simp only[aD,Act.put];rw[d9];gi_wp2;exact⟨y.val,by simp[aH,d9],D.oQ,y,uhx,HY.oQ⟩
    |5=>
     simp at u;subst u
     cases B
     obtain⟨d,y,xj,hY⟩:=z;have D:Hid _:=d;have HY:Hid _:=hY;clear d hY;simp only[aD,Act.put];rw[xj];gi_wp2;exact⟨(sl w'.heap.size 0 1 1),by simp[aH,xj],w',y,D.oQ,HY.oQ,rfl,uhx⟩
    |6=>
     simp at u;subst u
     cases B
     obtain⟨wp,y,d,hY,rfl,xk⟩:=z;have d1:m 1=_:=t (eD 1) sm rfl dz;have hO:=d.ws;have qt:=d.obj.lt;have D:Hid _:=d;have HY:Hid _:=hY;clear d hY;simp only[aD,Act.put,sit,lcs,lcz];rw[d1,xk];refine wpListIn_append_own _ rfl (.tmp 59) (.tmp 69) 37 rfl (A.heap.size+1) 89 iw _ 1 24 underlying37 qs qx zt qy rfl dz _ _ _ rfl (hO.alloc _) (ya wp 0) 1 1 [.slice y.a (ln y.l) y.c] rfl rfl (news1 wp _ _) (slice1 _ _ _) (by unfold maxLen;omega) om so ?_;intro v' w1 O zc _;obtain⟨va,vc,rfl⟩:=nI O;refine⟨.slice va (ln x.wl+1) vc,by simp[aH,d1,xk,Act.put],wp,y,va,vc,D.oQ,HY.oQ,uhx,zc,O⟩
    |7=>
     simp at u;subst u
     cases B
     obtain⟨wp,y,va,vc,d,hY,xl,hg,zb⟩:=z;have xm:m 13=_:=t (eD 13) sm rfl dz;have zd:=d.obj.of_block (jK d.ws hg d.obj.lt (iK d.obj dz));have hc6:=zd.cell (i:=6) om;have zm:=λi=>zd.frozen i;have HN:=d.addWay G _ y hY va vc hg zb;have yg:Hid _:=HN;clear HN d hY hg zb zd;simp only[aD,Act.put];rw[xm,xl];gi_wp2;exact⟨undef,by simp[aH,xm,xl],y,va,vc,yg.oQ⟩
    |k+8=>simp at u
   case fin=>
    intro m w' z hP;simp only[aD,Act.put];generalize m 0=u0v,m 1=u1v,m 2=u2v,m 3=u3v,m 4=u4v,m 5=u5v,m 6=u6v,m 7=u7v,m 8=u8v,m 9=u9v,m 10=u10v,m 11=u11v,m 12=u12v,m 13=u13v;have hcut:=z;clear z hP;obtain⟨y,va,vc,S'⟩:=hcut;have yh:Hid _:=S';clear S';go_wp2
    go_roundg (gk-1)
    case measure=>omega
    case rel=>exact⟨{ x with wa:=va,wl:=x.wl++[y],wc:=vc},gn,by show(ln (x.wl++[y]))+_=_;rw[lla];have:=zk.oQ;show(ln x.wl)+1+_=_;omega,yv,zq.oQ,yh.oQ.wide (by show q+241<=p+9+241*(ln (x.wl++[y]):Int);rw[HQ.oQ,lla];show _<=p+9+241*((ln x.wl+1:Nat):Int);omega)⟩
  ·have yt:gk=0:=om
   subst yt;clear hk;have zt:1<=ln x.wl:=om
   obtain⟨p8,hp8,zw⟩:=S.rd;have M:Hid _:=S;clear S hN yu zk;go_wp2_with fail
   refine(bP R n g C p8 _ _ zw om om).mono ?_;rintro e w8 ⟨⟨i4,rfl,jd,qb,-⟩,zx,T8⟩
   replace qb:=qb om
   obtain⟨M0,rfl⟩:=ieo jd;have xg:Hid _:=M.oQ.next (q1:=p+800) T8 zx om G;clear M zw zx T8;go_wp2_with fail
   go_loopg [11] (1+M0) (λk i wr=>∃x:Wx,i=I (k:Int)/\(ln x.ll)+k=1+M0/\x.n.size<=3/\1<=ln x.wl/\(ln x.wl)<=3/\kN w wr R n g C (p+800+(ln x.ll:Int)) A.heap.size x [(w6.heap.size,K),(w5.heap.size,J)])
   case atStart=>exact⟨x,gn,by rw[zq.oQ];omega,yv,zt,zv,by rw[zq.oQ];simpa using xg.oQ⟩
   case round=>
    clear xg zq zt zv yv;obtain⟨x,rfl,hN,n3,w1,w3,S⟩:=hrel;have zk:=aI hN;have zv:ln x.ll<=3:=om
    have qm:gk<=3:=om
    by_cases hk:0<gk
    ·have xx:ln x.ll<=2:=om
     clear hN;obtain⟨q,hq⟩:=bQ (p+800+(ln x.ll:Int):Int);have qv:q<=802000:=om
     rw[←hq]at S;have HQ:=aI hq;have M:=aI S;clear S hq
     go_upto_region 13 with fail
     refine wpIn_wide.1 (dA (F:=Fence.wide) (n:=0) kr [some 79,some 80,some 81,some 82,some 83,some 84,some 85,some 86,none] 10 [3,4,5,6,8] (S13 w R n g C (q) A.heap.size x [(w6.heap.size,K),(w5.heap.size,J)]) (P13 R A.heap.size x) kr kr dz ?loc ?h0 ?read ?eff ?fin dz)
     case loc=>exact S13_loc
     case h0=>exact M.oQ.below (br _ _).drew G
     case read=>
      intro j o k m w' B hc hk Q z t;have hj:j<9:=(lgs.1 B).1
      match j,hj with
      |0,_|2,_|7,_=>
       cases B
       gi_wp2;exact⟨_,uhx,rfl⟩
      |1,_=>
       have N:k<5:=iJ Q (c:=8) dz kr;have yq:w'.cell? (ya A 7)=some (.slice (x).la (x).ll.length (x).lc):=(ZU z N).cell (i:=7) om
       cases B
       have d0:m 0=_:=(Zq t 0).1 dz;gi_wp2;exact⟨_,by simp[aH,d0],rfl⟩
      |3,_|4,_|5,_|6,_|8,_=>exact absurd hc dz
      |q+9,h=>omega
     case eff=>
      intro k i o m w' u B z t
      match k with
      |0=>
       simp at u;subst u
       cases B
       have d2:m 2=_:=t (eD 2) sm rfl dz;have d:kN w w' R n g C (q) A.heap.size x [(w6.heap.size,K),(w5.heap.size,J)]:=z;obtain⟨p1,zs,T⟩:=d.rd;simp only[aD,Act.put];rw[d2];gi_wp2_with fail
       refine tqx ?_;refine(cw.2 (bP R n g C p1 4 w' T om om)).mono ?_;rintro e w1 ⟨⟨r,rfl,X,H,-⟩,L,B1⟩;have D:=d.next (q1:=q+1) B1 L om G
       replace H:=H om
       clear d z;gi_wp2;exact⟨I r,by simp[aH,d2],D,r,uhx,X,H⟩
      |1=>
       simp at u;subst u
       cases B
       obtain⟨d,r,d3,X,H⟩:=z;have D:Hid _:=d;clear d;simp only[aD,Act.put];rw[d3];gi_wp2;exact⟨I (1+r),by simp[aH,d3],D.oQ,1+r,uhx⟩
      |2=>
       simp at u;subst u
       cases B
       obtain⟨d,r,V⟩:=z;have D:Hid _:=d;clear d;simp only[aD,Act.put];rw[V];gi_wp2;exact⟨(sl w'.heap.size 0 1 1),by simp[aH,V],w',r,D.oQ,rfl,uhx⟩
      |3=>
       simp at u;subst u
       cases B
       obtain⟨wp,r,d,rfl,d5⟩:=z;have d1:m 1=_:=t (eD 1) sm rfl dz;have hO:=d.ls;have qt:=d.obj.lt;have D:Hid _:=d;clear d;simp only[aD,Act.put,sit,lcs,lcz];rw[d1,d5];refine wpListIn_append_own _ rfl (.tmp 80) (.tmp 84) 38 rfl (A.heap.size+1) 3 ii _ 1 8 underlying38 qq qn qo qp rfl dz _ _ _ rfl (hO.alloc _) (ya wp 0) 1 1 [I r] rfl rfl (news1 wp _ _) (ints1 _) (by unfold maxLen;omega) om so ?_;intro v' w1 O zc _;obtain⟨va,vc,rfl⟩:=nI O;refine⟨.slice va (ln x.ll+1) vc,by simp[aH,d1,d5,Act.put],wp,r,va,vc,D.oQ,uhx,zc,O⟩
      |4=>
       simp at u;subst u
       cases B
       obtain⟨wp,r,va,vc,d,d6,hg,zb⟩:=z;have d7:m 7=_:=t (eD 7) sm rfl dz;have zd:=d.obj.of_block (jK d.ls hg d.obj.lt (iK d.obj dz));have hc7:=zd.cell (i:=7) om;have zm:=λi=>zd.frozen i;have HN:=d.addLev G _ r va vc hg zb;have yg:Hid _:=HN;clear HN d hg zb zd;simp only[aD,Act.put];rw[d7,d6];gi_wp2;exact⟨undef,by simp[aH,d7,d6],r,va,vc,yg.oQ⟩
      |k+5=>simp at u
     case fin=>
      intro m w' z hP;simp only[aD,Act.put];generalize m 0=u0v,m 1=u1v,m 2=u2v,m 3=u3v,m 4=u4v,m 5=u5v,m 6=u6v,m 7=u7v;have hcut:=z;clear z hP;obtain⟨y,va,vc,S'⟩:=hcut;have yh:Hid _:=S';clear S';go_wp2
      go_roundg (gk-1)
      case measure=>omega
      case rel=>exact⟨{ x with la:=va,ll:=x.ll++[y],lc:=vc},gn,by show(ln (x.ll++[y]))+_=_;rw[lla];have:=zk.oQ;show(ln x.ll)+1+_=_;omega,n3,w1,w3,yh.oQ.wide (by show q+1<=p+800+(ln (x.ll++[y]):Int);rw[HQ.oQ,lla];show _<=p+800+((ln x.ll+1:Nat):Int);omega)⟩
    ·have yt:gk=0:=om
     subst yt;clear hk;have l1:1<=ln x.ll:=om
     have l3:ln x.ll<=3:=om
     obtain⟨p9,hp9,zy⟩:=S.rd;have M:Hid _:=S;clear S hN zk;go_wp2_with fail
     refine(bP R n g C p9 _ _ zy om om).mono ?_;rintro e w9 ⟨⟨i5,rfl,i50,i51,-⟩,zz,T9⟩;have zl:Hid (kN w w9 R n g C (p+810) A.heap.size x [(w6.heap.size,K),(w5.heap.size,J)]):=M.oQ.next T9 zz om G;have HP:Hid (x.n.size<=3/\1<=ln x.wl/\(ln x.wl)<=3/\1<=ln x.ll/\(ln x.ll)<=3):=⟨n3,w1,w3,l1,l3⟩;clear M zy zz T9 n3 w1 w3 l1 l3 zv
     go_upto_if 89 with fail
     go_cut [] (λwx=>∃x:Wx,(x.n.size<=3/\1<=ln x.wl/\(ln x.wl)<=3/\1<=ln x.ll/\(ln x.ll)<=3)/\kN w wx R n g C (p+810) A.heap.size x [(w6.heap.size,K),(w5.heap.size,J)])
     case first=>
      by_cases hz:i5=0
      ·subst hz
       have c5:=zl.oQ.obj.cell (i:=5) om;have zm:=λi=>zl.oQ.obj.frozen i;go_wp2
       go_meet
       refine⟨{ x with l:=300},HP.oQ,zl.oQ.set G 5 _ (λj hj=>?_) rfl rfl rfl rfl rfl rfl⟩
       match j,hj with
       |0,_|1,_|2,_|3,_|4,_|5,_|6,_|7,_=>rfl
      ·have qz:(i5==0)=false:=by simp[hz]
       go_wp2
       go_meet
       exact⟨x,HP.oQ,zl.oQ⟩
     case rest=>
     clear HP zl;obtain⟨x,HP,S⟩:=hcut;obtain⟨je,hp10,yb⟩:=S.rd;have M:Hid _:=S;clear S;go_wp2_with fail
     refine(bP R n g C je _ _ yb om om).mono ?_;rintro e jg ⟨⟨i6,rfl,i60,i61,-⟩,yd,T10⟩;have ze:Hid (kN w jg R n g C (p+811) A.heap.size x [(w6.heap.size,K),(w5.heap.size,J)]):=M.oQ.next T10 yd om G;clear M yb yd T10
     go_upto_if 93 with fail
     go_cut [] (λwx=>∃x:Wx,(x.n.size<=3/\1<=ln x.wl/\(ln x.wl)<=3/\1<=ln x.ll/\(ln x.ll)<=3)/\kN w wx R n g C (p+820) A.heap.size x [(w6.heap.size,K),(w5.heap.size,J)])
     case first=>
      by_cases hz:i6=0
      ·subst hz
       obtain⟨jf,hp11,ye⟩:=ze.oQ.rd;go_wp2_with fail
       refine(bP R n g C jf _ _ ye om om).mono ?_;rintro e yy ⟨⟨i7,rfl,i70,qc,-⟩,yf,xi⟩
       replace qc:=qc om
       have zg:=ze.oQ.next (q1:=p+820) xi yf om G;have c3:=zg.obj.cell (i:=3) om;have zm:=λi=>zg.obj.frozen i
       have za:kN w (yy.setCell (ya A 3) (I (10000-i7))) R n g C (p+820) A.heap.size { x with f:=10000-i7} [(w6.heap.size,K),(w5.heap.size,J)]:=zg.set G 3 _ (λj hj=>by
        match j,hj with
        |0,_|1,_|2,_|3,_|4,_|5,_|6,_=>rfl
        |7,_=>rfl) rfl rfl rfl rfl rfl rfl
       have d3:(yy.setCell (ya A 3) (I (10000-i7))).cell? (ya A 3)=some (I (10000-i7)):=za.obj.cell (i:=3) om;have V:(yy.setCell (ya A 3) (I (10000-i7))).cell? (ya A 4)=some (I x.b):=za.obj.cell (i:=4) om;have hfs:=λi=>za.obj.frozen i;have yi:Hid _:=za;clear za zg ye yf xi;go_wp2
       go_meet
       refine⟨{ x with f:=10000-i7,b:=10000-i7},HP,yi.oQ.set G 4 _ (λj hj=>?_) rfl rfl rfl rfl rfl rfl⟩
       match j,hj with
       |0,_|1,_|2,_|3,_|4,_|5,_|6,_|7,_=>rfl
      ·have qz:(i6==0)=false:=by simp[hz]
       go_wp2
       go_meet
       exact⟨x,HP,ze.oQ.wide om⟩
     case rest=>
     clear ze HP;obtain⟨x,⟨n3,w1,w3,l1,l3⟩,S⟩:=hcut;have M:=aI S;clear S;obtain⟨zf,Z0⟩:=M.oQ.res;have HO:=M.oQ.obj;have o0:wc.cell? (ya A 0)=some (.string x.n):=HO.cell (i:=0) om;have o1:wc.cell? (ya A 1)=some (I x.q):=HO.cell (i:=1) om;have o2:wc.cell? (ya A 2)=some (I x.s):=HO.cell (i:=2) om;have o3:wc.cell? (ya A 3)=some (I x.f):=HO.cell (i:=3) om;have o4:wc.cell? (ya A 4)=some (I x.b):=HO.cell (i:=4) om;have o5:wc.cell? (ya A 5)=some (I x.l):=HO.cell (i:=5) om;have o6:wc.cell? (ya A 6)=some (.slice x.wa (ln x.wl) x.wc):=HO.cell (i:=6) om;have o7:wc.cell? (ya A 7)=some (.slice x.la (ln x.ll) x.lc):=HO.cell (i:=7) om;have g0:=Z0.cell (i:=0) om;have t0:=λi=>Z0.frozen i;have Z1:=Z0.set 0 (.string x.n);have g1:=Z1.cell (i:=1) om;have t1:=λi=>Z1.frozen i;have Z2:=Z1.set 1 (I x.q);have g2:=Z2.cell (i:=2) om;have t2:=λi=>Z2.frozen i;have Z3:=Z2.set 2 (I x.s);have g3:=Z3.cell (i:=3) om;have t3:=λi=>Z3.frozen i;have Z4:=Z3.set 3 (I x.f);have g4:=Z4.cell (i:=4) om;have t4:=λi=>Z4.frozen i;have Z5:=Z4.set 4 (I x.b);have g5:=Z5.cell (i:=5) om;have t5:=λi=>Z5.frozen i;have Z6:=Z5.set 5 (I x.l);have g6:=Z6.cell (i:=6) om;have t6:=λi=>Z6.frozen i;have Z7:=Z6.set 6 (.slice x.wa (ln x.wl) x.wc);have g7:=Z7.cell (i:=7) om;have t7:=λi=>Z7.frozen i;have Z8:=Z7.set 7 (.slice x.la (ln x.ll) x.lc);obtain⟨W8,yo⟩:∃W,((((((((wc.setCell (ya w 0) (.string x.n)).setCell (ya w 1) (I x.q)).setCell (ya w 2) (I x.s)).setCell (ya w 3) (I x.f)).setCell (ya w 4) (I x.b)).setCell (ya w 5) (I x.l)).setCell (ya w 6) (.slice x.wa (ln x.wl) x.wc)).setCell (ya w 7) (.slice x.la (ln x.ll) x.lc))=W:=⟨_,rfl⟩;rw[yo]at Z8;have e0:W8.cell? (ya w 0)=some (.string x.n):=(Z8.cell (i:=0) om).trans sm;have e1:W8.cell? (ya w 1)=some (I x.q):=(Z8.cell (i:=1) om).trans sm;have e2:W8.cell? (ya w 2)=some (I x.s):=(Z8.cell (i:=2) om).trans sm;have e3:W8.cell? (ya w 3)=some (I x.f):=(Z8.cell (i:=3) om).trans sm;have e4:W8.cell? (ya w 4)=some (I x.b):=(Z8.cell (i:=4) om).trans sm;have e5:W8.cell? (ya w 5)=some (I x.l):=(Z8.cell (i:=5) om).trans sm;have e6:W8.cell? (ya w 6)=some (.slice x.wa (ln x.wl) x.wc):=(Z8.cell (i:=6) om).trans sm;have e7:W8.cell? (ya w 7)=some (.slice x.la (ln x.ll) x.lc):=(Z8.cell (i:=7) om).trans sm;have BW:Below w.heap.size wc W8:=by rw[←yo];exact((((((((br w.heap.size wc).setCell (p:=(ya w 0)) (nlq _) _).setCell (p:=(ya w 1)) (nlq _) _).setCell (p:=(ya w 2)) (nlq _) _).setCell (p:=(ya w 3)) (nlq _) _).setCell (p:=(ya w 4)) (nlq _) _).setCell (p:=(ya w 5)) (nlq _) _).setCell (p:=(ya w 6)) (nlq _) _).setCell (p:=(ya w 7)) (nlq _) _
     have KW:∀k,k≠w.heap.size->W8.heap[k]?=wc.heap[k]?:=λk hk=>by rw[←yo];exact(((((((bhs _ _ _ _ hk).trans (bhs _ _ _ _ hk)).trans (bhs _ _ _ _ hk)).trans (bhs _ _ _ _ hk)).trans (bhs _ _ _ _ hk)).trans (bhs _ _ _ _ hk)).trans (bhs _ _ _ _ hk)).trans (bhs _ _ _ _ hk)
     have zi:Hid _:=M.oQ.fin G BW KW w1 w3 l1 l3 n3;clear Z0 Z1 Z2 Z3 Z4 Z5 Z6 Z7 Z8 HO BW KW M;go_wp2_with fail
     refine bpr (v:=x.val) (by simp[results,results24,go_sem,e0,e1,e2,e3,e4,e5,e6,e7]) rfl ⟨x,rfl,zi.oQ.1,?_,zi.oQ.2.2⟩;obtain⟨p',hp',qw⟩:=zi.oQ.2.1;exact⟨p',om,qw⟩
