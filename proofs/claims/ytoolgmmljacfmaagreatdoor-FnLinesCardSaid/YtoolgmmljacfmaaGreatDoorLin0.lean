import Derived.Test.YtoolgmmljacfmaaGreatDoorRows
import Derived.Test.YtoolgmmljacfmaaGreatDoorCards
import Derived.Test.YtoolgmmljacfmaaGreatDoorTie
import Derived.OpenShut
import Derived.ShutString
import Derived.ChangeOld
import Derived.ChangeSame
import Derived.ChangeVars
import Derived.JoinedOf
import Derived.LaidLaws
import Derived.LaidHandle
import Derived.Stop.Joined
import Derived.SevenTiedAt
import Derived.Shelf.Vars
import Derived.Lib.LaidTab
import Derived.Deep.Slices
import Derived.Test.YtoolgmmljacfmaaGreatDoorZi
set_option maxRecDepth 100000
open Go.Proofs.Tryz Go.RowKit
namespace Go.Proofs.YtoolgmmljacfmaaGreatDoor
open Go.ChangeShapes Go.WideShapes Go.ChangeAt Go.Deep
theorem Tryz.own:ownKnob prog.godebug=none:=kr
theorem Tryz.laidOut:laidOutB prog=true:=kr
theorem Tryz.et:prog.globalNamed "errors.errorType"=some 3:=kr
theorem Tryz.pw:prog.globalNamed "internal/strconv.uint64pow10"=some 4:=kr
theorem Tryz.pt:(prog.globals[4]?).map (·.type)=some 307:=kr
theorem Tryz.rt:(prog.cutTypes.find? (·.1== "internal/reflectlite.rtype")).map (·.2)=some 313:=kr
theorem Tryz.oneRow:((List.range 367).filter λt=>prog.rowNamed t [101,114,114,111,114])=[62]:=kr
theorem Tryz.tsize:prog.types.size=367:=kr
def oE:List (String×DataW Unit):=[("math/bits.deBruijn32tab",Rows.laid_math_bits_deBruijn32tab),("math/bits.deBruijn64tab",Rows.laid_math_bits_deBruijn64tab),("internal/strconv.uint64pow10",Rows.laid_internal_strconv_uint64pow10),("unicode/utf8.acceptRanges",Rows.laid_unicode_utf8_acceptRanges),("errors.errorType",Rows.laid_errors_errorType),("unicode/utf8.first",Rows.laid_unicode_utf8_first)]
def JJ:List (String×DataW Unit):=[("math/bits.deBruijn32tab",Rows.laid_math_bits_deBruijn32tab),("math/bits.deBruijn64tab",Rows.laid_math_bits_deBruijn64tab),("internal/strconv.uint64pow10",Rows.laid_internal_strconv_uint64pow10),("unicode/utf8.acceptRanges",Rows.laid_unicode_utf8_acceptRanges),("unicode/utf8.first",Rows.laid_unicode_utf8_first)]
theorem L3:(oE.filter λx=>x.2.handleName?.isNone)=JJ:=kr
theorem KO:(oE.filter λx=>x.2.handleName?.isSome)=[("errors.errorType",Rows.laid_errors_errorType)]:=kr
theorem SU {W:Wd}(h:laidMetH prog oE W):laidMet prog JJ W/\handlesMet prog [("errors.errorType",Rows.laid_errors_errorType)] W:=by
 unfold laidMetH at h;rw[KO,L3]at h;exact h
theorem ZK {W:Wd}(h:handlesMet prog [("errors.errorType",Rows.laid_errors_errorType)] W):l8 W:=by
 obtain⟨a,u,k,d,e,f,g,b⟩:=h _ (lms.2 rfl);have i:a=[101,114,114,111,114]:=(osi d).symm;subst i;obtain rfl:=osi (Tryz.rt.symm.trans e);have c:k∈(List.range 367).filter λt=>prog.rowNamed t [101,114,114,111,114]:=List.mem_filter.2 ⟨lmr.2 (by rw[←Tryz.tsize];exact f),g⟩;rw[Tryz.oneRow]at c;obtain rfl:=lms.1 c;have j:typeHandle prog 62=(E 7 62):=kr;rw[j]at b;unfold l8;simpa using World.var?_cell Tryz.et b 0
theorem tab_of {W:Wd}(h:laidMet prog JJ W):Lib.TabIs prog W "internal/strconv.uint64pow10" .u64 Lib.pow10Tab:=by
 obtain⟨ps,⟨_,_,_,_,_,_,_,_,_,_,⟨_,_,_,_,_,_,_,_,_,_,⟨g,t,cs,fuel,p,q,c,d,a,b,_⟩,_⟩,_⟩,_⟩:=h;obtain rfl:=osi (Tryz.pw.symm.trans c);obtain rfl:=osi (Tryz.pt.symm.trans d);unfold Lib.TabIs;rw[a,←Lib.cells_of_tab (k:=.u64) (zs:=Lib.pow10Tab) underlying307 underlying255 kr kr b]
theorem env_of {W:Wd}(h:laidMetH prog oE W)(a:W.ShapedOpen prog):zP W:=by
 obtain⟨b,c⟩:=SU h;refine⟨ZK c,tab_of b,cell_of_shapedOpen_int (P:=prog) (g:=0) (t:=3) (zero:=#[I 0]) a (of_decide_eq_true kr) kr rfl kr kr underlying3,?_⟩;obtain⟨o,_,e,_⟩:=a.2 7 (of_decide_eq_true kr) (of_decide_eq_true kr);have:=(cE e);omega
def litC:DataW Unit->List Value
 | .lit (.int k z)=>[.int k z]
 |_=>[]
def rowC:DataW Unit->List Value
 | .agg l=>l.flatMap litC
 |d=>litC d
def YU:DataW Unit->Array Value
 | .agg l=>(l.flatMap rowC).toArray
 |d=>(rowC d).toArray
def SA (g:Nat)(cs:Array Value)(w:World):World:={ w with heap:=w.heap.modify g λ
 | .cells _ t frozen=>.cells cs t frozen
 |o=>o}
noncomputable def LU (os:Os):World:=SA 1 (YU Rows.laid_unicode_utf8_first) (SA 2 (YU Rows.laid_unicode_utf8_acceptRanges) (SA 3 #[.iface 313 (.agg #[E 7 62])] (SA 4 (YU Rows.laid_internal_strconv_uint64pow10) (SA 5 (YU Rows.laid_math_bits_deBruijn32tab) (SA 6 (YU Rows.laid_math_bits_deBruijn64tab) (World.holding prog os ⟨#[],#[],[]⟩))))))
theorem JF (os:Os)(args:Array Va):laidMetH prog oE ((LU os).forCall (λ_ _=>0) ⟨#[],args,[]⟩).memory:=
 laidMetH_of_parts (by rw[L3];exact laidMet_of_run' 8 kr kr) (by rw[KO];kernel_rfl)
theorem CF {H:Type} {enc:TypeId×Va->H} {a:Assume} {C:Go.Checked} {os:Os} {f:FuncId} {p:Func} {s:ChangeSpec} {l:List PathCond} {b m g k:Bool} {X:Wd->Array Va->Prop}
 (L:∀(w w':Wd) (args:Array Va),w.heap=w'.heap->X w args->X w' args)
 (J:ownKnob C.prog.godebug=none) (n:os.Started) (q:C.prog.inits.idxOf? f=none) (B:C.prog.funcs[f]?=some p)
 (o:∃(w:Wd) (c:Tape) (i:Input),w.os=os/\(w.forCall c i).Shaped C.prog/\i.vars=[]/\Input.okWide C.prog (w.forCall c i) .any w.heap.size f i/\
  ((s.pre enc C.prog p l b (w.forCall c i).memory i.args/\X (w.forCall c i).memory i.args)/\sizedMet enc C.prog p (OpenSpec.ofChange s) b (w.forCall c i).memory i.args)/\a.holds C.prog (lone (Frame.enter C.prog f i.args .normal) [] (w.forCall c i)))
 (h:∀(W:Wd) (base:Nat) (args:Array Va) (y A:List (DataW H)) (d:List MemPlace),
  (∀(j:Nat) t v,p.params[j]?=some t->args[j]?=some v->Value.okWide C.prog W .any base t v)->
  DataW.Whole enc C.prog p.params.toList s.vars b W args.toList y A d->X W args->W.ShapedOpen C.prog->
  Calls C.prog f args W λe K=>∃v,e=rt v/\s.post enc C.prog p b m g k W args v K):
 ReturnsInHanded a C os f .any (λw args=>(s.pre enc C.prog p l b w args/\X w args)/\sizedMet enc C.prog p (OpenSpec.ofChange s) b w args) (s.post enc C.prog p b m g k):=by
 refine returnsInHanded_of_calls J n q o ?_;intro w c i _ F _ D u _;obtain⟨_,_,_,z,r,_,_,_,_,x⟩:=D;have e:z=p:=osi (r.symm.trans B);subst e;obtain⟨⟨⟨y,A,d,O,hc⟩,hx⟩,hz⟩:=u;have G:=DataW.Whole.of_heap (w':=w.forCall c i) (by rfl) O;refine(h (w.forCall c i) w.heap.size i.args y A d x G (L _ _ _ (by rfl) hx) F).mono λe K ⟨v,M,N⟩=>?_;subst M;exact ChangeSpec.post_blind N
theorem PE:prog.cellsOf 5=1:=kr
section
variable {H:Type}{enc:TypeId×Va->H}{w:Wd}{base:Nat}{spare:Nat->Bool}{held:Bool}
theorem OO {e:Nat}{a:Oa}{c d:Nat}{x:DataW H×List MemPlace}(h:DataW.trod enc prog w base spare held e 22 [.slice a c d]=some x):
 wQ w a c/\c<=d/\d<=maxLen:=by
 rcases open_slice1 underlying22 PE h with⟨b,_⟩|⟨s,len',cap',m,n,V,D,Pl,b,_,y,A,j,_,f⟩
 ·simp at b;obtain⟨rfl,rfl,rfl⟩:=b;exact⟨.inl rfl,nlq _,nz _⟩
 ·simp at b;obtain⟨rfl,rfl,rfl⟩:=b;have hlm:c<=m:=by rw[j];split<;>omega
  refine⟨?_,y,A⟩;by_cases v:c=0;·exact .inl v
  obtain⟨t,o,g⟩:=s
  have k:g=none:=by
   have u:=(f 0 om).1;have k:=World.cell?_spot u;simpa[Addr.add]using k
  subst k;refine .inr ⟨t,o,rfl,λi hi=>?_⟩;obtain⟨q,B⟩:=f i om;obtain⟨z,r,_,l⟩:=DataW.trod_int underlying5 B;simp at r;rw[r,aal]at q
  have p:0<=z/\z<=255:=by
   simp[Lit.wf,IntKind.min,IntKind.max,IntKind.bits,IntKind.signed]at l;omega
  exact⟨z,p.1,p.2,q⟩
end
theorem O9 (os:Os)(d:os.Started)(H:Type)(enc:TypeId×Va->H):
 ReturnsInHanded {} Tryz.checked os 3 .any (λw args=>(Rows.fnLinesSpec.pre enc prog Tryz.f3 [] false w args/\laidMetH prog oE w)/\sizedMet enc prog Tryz.f3 (OpenSpec.ofChange Rows.fnLinesSpec) false w args)
  (Rows.fnLinesSpec.post enc prog Tryz.f3 false true false false):=by
 refine CF (C:=Tryz.checked) (X:=λw _=>laidMetH prog oE w) (λ_ _ _ L h=>h.of_heap L) Tryz.own d kr func3
  (ChangeSpec.witness_at (enc:=enc) (C:=Tryz.checked) (os:=os) (X:=λw _=>laidMetH prog oE w) false (LU os) #[ms] 8 rfl kr kr kr kr kr (JF os _)) ?_
 intro W base args F gs before b y k l;have f:∀(j:Nat) t v,Tryz.f3.params[j]?=some t->args[j]?=some v->Value.okWide prog W .any base t v:=b;have n:=y;obtain⟨p,q,i,G,rfl,hfz,hnd⟩:=y;have u:DataW.TrodAll enc prog W 0 (λ_=>true) true Tryz.f3.params.toList args.toList F p:=i;rw[Tryz.params3]at u f;obtain⟨B,vs0,d0,ds0,O,q0,hargs,rfl,rfl,s,P⟩:=trodAll_cons u;obtain⟨rfl,rfl,rfl⟩:=trodAll_nil P;obtain rfl:args=#[B]:=by cases args;simp_all
 obtain⟨rfl,rfl⟩:=trodVars_none G;obtain⟨r,c,a,rfl⟩:=okWide_slice underlying22 (f 0 22 B rfl rfl);have z:=s;have o:∀x∈O,x.block<W.heap.size:=by obtain⟨m,M⟩:=z;exact DataW.trod_lt m _ _ _ M
 obtain⟨D,N,A⟩:wQ W r c/\c<=a/\a<=maxLen:=by
  obtain⟨fuel,K⟩:=s;exact OO (by simpa[Value.cells]using K)
 unfold maxLen at A;clear i b;refine(GU c a r W (env_of k l) D N A).mono λe W' ⟨J,g⟩=>?_;subst J;exact⟨_,rfl,_,_,_,[],_,[],n,trodAll_mk1 (shut_bool underlying4 _),(trodAll_cons_mk (Below.trod Tryz.laidOut kr (of_decide_eq_true kr) z g o) trodAll_mk0),rfl,g.frame _,λh=>by cases h⟩
