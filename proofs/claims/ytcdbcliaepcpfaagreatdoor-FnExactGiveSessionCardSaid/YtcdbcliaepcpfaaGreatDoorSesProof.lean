import Derived.Test.YtcdbcliaepcpfaaGreatDoorRows
import Derived.Test.YtcdbcliaepcpfaaGreatDoorCards
import Derived.Test.YtcdbcliaepcpfaaGreatDoorTie
import Derived.ProofKit
import Derived.OpenShut
import Derived.ShutString
import Derived.ChangeOld
import Derived.ChangeSame
import Derived.ChangeVars
import Derived.JoinedOf
import Derived.LaidLaws
import Derived.LaidHandle
import Derived.Stop.Joined
import Derived.SevenTiedAt
import Derived.Shelf.Vars
import Derived.Lib.LaidTab
import Derived.Test.YtcdbcliaepcpfaaGreatDoorZn
namespace Go.Proofs.YtcdbcliaepcpfaaGreatDoor
set_option maxRecDepth 100000
open Go.ChangeShapes Go.WideShapes Go.ChangeAt Go.RowKit
theorem Tryz.own:ownKnob Tryz.prog.godebug=none:=by kernel_rfl
theorem Tryz.laidOut:laidOutB Tryz.prog=true:=by kernel_rfl
theorem Tryz.et:Tryz.prog.globalNamed "errors.errorType"=some 3:=by kernel_rfl
theorem Tryz.pw:Tryz.prog.globalNamed "internal/strconv.uint64pow10"=some 4:=by kernel_rfl
theorem Tryz.pt:(Tryz.prog.globals[4]?).map (·.type)=some 290:=by kernel_rfl
theorem Tryz.rt:(Tryz.prog.cutTypes.find? (·.1== "internal/reflectlite.rtype")).map (·.2)=some 296:=by kernel_rfl
theorem Tryz.oneRow:((List.range 350).filter λt=>Tryz.prog.rowNamed t [101,114,114,111,114])=[46]:=by kernel_rfl
theorem Tryz.tsize:Tryz.prog.types.size=350:=by kernel_rfl
def nO:List (String×DataW Unit):=[("math/bits.deBruijn32tab",Rows.laid_math_bits_deBruijn32tab),("math/bits.deBruijn64tab",Rows.laid_math_bits_deBruijn64tab),("internal/strconv.uint64pow10",Rows.laid_internal_strconv_uint64pow10),("unicode/utf8.acceptRanges",Rows.laid_unicode_utf8_acceptRanges),("errors.errorType",Rows.laid_errors_errorType),("unicode/utf8.first",Rows.laid_unicode_utf8_first)]
def F3:List (String×DataW Unit):=[("math/bits.deBruijn32tab",Rows.laid_math_bits_deBruijn32tab),("math/bits.deBruijn64tab",Rows.laid_math_bits_deBruijn64tab),("internal/strconv.uint64pow10",Rows.laid_internal_strconv_uint64pow10),("unicode/utf8.acceptRanges",Rows.laid_unicode_utf8_acceptRanges),("unicode/utf8.first",Rows.laid_unicode_utf8_first)]
theorem JY:(nO.filter λx=>x.2.handleName?.isNone)=F3:=by kernel_rfl
theorem JJ:(nO.filter λx=>x.2.handleName?.isSome)=[("errors.errorType",Rows.laid_errors_errorType)]:=by kernel_rfl
theorem O7 {W:World}(h:laidMetH Tryz.prog nO W):laidMet Tryz.prog F3 W/\handlesMet Tryz.prog [("errors.errorType",Rows.laid_errors_errorType)] W:=by
 unfold laidMetH at h;rw[JJ,JY]at h;exact h
theorem VM {W:World}(h:handlesMet Tryz.prog [("errors.errorType",Rows.laid_errors_errorType)] W):j9 W:=by
 obtain⟨a,u,k,d,e,f,g,b⟩:=h _ (List.mem_singleton.2 rfl);have i:a=[101,114,114,111,114]:=(Option.some.inj d).symm;subst i;obtain rfl:=Option.some.inj (Tryz.rt.symm.trans e);have c:k∈(List.range 350).filter λt=>Tryz.prog.rowNamed t [101,114,114,111,114]:=List.mem_filter.2 ⟨List.mem_range.2 (by rw[←Tryz.tsize];exact f),g⟩;rw[Tryz.oneRow]at c;obtain rfl:=List.mem_singleton.1 c;have j:typeHandle Tryz.prog 46=.pointer (some ⟨7,46,none⟩):=by kernel_rfl
 rw[j]at b;unfold j9;simpa using World.var?_cell Tryz.et b 0
theorem XP {W:World}(h:laidMet Tryz.prog F3 W):Lib.TabIs Tryz.prog W "internal/strconv.uint64pow10" .u64 Lib.pow10Tab:=by
 obtain⟨ps,⟨_,_,_,_,_,_,_,_,_,_,⟨_,_,_,_,_,_,_,_,_,_,⟨g,t,cs,fuel,p,q,c,d,a,b,_⟩,_⟩,_⟩,_⟩:=h;obtain rfl:=Option.some.inj (Tryz.pw.symm.trans c);obtain rfl:=Option.some.inj (Tryz.pt.symm.trans d);unfold Lib.TabIs;rw[a,←Lib.cells_of_tab (k:=.u64) (zs:=Lib.pow10Tab) Tryz.underlying290 Tryz.underlying238 (by kernel_rfl) (by kernel_rfl) b]
theorem XJ {W:World}(h:laidMetH Tryz.prog nO W)(a:W.ShapedOpen Tryz.prog):yL W:=by
 obtain⟨b,c⟩:=O7 h;refine⟨VM c,XP b,cell_of_shapedOpen_int (P:=Tryz.prog) (g:=0) (t:=3) (zero:=#[.int .i64 0]) a (of_decide_eq_true (by kernel_rfl)) (by kernel_rfl) rfl (by kernel_rfl) (by kernel_rfl) Tryz.underlying3,?_⟩;obtain⟨o,_,e,_⟩:=a.2 7 (of_decide_eq_true (by kernel_rfl)) (of_decide_eq_true (by kernel_rfl));have:=(bU e);omega
def YV:DataW Unit->List Value
 | .lit (.int k z)=>[.int k z]
 |_=>[]
def YM:DataW Unit->List Value
 | .agg l=>l.flatMap YV
 |d=>YV d
def TG:DataW Unit->Array Value
 | .agg l=>(l.flatMap YM).toArray
 |d=>(YM d).toArray
def RV (g:Nat)(cs:Array Value)(w:World):World:={ w with heap:=w.heap.modify g λ
 | .cells _ t frozen=>.cells cs t frozen
 |o=>o}
noncomputable def GX (os:Os):World:=RV 1 (TG Rows.laid_unicode_utf8_first) (RV 2 (TG Rows.laid_unicode_utf8_acceptRanges) (RV 3 #[.iface 296 (.agg #[.pointer (some ⟨7,46,none⟩)])] (RV 4 (TG Rows.laid_internal_strconv_uint64pow10) (RV 5 (TG Rows.laid_math_bits_deBruijn32tab) (RV 6 (TG Rows.laid_math_bits_deBruijn64tab) (World.holding Tryz.prog os ⟨#[],#[],[]⟩))))))
theorem EW (os:Os)(args:Array Value):laidMetH Tryz.prog nO ((GX os).forCall (λ_ _=>0) ⟨#[],args,[]⟩).memory:=
 laidMetH_of_parts (by rw[JY];exact laidMet_of_run' 8 (by kernel_rfl) (by kernel_rfl)) (by rw[JJ];kernel_rfl)
theorem AQ {H:Type} {enc:TypeId×Value->H} {a:Assume} {C:Go.Checked} {os:Os} {f:FuncId} {p:Func} {s:ChangeSpec} {l:List PathCond} {b m g k:Bool} {X:World->Array Value->Prop}
 (J:∀(w w':World) (args:Array Value),w.heap=w'.heap->X w args->X w' args)
 (G:ownKnob C.prog.godebug=none) (n:os.Started) (q:C.prog.inits.idxOf? f=none) (B:C.prog.funcs[f]?=some p)
 (o:∃(w:World) (c:Tape) (i:Input),w.os=os/\(w.forCall c i).Shaped C.prog/\i.vars=[]/\Input.okWide C.prog (w.forCall c i) .any w.heap.size f i/\
  ((s.pre enc C.prog p l b (w.forCall c i).memory i.args/\X (w.forCall c i).memory i.args)/\sizedMet enc C.prog p (OpenSpec.ofChange s) b (w.forCall c i).memory i.args)/\a.holds C.prog (lone (Frame.enter C.prog f i.args .normal) [] (w.forCall c i)))
 (h:∀(W:World) (base:Nat) (args:Array Value) (y A:List (DataW H)) (d:List MemPlace),
  (∀(j:Nat) t v,p.params[j]?=some t->args[j]?=some v->Value.okWide C.prog W .any base t v)->
  DataW.Whole enc C.prog p.params.toList s.vars b W args.toList y A d->X W args->W.ShapedOpen C.prog->
  Calls C.prog f args W λe I=>∃v,e=.returned v/\s.post enc C.prog p b m g k W args v I):
 ReturnsInHanded a C os f .any (λw args=>(s.pre enc C.prog p l b w args/\X w args)/\sizedMet enc C.prog p (OpenSpec.ofChange s) b w args) (s.post enc C.prog p b m g k):=by
 refine returnsInHanded_of_calls G n q o ?_;intro w c i _ E _ D u _;obtain⟨_,_,_,z,r,_,_,_,_,x⟩:=D;have e:z=p:=Option.some.inj (r.symm.trans B);subst e;obtain⟨⟨⟨y,A,d,M,hc⟩,hx⟩,hz⟩:=u;have F:=DataW.Whole.of_heap (w':=w.forCall c i) (by rfl) M;refine(h (w.forCall c i) w.heap.size i.args y A d x F (J _ _ _ (by rfl) hx) E).mono λe I ⟨v,K,L⟩=>?_;subst K;exact ChangeSpec.post_blind L
theorem LF (os:Os)(b:os.Started)(H:Type)(enc:TypeId×Value->H):
 ReturnsInHanded {} Tryz.checked os 3 .any (λw args=>(Rows.fnExactGiveSessionSpec.pre enc Tryz.prog Tryz.f3 [] false w args/\laidMetH Tryz.prog nO w)/\sizedMet enc Tryz.prog Tryz.f3 (OpenSpec.ofChange Rows.fnExactGiveSessionSpec) false w args)
  (Rows.fnExactGiveSessionSpec.post enc Tryz.prog Tryz.f3 false true false false):=by
 refine AQ (C:=Tryz.checked) (X:=λw _=>laidMetH Tryz.prog nO w) (λ_ _ _ B h=>h.of_heap B) Tryz.own b (by kernel_rfl) Tryz.func3
  (ChangeSpec.witness_at (enc:=enc) (C:=Tryz.checked) (os:=os) (X:=λw _=>laidMetH Tryz.prog nO w) false (GX os) #[.string ByteArray.empty] 8 rfl (by kernel_rfl) (by kernel_rfl) (by kernel_rfl) (by kernel_rfl) (by kernel_rfl) (EW os _)) ?_
 intro W base args u gs before a o g i;have c:∀(j:Nat) t v,Tryz.f3.params[j]?=some t->args[j]?=some v->Value.okWide Tryz.prog W .any base t v:=a;have k:=o;obtain⟨p,q,f,z,rfl,hfz,hnd⟩:=o;have n:DataW.TrodAll enc Tryz.prog W 0 (λ_=>true) true Tryz.f3.params.toList args.toList u p:=f;rw[Tryz.params3]at n c;obtain⟨s,vs0,d0,ds0,E,q0,hargs,rfl,rfl,y,F⟩:=trodAll_cons n;obtain⟨rfl,rfl,rfl⟩:=trodAll_nil F;obtain rfl:args=#[s]:=by cases args;simp_all
 obtain⟨rfl,rfl⟩:=trodVars_none z;obtain⟨G,rfl⟩:=okWide_string Tryz.underlying9 (c 0 9 s rfl rfl);have r:=y;have l:∀x∈E,x.block<W.heap.size:=by obtain⟨m,D⟩:=r;exact DataW.trod_lt m _ _ _ D
 clear f a;refine(zW G W (XJ g i)).mono λe W' ⟨A,d⟩=>?_;subst A;exact⟨_,rfl,_,_,_,[],_,[],k,trodAll_mk1 (shut_bool Tryz.underlying4 _),(trodAll_cons_mk (Below.trod Tryz.laidOut (by kernel_rfl) (of_decide_eq_true (by kernel_rfl)) r d l) trodAll_mk0),rfl,d.frame _,λh=>by cases h⟩
theorem RU:Rows.FnExactGiveSessionSaid:=
 OpenClaim.holds_of_wide 3 Tryz.f3 rfl rfl rfl rfl rfl rfl rfl ⟨rfl,rfl,rfl,rfl,rfl⟩ rfl rfl rfl rfl rfl (by kernel_rfl) Tryz.func3 (by kernel_rfl)
  (of_decide_eq_true (by kernel_rfl)) (by unfold Func.isWrapper;first|(rw[if_pos (by decide+kernel)];kernel_rfl)|(rw[if_neg (by decide+kernel)];exact⟨rfl,rfl⟩))
  (λos a H enc _=>LF os a H enc)
theorem ses_card:Rows.FnExactGiveSessionCardSaid:=
 Claim7.holds_tied_plain_at .later [] [.data,.data,.data,.data,.handle,.pinned] true (true,"677e80134c58adb4f5ae8d8ee60455b9e4a6acf6ed1bbbbd60774b465f7517fa") true
  RU (λ_ h=>by cases h) (by kernel_rfl) (λ_ h=>by cases h) fnExactGiveSession_row_tie rfl ⟨rfl,rfl⟩ (by kernel_rfl) rfl
  (λf c d a=>by
   obtain rfl:f=3:=Option.some.inj ((show Tryz.prog.funcNamed "loop.example/lapgive/laws.FnExactGiveSession"=some 3 by kernel_rfl).symm.trans d) |>.symm;obtain rfl:c=Tryz.f3:=(Option.some.inj (Tryz.func3.symm.trans a)).symm
   exact⟨by kernel_rfl,λj t b=>by
    rw[Tryz.params3]at b;rcases j with _|j
    ·obtain rfl:t=9:=by simpa using b.symm
     exact(show Tryz.prog.wantsStandIn 9=false by kernel_rfl)
    ·simp at b⟩)
  (by kernel_rfl)
end Go.Proofs.YtcdbcliaepcpfaaGreatDoor
