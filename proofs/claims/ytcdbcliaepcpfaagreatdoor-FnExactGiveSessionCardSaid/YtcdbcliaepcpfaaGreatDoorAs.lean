import Derived.WalkKit
import Derived.LaidEql
import Derived.Stop.Asserts
import Derived.RowKitTokens
import Derived.Test.YtcdbcliaepcpfaaGreatDoorSq
namespace Go.Proofs.YtcdbcliaepcpfaaGreatDoor
set_option maxHeartbeats 4000000
open Go.RowKit Go.Extern.Stop Go.Stop Go.Extern
set_option maxRecDepth 100000
def j9 (w:World):Prop:=w.cell? ⟨3,0,none⟩=some (.iface 296 (.agg #[.pointer (some ⟨7,46,none⟩)]))
theorem j9.zL {w w':World}(h:j9 w)(a:aF w w'):j9 w':=(a.cell (aA h)).trans h
theorem B5 {W:World}{t:Addr}{a v:Value}(h:W.cell? t=some a):(W.setCell t v).cell? t=some v:=World.cell?_setCell_same W t v h
theorem XM (t:Value)(w:World):
 aY 180 #[.nilIface,t] w λe w'=>e=.returned (.bool false)/\w'=w:=by
 go_enter Tryz.func180,Tryz.ntmps180;go_wp2;go_ret;exact⟨rfl,rfl⟩
theorem Tryz.valueOfP (t:Addr)(w:World):(ReflectliteValue.unpack (.iface 215 (.pointer (some t)))).run Tryz.prog w
 =.ok (.agg #[.pointer (some ⟨7,215,none⟩),.pointer (some ⟨w.heap.size,0,none⟩),.int .u64 150]) (w.alloc (.cells #[.pointer (some t)] 215)):=by kernel_rfl
theorem Tryz.typeP (a:Addr)(w:World):(ReflectliteValue.methodAny (ReflectliteValue.valueError "reflectlite.Value.Type" 0) (λt _ _ _=>ReflectliteType.toType t) #[.agg #[.pointer (some ⟨7,215,none⟩),.pointer (some a),.int .u64 150]]).run Tryz.prog w
 =.ok (.iface 296 (.agg #[.pointer (some ⟨7,215,none⟩)])) w:=by kernel_rfl
theorem Tryz.methodKind (h:Value)(w:World):(Go.method 450 296 (.agg #[h]) "Kind").run Tryz.prog w=.ok (287,h) w:=by kernel_rfl
theorem Tryz.kindP (w:World):((ReflectliteType.abiMethod λt=>(λa:Nat=>Value.int IntKind.u8 (a:Int))<$>Rtype.kind t) #[.pointer (some ⟨7,215,none⟩)]).run Tryz.prog w=.ok (.int .u8 22) w:=by kernel_rfl
theorem Tryz.kindR (w:World):((ReflectliteType.abiMethod λt=>(λa:Nat=>Value.int IntKind.u8 (a:Int))<$>Rtype.kind t) #[.pointer (some ⟨7,176,none⟩)]).run Tryz.prog w=.ok (.int .u8 2) w:=by kernel_rfl
theorem ZQ (z:Sem Value)(f:TypeId->Addr->Nat->Nat->Sem Value)(v:Value):
 ReflectliteValue.method z f #[v]=(do match←ReflectliteValue.parts v with|none=>z|some (t,a,fl)=>f t a fl (fl%32)):=rfl
theorem Tryz.partsP (a:Addr)(w:World):(ReflectliteValue.parts (.agg #[.pointer (some ⟨7,215,none⟩),.pointer (some a),.int .u64 150])).run Tryz.prog w=.ok (some (215,a,150)) w:=by kernel_rfl
theorem Tryz.isNilP (a p:Addr)(W:World)(ha:W.cell? a=some (.pointer (some p))):
 (ReflectliteValue.method (ReflectliteValue.valueError "reflectlite.Value.IsNil" 0) ReflectliteValue.isNil #[.agg #[.pointer (some ⟨7,215,none⟩),.pointer (some a),.int .u64 150]]).run Tryz.prog W=.ok (.bool false) W:=by
 rw[ZQ];simp only[Sem.run_bind,Tryz.partsP,Result.andThen];simp[ReflectliteValue.isNil,loadVar,isAgg,underlying,Tryz.underlying215,ha,Result.andThen]
theorem Tryz.methodElem (h:Value)(w:World):(Go.method 450 296 (.agg #[h]) "Elem").run Tryz.prog w=.ok (305,.agg #[h]) w:=by kernel_rfl
theorem Tryz.methodImplements (h:Value)(w:World):(Go.method 450 296 (.agg #[h]) "Implements").run Tryz.prog w=.ok (306,.agg #[h]) w:=by kernel_rfl
theorem Tryz.methodAssignableTo (h:Value)(w:World):(Go.method 450 296 (.agg #[h]) "AssignableTo").run Tryz.prog w=.ok (303,.agg #[h]) w:=by kernel_rfl
theorem Tryz.elemP (w:World):(ReflectliteType.method ReflectliteType.elem #[.agg #[.pointer (some ⟨7,215,none⟩)]]).run Tryz.prog w=.ok (.iface 296 (.agg #[.pointer (some ⟨7,176,none⟩)])) w:=by kernel_rfl
theorem Tryz.implementsR (w:World):(ReflectliteType.relation "Implements" ReflectliteType.implements_ #[.agg #[.pointer (some ⟨7,176,none⟩)],.iface 296 (.agg #[.pointer (some ⟨7,46,none⟩)])]).run Tryz.prog w=.ok (.bool true) w:=by kernel_rfl
theorem Tryz.typeOfR (v:Value)(w:World):(ReflectliteType.typeOf #[.iface 176 v]).run Tryz.prog w=.ok (.iface 296 (.agg #[.pointer (some ⟨7,176,none⟩)])) w:=by kernel_rfl
theorem Tryz.assignableR (w:World):(ReflectliteType.relation "AssignableTo" ReflectliteType.assignableTo #[.agg #[.pointer (some ⟨7,176,none⟩)],.iface 296 (.agg #[.pointer (some ⟨7,176,none⟩)])]).run Tryz.prog w=.ok (.bool true) w:=by kernel_rfl
theorem Tryz.valueOfR (c:Int)(w:World):(ReflectliteValue.unpack (.iface 176 (.int .i64 c))).run Tryz.prog w
 =.ok (.agg #[.pointer (some ⟨7,176,none⟩),.pointer (some ⟨w.heap.size,0,none⟩),.int .u64 130]) (w.alloc (.cells #[.int .i64 c] 176)):=by kernel_rfl
theorem Tryz.elemOfP (w:World):(Rtype.elem? 215).run Tryz.prog w=.ok (some 176) w:=by kernel_rfl
theorem Tryz.mkR (p:Addr)(w:World):(ReflectliteValue.mk 176 p ReflectliteValue.flagAddr).run Tryz.prog w=.ok (.agg #[.pointer (some ⟨7,176,none⟩),.pointer (some p),.int .u64 386]) w:=by kernel_rfl
theorem Tryz.elemVP (a p:Addr)(W:World)(ha:W.cell? a=some (.pointer (some p))):
 (ReflectliteValue.method (ReflectliteValue.valueError "reflectlite.Value.Elem" 0) ReflectliteValue.elem #[.agg #[.pointer (some ⟨7,215,none⟩),.pointer (some a),.int .u64 150]]).run Tryz.prog W
  =.ok (.agg #[.pointer (some ⟨7,176,none⟩),.pointer (some p),.int .u64 386]) W:=by
 rw[ZQ];simp only[Sem.run_bind,Tryz.partsP,Result.andThen];simp[ReflectliteValue.elem,loadVar,isAgg,underlying,Tryz.underlying215,ha,Result.andThen,Tryz.elemOfP,Tryz.mkR]
theorem rls (v x:Value):ReflectliteValue.set #[v,x]=(do
 let(some (dst,a,fl),some (src,b,_)):=(←ReflectliteValue.parts v,←ReflectliteValue.parts x)
  |unsupported (.noEntry "extern/(internal/reflectlite.Value).Set.zeroValue")
 if fl/ReflectliteValue.flagAddr%2==0 then unsupported (.noEntry "extern/(internal/reflectlite.Value).Set.unaddressable")
 let val ←loadVar src b
 if←Rtype.directlyAssignable dst src then storeVar dst a val
 else if←Rtype.implements dst src then
  if(←Rtype.kind src)==20 then
   match val with
   | .nilIface=>unsupported (.noEntry "extern/reflectlite: a nil value of one interface type handed on as a value of another")
   |_=>storeVar dst a val
  else storeVar dst a (.iface src val)
 else panicString ("reflectlite.Set: value of type "++(←Rtype.spelt src)++ " is not assignable to type "++(←Rtype.spelt dst))
 pure (.tuple #[])):=rfl
theorem Tryz.partsRa (a:Addr)(w:World):(ReflectliteValue.parts (.agg #[.pointer (some ⟨7,176,none⟩),.pointer (some a),.int .u64 386])).run Tryz.prog w=.ok (some (176,a,386)) w:=by kernel_rfl
theorem Tryz.partsR (a:Addr)(w:World):(ReflectliteValue.parts (.agg #[.pointer (some ⟨7,176,none⟩),.pointer (some a),.int .u64 130])).run Tryz.prog w=.ok (some (176,a,130)) w:=by kernel_rfl
theorem Tryz.directR (w:World):(Rtype.directlyAssignable 176 176).run Tryz.prog w=.ok true w:=by kernel_rfl
theorem Tryz.setR (ta b:Addr)(c:Int)(a:Value)(W:World)(d:W.cell? b=some (.int .i64 c))(f:W.cell? ta=some a)(e:W.frozen? ta=false):
 (ReflectliteValue.set #[.agg #[.pointer (some ⟨7,176,none⟩),.pointer (some ta),.int .u64 386],.agg #[.pointer (some ⟨7,176,none⟩),.pointer (some b),.int .u64 130]]).run Tryz.prog W
  =.ok (.tuple #[]) (W.setCell ta (.int .i64 c)):=by
 rw[rls];simp only[Sem.run_bind,Tryz.partsRa,Tryz.partsR,Result.andThen];simp[ReflectliteValue.flagAddr,loadVar,isAgg,underlying,Tryz.underlying176,d,Result.andThen,Tryz.directR,storeVar,Value.cells,storeCells,Addr.add];rw[run_store Tryz.prog W ta _ _ (by rfl)];simp[f,e]
theorem W8 (c:Int)(t:Addr)(d:Value)(w:World)(f:j9 w)(a:w.cell? t=some d)(e:w.frozen? t=false):
 aY 180 #[.iface 176 (.int .i64 c),.iface 215 (.pointer (some t))] w λi w'=>i=.returned (.bool true)/\w'=((((w.alloc (.cells #[.pointer (some t)] 215)).alloc (.cells #[.pointer (some ⟨7,215,none⟩),.pointer (some ⟨w.heap.size,0,none⟩),.int .u64 150] 272)).alloc (.cells #[.pointer (some ⟨7,215,none⟩),.pointer (some ⟨w.heap.size,0,none⟩),.int .u64 150] 272)).alloc (.cells #[.int .i64 c] 176)).setCell t (.int .i64 c):=by
 unfold j9 at f;have hVO:=@run_callFunc_extern Tryz.prog 230 _ (λargs=>ReflectliteValue.unpack (args.getD 0 (.tuple #[]))) Tryz.func230 (by kernel_rfl) (by kernel_rfl) (by kernel_rfl) (by kernel_rfl);have hTY:=@run_callFunc_extern Tryz.prog 231 _ (ReflectliteValue.methodAny (ReflectliteValue.valueError "reflectlite.Value.Type" 0) (λt _ _ _=>ReflectliteType.toType t)) Tryz.func231 (by kernel_rfl) (by kernel_rfl) (by kernel_rfl) (by kernel_rfl);have hNI:=@run_callFunc_extern Tryz.prog 232 _ (ReflectliteValue.method (ReflectliteValue.valueError "reflectlite.Value.IsNil" 0) ReflectliteValue.isNil) Tryz.func232 (by kernel_rfl) (by kernel_rfl) (by kernel_rfl) (by kernel_rfl);have hKI:=@run_callFunc_extern Tryz.prog 287 _ (ReflectliteType.abiMethod λt=>do pure (.int .u8 (←Rtype.kind t))) Tryz.func287 (by kernel_rfl) (by kernel_rfl) (by kernel_rfl) (by kernel_rfl);have hEL:=@run_callFunc_extern Tryz.prog 305 _ (ReflectliteType.method ReflectliteType.elem) Tryz.func305 (by kernel_rfl) (by kernel_rfl) (by kernel_rfl) (by kernel_rfl);have hIM:=@run_callFunc_extern Tryz.prog 306 _ (ReflectliteType.relation "Implements" ReflectliteType.implements_) Tryz.func306 (by kernel_rfl) (by kernel_rfl) (by kernel_rfl) (by kernel_rfl);have hTO:=@run_callFunc_extern Tryz.prog 253 _ ReflectliteType.typeOf Tryz.func253 (by kernel_rfl) (by kernel_rfl) (by kernel_rfl) (by kernel_rfl);have hAT:=@run_callFunc_extern Tryz.prog 303 _ (ReflectliteType.relation "AssignableTo" ReflectliteType.assignableTo) Tryz.func303 (by kernel_rfl) (by kernel_rfl) (by kernel_rfl) (by kernel_rfl);have hVE:=@run_callFunc_extern Tryz.prog 254 _ (ReflectliteValue.method (ReflectliteValue.valueError "reflectlite.Value.Elem" 0) ReflectliteValue.elem) Tryz.func254 (by kernel_rfl) (by kernel_rfl) (by kernel_rfl) (by kernel_rfl);have hSE:=@run_callFunc_extern Tryz.prog 255 _ ReflectliteValue.set Tryz.func255 (by kernel_rfl) (by kernel_rfl) (by kernel_rfl) (by kernel_rfl);have tO:=Tryz.typeOfR;have mA:=Tryz.methodAssignableTo;have a25:=Tryz.assignableR;have v25:=Tryz.valueOfR;have f6:=Tryz.valueOfP;have f7:=Tryz.typeP;have mK:=Tryz.methodKind;have mE:=Tryz.methodElem;have mI:=Tryz.methodImplements;have k27:=Tryz.kindP;have k25:=Tryz.kindR;have e27:=Tryz.elemP;have i25:=Tryz.implementsR;have n8:=Tryz.isNilP ⟨w.heap.size,0,none⟩ t ((w.alloc (.cells #[.pointer (some t)] 215)).alloc (.cells #[.pointer (some ⟨7,215,none⟩),.pointer (some ⟨w.heap.size,0,none⟩),.int .u64 150] 272)) (by simp);have g:3<w.heap.size:=aA f
 have hg2:((w.alloc (.cells #[.pointer (some t)] 215)).alloc (.cells #[.pointer (some ⟨7,215,none⟩),.pointer (some ⟨w.heap.size,0,none⟩),.int .u64 150] 272)).cell? ⟨3,0,none⟩=some (.iface 296 (.agg #[.pointer (some ⟨7,46,none⟩)])):=by
  rw[World.cell?_alloc_lt _ _ ⟨3,0,none⟩ (by simp only[wsa];omega),World.cell?_alloc_lt _ _ ⟨3,0,none⟩ g];exact f
 have b:t.block<w.heap.size:=by
  rcases Nat.lt_or_ge t.block w.heap.size with h|h
  ·exact h
  ·simp[World.cell?,Array.getElem?_eq_none h]at a
 have el:=Tryz.elemVP ⟨w.heap.size,0,none⟩ t (((w.alloc (.cells #[.pointer (some t)] 215)).alloc (.cells #[.pointer (some ⟨7,215,none⟩),.pointer (some ⟨w.heap.size,0,none⟩),.int .u64 150] 272)).alloc (.cells #[.pointer (some ⟨7,215,none⟩),.pointer (some ⟨w.heap.size,0,none⟩),.int .u64 150] 272)) (by rw[World.cell?_alloc_lt _ _ ⟨w.heap.size,0,none⟩ (by simp;omega)];simp)
 have st:=Tryz.setR t ⟨w.heap.size+1+1+1,0,none⟩ c d ((((w.alloc (.cells #[.pointer (some t)] 215)).alloc (.cells #[.pointer (some ⟨7,215,none⟩),.pointer (some ⟨w.heap.size,0,none⟩),.int .u64 150] 272)).alloc (.cells #[.pointer (some ⟨7,215,none⟩),.pointer (some ⟨w.heap.size,0,none⟩),.int .u64 150] 272)).alloc (.cells #[.int .i64 c] 176))
  (by rw[World.cell?_alloc_at _ _ _ _ (by simp)];rfl)
  (by rw[World.cell?_alloc_lt _ _ t (by simp;omega),World.cell?_alloc_lt _ _ t (by simp;omega),World.cell?_alloc_lt _ _ t (by simp;omega),World.cell?_alloc_lt _ _ t b];exact a)
  (by rw[World.frozen?_alloc_old _ _ t (by simp;omega),World.frozen?_alloc_old _ _ t (by simp;omega),World.frozen?_alloc_old _ _ t (by simp;omega),World.frozen?_alloc_old _ _ t (Nat.ne_of_lt b)];exact e)
 go_enter Tryz.func180,Tryz.ntmps180
 go_wp2
 refine wp_loop_rounds 1 ?_;rw[rounds_succ];go_wp2
 go_ret;exact⟨rfl,rfl⟩
theorem TT (w:World):
 aY 138 #[.nilIface] w λe w'=>e=.returned (.int .i64 0)/\aF w w':=by
 have a:aF w (w.alloc (.cells #[.int .i64 0] 176)):=aB (br _ _) _;go_enter Tryz.func138,Tryz.ntmps138;go_wp2_with (go_at_call 180;refine(XM _ _).mono ?_;rintro e w' ⟨rfl,rfl⟩);go_ret;exact⟨rfl,a⟩
theorem V9 (c:Int)(t:Addr)(b:Value)(w:World)(i:j9 w)(a:w.cell? t=some b)(d:w.frozen? t=false):
 aY 180 #[.iface 176 (.int .i64 c),.iface 215 (.pointer (some t))] w λf w'=>f=.returned (.bool true)/\w'.cell? t=some (.int .i64 c)/\Below t.block w w':=by
 refine(W8 c t b w i a d).mono ?_;rintro e w' ⟨rfl,rfl⟩;have h:Below t.block w ((((w.alloc (.cells #[.pointer (some t)] 215)).alloc (.cells #[.pointer (some ⟨7,215,none⟩),.pointer (some ⟨w.heap.size,0,none⟩),.int .u64 150] 272)).alloc (.cells #[.pointer (some ⟨7,215,none⟩),.pointer (some ⟨w.heap.size,0,none⟩),.int .u64 150] 272)).alloc (.cells #[.int .i64 c] 176)):=(aB (aB (aB (aB (br w.heap.size w) _) _) _) _).mono (Nat.le_of_lt (aA a));refine⟨rfl,?_,h.setCell (nlq _) _⟩;have g:((((w.alloc (.cells #[.pointer (some t)] 215)).alloc (.cells #[.pointer (some ⟨7,215,none⟩),.pointer (some ⟨w.heap.size,0,none⟩),.int .u64 150] 272)).alloc (.cells #[.pointer (some ⟨7,215,none⟩),.pointer (some ⟨w.heap.size,0,none⟩),.int .u64 150] 272)).alloc (.cells #[.int .i64 c] 176)).cell? t=some b:=((aB (aB (aB (aB (br w.heap.size w) _) _) _) _).cell (aA a)).trans a;exact B5 g
theorem qF (c:Int)(w:World)(j:j9 w):
 aY 138 #[.iface 176 (.int .i64 c)] w λe w'=>e=.returned (.int .i64 c)/\aF w w':=by
 have d:aF w (w.alloc (.cells #[.int .i64 0] 176)):=aB (br _ _) _;have a:=j.zL d;have g:(w.alloc (.cells #[.int .i64 0] 176)).cell? ⟨w.heap.size,0,none⟩=some (.int .i64 0):=by simp
 have f:(w.alloc (.cells #[.int .i64 0] 176)).frozen? ⟨w.heap.size,0,none⟩=false:=by simp
 obtain⟨i,b⟩:=cK (w.alloc (.cells #[.int .i64 0] 176));rw[b]at d a g f;go_enter Tryz.func138,Tryz.ntmps138;go_wp2_with fail;refine(V9 c ⟨w.heap.size,0,none⟩ (.int .i64 0) i a g f).mono ?_;rintro e w' ⟨rfl,hc,h⟩;have N:=d.trans h;clear b d a g f h;go_wp2;go_ret;exact⟨rfl,N⟩
end Go.Proofs.YtcdbcliaepcpfaaGreatDoor
