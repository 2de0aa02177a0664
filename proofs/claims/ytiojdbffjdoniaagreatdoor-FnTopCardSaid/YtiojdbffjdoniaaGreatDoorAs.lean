import Derived.Test.YtiojdbffjdoniaaGreatDoorProg
import Derived.WalkKit
import Derived.LaidEql
import Derived.Stop.Asserts
import Derived.RowKitTokens
import Derived.Test.YtiojdbffjdoniaaGreatDoorSq
namespace Go.Proofs.YtiojdbffjdoniaaGreatDoor
set_option maxHeartbeats 4000000
open Go.RowKit Go.Extern.Stop Go.Stop Go.Extern
set_option maxRecDepth 100000
def mW (w : World) : Prop := w.cell? ⟨0, 0, none⟩ = some (.iface 283 (.agg #[.pointer (some ⟨1, 115, none⟩)]))
theorem mW.zL {w w' : World} (h : mW w) (hb : Below w.heap.size w w') : mW w' := (hb.cell (aA h)).trans h
theorem vX {W : World} {t : Addr} {old v : Value} (h : W.cell? t = some old) : (W.setCell t v).cell? t = some v := World.cell?_setCell_same W t v h
theorem PK (t : Value) (w : World) :
 Calls Tryz.prog 150 #[.nilIface, t] w fun e w' => e = .returned (.bool false) /\ w' = w := by
 go_enter Tryz.func150, Tryz.ntmps150
 go_wp2
 go_ret;exact ⟨rfl, rfl⟩
theorem Tryz.valueOfP (t : Addr) (w : World) : (ReflectliteValue.unpack (.iface 217 (.pointer (some t)))).run Tryz.prog w
 = .ok (.agg #[.pointer (some ⟨1, 217, none⟩), .pointer (some ⟨w.heap.size, 0, none⟩), .int .u64 150]) (w.alloc (.cells #[.pointer (some t)] 217)) := by kernel_rfl
theorem Tryz.typeP (a : Addr) (w : World) : (ReflectliteValue.methodAny (ReflectliteValue.valueError "reflectlite.Value.Type" 0) (fun t _ _ _ => ReflectliteType.toType t) #[.agg #[.pointer (some ⟨1, 217, none⟩), .pointer (some a), .int .u64 150]]).run Tryz.prog w
 = .ok (.iface 283 (.agg #[.pointer (some ⟨1, 217, none⟩)])) w := by kernel_rfl
theorem Tryz.methodKind (h : Value) (w : World) : (Go.method 450 283 (.agg #[h]) "Kind").run Tryz.prog w = .ok (265, h) w := by kernel_rfl
theorem Tryz.kindP (w : World) : ((ReflectliteType.abiMethod fun t => (fun a : Nat => Value.int IntKind.u8 (a : Int)) <$> Rtype.kind t) #[.pointer (some ⟨1, 217, none⟩)]).run Tryz.prog w = .ok (.int .u8 22) w := by kernel_rfl
theorem Tryz.kindR (w : World) : ((ReflectliteType.abiMethod fun t => (fun a : Nat => Value.int IntKind.u8 (a : Int)) <$> Rtype.kind t) #[.pointer (some ⟨1, 176, none⟩)]).run Tryz.prog w = .ok (.int .u8 2) w := by kernel_rfl
theorem SA (z : Sem Value) (f : TypeId -> Addr -> Nat -> Nat -> Sem Value) (v : Value) :
 ReflectliteValue.method z f #[v] = (do match ← ReflectliteValue.parts v with | none => z | some (t, a, fl) => f t a fl (fl % 32)) := rfl
theorem Tryz.partsP (a : Addr) (w : World) : (ReflectliteValue.parts (.agg #[.pointer (some ⟨1, 217, none⟩), .pointer (some a), .int .u64 150])).run Tryz.prog w = .ok (some (217, a, 150)) w := by kernel_rfl
theorem Tryz.isNilP (a p : Addr) (W : World) (ha : W.cell? a = some (.pointer (some p))) :
 (ReflectliteValue.method (ReflectliteValue.valueError "reflectlite.Value.IsNil" 0) ReflectliteValue.isNil #[.agg #[.pointer (some ⟨1, 217, none⟩), .pointer (some a), .int .u64 150]]).run Tryz.prog W = .ok (.bool false) W := by
 rw [SA];simp only [Sem.run_bind, Tryz.partsP, Result.andThen]
 simp [ReflectliteValue.isNil, loadVar, isAgg, underlying, Tryz.underlying217, ha, Result.andThen]
theorem Tryz.methodElem (h : Value) (w : World) : (Go.method 450 283 (.agg #[h]) "Elem").run Tryz.prog w = .ok (282, .agg #[h]) w := by kernel_rfl
theorem Tryz.methodImplements (h : Value) (w : World) : (Go.method 450 283 (.agg #[h]) "Implements").run Tryz.prog w = .ok (283, .agg #[h]) w := by kernel_rfl
theorem Tryz.methodAssignableTo (h : Value) (w : World) : (Go.method 450 283 (.agg #[h]) "AssignableTo").run Tryz.prog w = .ok (280, .agg #[h]) w := by kernel_rfl
theorem Tryz.elemP (w : World) : (ReflectliteType.method ReflectliteType.elem #[.agg #[.pointer (some ⟨1, 217, none⟩)]]).run Tryz.prog w = .ok (.iface 283 (.agg #[.pointer (some ⟨1, 176, none⟩)])) w := by kernel_rfl
theorem Tryz.implementsR (w : World) : (ReflectliteType.relation "Implements" ReflectliteType.implements_ #[.agg #[.pointer (some ⟨1, 176, none⟩)], .iface 283 (.agg #[.pointer (some ⟨1, 115, none⟩)])]).run Tryz.prog w = .ok (.bool true) w := by kernel_rfl
theorem Tryz.typeOfR (v : Value) (w : World) : (ReflectliteType.typeOf #[.iface 176 v]).run Tryz.prog w = .ok (.iface 283 (.agg #[.pointer (some ⟨1, 176, none⟩)])) w := by kernel_rfl
theorem Tryz.assignableR (w : World) : (ReflectliteType.relation "AssignableTo" ReflectliteType.assignableTo #[.agg #[.pointer (some ⟨1, 176, none⟩)], .iface 283 (.agg #[.pointer (some ⟨1, 176, none⟩)])]).run Tryz.prog w = .ok (.bool true) w := by kernel_rfl
theorem Tryz.valueOfR (c : Int) (w : World) : (ReflectliteValue.unpack (.iface 176 (.int .i64 c))).run Tryz.prog w
 = .ok (.agg #[.pointer (some ⟨1, 176, none⟩), .pointer (some ⟨w.heap.size, 0, none⟩), .int .u64 130]) (w.alloc (.cells #[.int .i64 c] 176)) := by kernel_rfl
theorem Tryz.elemOfP (w : World) : (Rtype.elem? 217).run Tryz.prog w = .ok (some 176) w := by kernel_rfl
theorem Tryz.mkR (p : Addr) (w : World) : (ReflectliteValue.mk 176 p ReflectliteValue.flagAddr).run Tryz.prog w = .ok (.agg #[.pointer (some ⟨1, 176, none⟩), .pointer (some p), .int .u64 386]) w := by kernel_rfl
theorem Tryz.elemVP (a p : Addr) (W : World) (ha : W.cell? a = some (.pointer (some p))) :
 (ReflectliteValue.method (ReflectliteValue.valueError "reflectlite.Value.Elem" 0) ReflectliteValue.elem #[.agg #[.pointer (some ⟨1, 217, none⟩), .pointer (some a), .int .u64 150]]).run Tryz.prog W
  = .ok (.agg #[.pointer (some ⟨1, 176, none⟩), .pointer (some p), .int .u64 386]) W := by
 rw [SA];simp only [Sem.run_bind, Tryz.partsP, Result.andThen]
 simp [ReflectliteValue.elem, loadVar, isAgg, underlying, Tryz.underlying217, ha, Result.andThen, Tryz.elemOfP, Tryz.mkR]
theorem SL (v x : Value) : ReflectliteValue.set #[v, x] = (do
 let (some (dst, a, fl), some (src, b, _)) := (← ReflectliteValue.parts v, ← ReflectliteValue.parts x)
  | unsupported (.noEntry "extern/(internal/reflectlite.Value).Set.zeroValue")
 if fl / ReflectliteValue.flagAddr % 2 == 0 then unsupported (.noEntry "extern/(internal/reflectlite.Value).Set.unaddressable")
 let val ← loadVar src b
 if ← Rtype.directlyAssignable dst src then storeVar dst a val
 else if ← Rtype.implements dst src then
  if (← Rtype.kind src) == 20 then
   match val with
   | .nilIface => unsupported (.noEntry "extern/reflectlite: a nil value of one interface type handed on as a value of another")
   | _ => storeVar dst a val
  else storeVar dst a (.iface src val)
 else panicString ("reflectlite.Set: value of type " ++ (← Rtype.spelt src) ++ " is not assignable to type " ++ (← Rtype.spelt dst))
 pure (.tuple #[])) := rfl
theorem Tryz.partsRa (a : Addr) (w : World) : (ReflectliteValue.parts (.agg #[.pointer (some ⟨1, 176, none⟩), .pointer (some a), .int .u64 386])).run Tryz.prog w = .ok (some (176, a, 386)) w := by kernel_rfl
theorem Tryz.partsR (a : Addr) (w : World) : (ReflectliteValue.parts (.agg #[.pointer (some ⟨1, 176, none⟩), .pointer (some a), .int .u64 130])).run Tryz.prog w = .ok (some (176, a, 130)) w := by kernel_rfl
theorem Tryz.directR (w : World) : (Rtype.directlyAssignable 176 176).run Tryz.prog w = .ok true w := by kernel_rfl
theorem Tryz.setR (ta b : Addr) (c : Int) (old : Value) (W : World) (hb : W.cell? b = some (.int .i64 c)) (ht : W.cell? ta = some old) (hf : W.frozen? ta = false) :
 (ReflectliteValue.set #[.agg #[.pointer (some ⟨1, 176, none⟩), .pointer (some ta), .int .u64 386], .agg #[.pointer (some ⟨1, 176, none⟩), .pointer (some b), .int .u64 130]]).run Tryz.prog W
  = .ok (.tuple #[]) (W.setCell ta (.int .i64 c)) := by
 rw [SL];simp only [Sem.run_bind, Tryz.partsRa, Tryz.partsR, Result.andThen]
 simp [ReflectliteValue.flagAddr, loadVar, isAgg, underlying, Tryz.underlying176, hb, Result.andThen, Tryz.directR, storeVar, Value.cells, storeCells, Addr.add]
 rw [run_store Tryz.prog W ta _ _ (by rfl)]
 simp [ht, hf]
theorem QA (c : Int) (t : Addr) (old : Value) (w : World) (hg : mW w) (ht0 : w.cell? t = some old) (hf0 : w.frozen? t = false) :
 Calls Tryz.prog 150 #[.iface 176 (.int .i64 c), .iface 217 (.pointer (some t))] w fun ev w' => ev = .returned (.bool true) /\ w' = ((((w.alloc (.cells #[.pointer (some t)] 217)).alloc (.cells #[.pointer (some ⟨1, 217, none⟩), .pointer (some ⟨w.heap.size, 0, none⟩), .int .u64 150] 239)).alloc (.cells #[.pointer (some ⟨1, 217, none⟩), .pointer (some ⟨w.heap.size, 0, none⟩), .int .u64 150] 239)).alloc (.cells #[.int .i64 c] 176)).setCell t (.int .i64 c) := by
 unfold mW at hg;have hVO := @run_callFunc_extern Tryz.prog 181 _ (fun args => ReflectliteValue.unpack (args.getD 0 (.tuple #[]))) Tryz.func181 (by kernel_rfl) (by kernel_rfl) (by kernel_rfl) (by kernel_rfl);have hTY := @run_callFunc_extern Tryz.prog 182 _ (ReflectliteValue.methodAny (ReflectliteValue.valueError "reflectlite.Value.Type" 0) (fun t _ _ _ => ReflectliteType.toType t)) Tryz.func182 (by kernel_rfl) (by kernel_rfl) (by kernel_rfl) (by kernel_rfl);have hNI := @run_callFunc_extern Tryz.prog 183 _ (ReflectliteValue.method (ReflectliteValue.valueError "reflectlite.Value.IsNil" 0) ReflectliteValue.isNil) Tryz.func183 (by kernel_rfl) (by kernel_rfl) (by kernel_rfl) (by kernel_rfl);have hKI := @run_callFunc_extern Tryz.prog 265 _ (ReflectliteType.abiMethod fun t => do pure (.int .u8 (← Rtype.kind t))) Tryz.func265 (by kernel_rfl) (by kernel_rfl) (by kernel_rfl) (by kernel_rfl);have hEL := @run_callFunc_extern Tryz.prog 282 _ (ReflectliteType.method ReflectliteType.elem) Tryz.func282 (by kernel_rfl) (by kernel_rfl) (by kernel_rfl) (by kernel_rfl);have hIM := @run_callFunc_extern Tryz.prog 283 _ (ReflectliteType.relation "Implements" ReflectliteType.implements_) Tryz.func283 (by kernel_rfl) (by kernel_rfl) (by kernel_rfl) (by kernel_rfl);have hTO := @run_callFunc_extern Tryz.prog 214 _ ReflectliteType.typeOf Tryz.func214 (by kernel_rfl) (by kernel_rfl) (by kernel_rfl) (by kernel_rfl);have hAT := @run_callFunc_extern Tryz.prog 280 _ (ReflectliteType.relation "AssignableTo" ReflectliteType.assignableTo) Tryz.func280 (by kernel_rfl) (by kernel_rfl) (by kernel_rfl) (by kernel_rfl);have hVE := @run_callFunc_extern Tryz.prog 215 _ (ReflectliteValue.method (ReflectliteValue.valueError "reflectlite.Value.Elem" 0) ReflectliteValue.elem) Tryz.func215 (by kernel_rfl) (by kernel_rfl) (by kernel_rfl) (by kernel_rfl);have hSE := @run_callFunc_extern Tryz.prog 216 _ ReflectliteValue.set Tryz.func216 (by kernel_rfl) (by kernel_rfl) (by kernel_rfl) (by kernel_rfl);have tO := Tryz.typeOfR;have mA := Tryz.methodAssignableTo;have a25 := Tryz.assignableR;have v25 := Tryz.valueOfR;have f6 := Tryz.valueOfP;have f7 := Tryz.typeP;have mK := Tryz.methodKind;have mE := Tryz.methodElem;have mI := Tryz.methodImplements;have k27 := Tryz.kindP;have k25 := Tryz.kindR;have e27 := Tryz.elemP;have i25 := Tryz.implementsR;have n8 := Tryz.isNilP ⟨w.heap.size, 0, none⟩ t ((w.alloc (.cells #[.pointer (some t)] 217)).alloc (.cells #[.pointer (some ⟨1, 217, none⟩), .pointer (some ⟨w.heap.size, 0, none⟩), .int .u64 150] 239)) (by simp)
 have hlt : 0 < w.heap.size := by
  rcases Nat.eq_zero_or_pos w.heap.size with h0 | h
  · simp [World.cell?, h0] at hg
  · exact h
 have hg2 : ((w.alloc (.cells #[.pointer (some t)] 217)).alloc (.cells #[.pointer (some ⟨1, 217, none⟩), .pointer (some ⟨w.heap.size, 0, none⟩), .int .u64 150] 239)).cell? ⟨0, 0, none⟩ = some (.iface 283 (.agg #[.pointer (some ⟨1, 115, none⟩)])) := by
  rw [World.cell?_alloc_lt _ _ ⟨0, 0, none⟩ (by simp), World.cell?_alloc_lt _ _ ⟨0, 0, none⟩ hlt];exact hg
 have htl : t.block < w.heap.size := by
  rcases Nat.lt_or_ge t.block w.heap.size with h | h
  · exact h
  · simp [World.cell?, Array.getElem?_eq_none h] at ht0
 have el := Tryz.elemVP ⟨w.heap.size, 0, none⟩ t (((w.alloc (.cells #[.pointer (some t)] 217)).alloc (.cells #[.pointer (some ⟨1, 217, none⟩), .pointer (some ⟨w.heap.size, 0, none⟩), .int .u64 150] 239)).alloc (.cells #[.pointer (some ⟨1, 217, none⟩), .pointer (some ⟨w.heap.size, 0, none⟩), .int .u64 150] 239)) (by rw [World.cell?_alloc_lt _ _ ⟨w.heap.size, 0, none⟩ (by simp;omega)];simp)
 have st := Tryz.setR t ⟨w.heap.size + 1 + 1 + 1, 0, none⟩ c old ((((w.alloc (.cells #[.pointer (some t)] 217)).alloc (.cells #[.pointer (some ⟨1, 217, none⟩), .pointer (some ⟨w.heap.size, 0, none⟩), .int .u64 150] 239)).alloc (.cells #[.pointer (some ⟨1, 217, none⟩), .pointer (some ⟨w.heap.size, 0, none⟩), .int .u64 150] 239)).alloc (.cells #[.int .i64 c] 176))
  (by rw [World.cell?_alloc_at _ _ _ _ (by simp)];rfl)
  (by rw [World.cell?_alloc_lt _ _ t (by simp;omega), World.cell?_alloc_lt _ _ t (by simp;omega), World.cell?_alloc_lt _ _ t (by simp;omega), World.cell?_alloc_lt _ _ t htl];exact ht0)
  (by rw [World.frozen?_alloc_old _ _ t (by simp;omega), World.frozen?_alloc_old _ _ t (by simp;omega), World.frozen?_alloc_old _ _ t (by simp;omega), World.frozen?_alloc_old _ _ t (Nat.ne_of_lt htl)];exact hf0)
 go_enter Tryz.func150, Tryz.ntmps150
 go_wp2
 refine wp_loop_rounds 1 ?_;rw [rounds_succ];go_wp2
 go_ret;exact ⟨rfl, rfl⟩
theorem K4 (w : World) :
 Calls Tryz.prog 115 #[.nilIface] w fun e w' => e = .returned (.int .i64 0) /\ Below w.heap.size w w' := by
 have hB : Below w.heap.size w (w.alloc (.cells #[.int .i64 0] 176)) := aB (br _ _) _
 go_enter Tryz.func115, Tryz.ntmps115
 go_wp2_with (go_at_call 150;refine (PK _ _).mono ?_;rintro e w' ⟨rfl, rfl⟩)
 go_ret;exact ⟨rfl, hB⟩
theorem NO (c : Int) (t : Addr) (old : Value) (w : World) (hg : mW w) (ht0 : w.cell? t = some old) (hf0 : w.frozen? t = false) :
 Calls Tryz.prog 150 #[.iface 176 (.int .i64 c), .iface 217 (.pointer (some t))] w fun ev w' => ev = .returned (.bool true) /\ w'.cell? t = some (.int .i64 c) /\ Below t.block w w' := by
 refine (QA c t old w hg ht0 hf0).mono ?_;rintro e w' ⟨rfl, rfl⟩;have hB : Below t.block w ((((w.alloc (.cells #[.pointer (some t)] 217)).alloc (.cells #[.pointer (some ⟨1, 217, none⟩), .pointer (some ⟨w.heap.size, 0, none⟩), .int .u64 150] 239)).alloc (.cells #[.pointer (some ⟨1, 217, none⟩), .pointer (some ⟨w.heap.size, 0, none⟩), .int .u64 150] 239)).alloc (.cells #[.int .i64 c] 176)) := (aB (aB (aB (aB (br w.heap.size w) _) _) _) _).mono (Nat.le_of_lt (aA ht0));refine ⟨rfl, ?_, hB.setCell (nlq _) _⟩;have h1 : ((((w.alloc (.cells #[.pointer (some t)] 217)).alloc (.cells #[.pointer (some ⟨1, 217, none⟩), .pointer (some ⟨w.heap.size, 0, none⟩), .int .u64 150] 239)).alloc (.cells #[.pointer (some ⟨1, 217, none⟩), .pointer (some ⟨w.heap.size, 0, none⟩), .int .u64 150] 239)).alloc (.cells #[.int .i64 c] 176)).cell? t = some old := ((aB (aB (aB (aB (br w.heap.size w) _) _) _) _).cell (aA ht0)).trans ht0;exact vX h1
theorem AS (c : Int) (w : World) (hg : mW w) :
 Calls Tryz.prog 115 #[.iface 176 (.int .i64 c)] w fun e w' => e = .returned (.int .i64 c) /\ Below w.heap.size w w' := by
 have hB : Below w.heap.size w (w.alloc (.cells #[.int .i64 0] 176)) := aB (br _ _) _;have hg1 := hg.zL hB;have ht : (w.alloc (.cells #[.int .i64 0] 176)).cell? ⟨w.heap.size, 0, none⟩ = some (.int .i64 0) := by simp
 have hf : (w.alloc (.cells #[.int .i64 0] 176)).frozen? ⟨w.heap.size, 0, none⟩ = false := by simp
 obtain ⟨W0, hW0⟩ : ∃ W0, w.alloc (.cells #[.int .i64 0] 176) = W0 := ⟨_, rfl⟩;rw [hW0] at hB hg1 ht hf
 go_enter Tryz.func115, Tryz.ntmps115
 go_wp2_with fail
 refine (NO c ⟨w.heap.size, 0, none⟩ (.int .i64 0) W0 hg1 ht hf).mono ?_;rintro e w' ⟨rfl, hc, hb⟩;have N := hB.trans hb;clear hW0 hB hg1 ht hf hb;go_wp2
 go_ret;exact ⟨rfl, N⟩
end Go.Proofs.YtiojdbffjdoniaaGreatDoor
