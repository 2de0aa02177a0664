import Derived.Test.YtiojdbffjdoniaaGreatDoorEv0
import Derived.Test.YtiojdbffjdoniaaGreatDoorFe
import Derived.Test.YtiojdbffjdoniaaGreatDoorGc
namespace Go.Proofs.YtiojdbffjdoniaaGreatDoor
set_option maxRecDepth 100000
set_option maxHeartbeats 4000000
open Go.RowKit Go.Shelf
attribute [local go_sem] Oper.semAt_some
abbrev DK (n : ByteArray) (ta : Option Addr) (m tc : Nat) : Value := .agg #[.string n, .slice ta m tc]
abbrev FY (n : ByteArray) (t : Bool) : Value := .agg #[.string n, .bool t]
theorem I4 (v : Value) (w : World) : (Instr.typeAssert (.iface 119 v) 71 181 true).run Tryz.prog w = .ok (.tuple #[.iface 119 v, .bool true]) w := run_typeAssert_hasB Tryz.underlying181 (by kernel_rfl) v _ w
theorem EZ (v : Value) (w : World) : (Instr.typeAssert (.iface 121 v) 71 181 true).run Tryz.prog w = .ok (.tuple #[.iface 121 v, .bool true]) w := run_typeAssert_hasB Tryz.underlying181 (by kernel_rfl) v _ w
theorem JY (v : Value) (w : World) : (Instr.typeAssert (.iface 123 v) 71 181 true).run Tryz.prog w = .ok (.tuple #[.iface 123 v, .bool true]) w := run_typeAssert_hasB Tryz.underlying181 (by kernel_rfl) v _ w
theorem EC (w : World) : (Instr.typeAssert .nilIface 71 181 true).run Tryz.prog w = .ok (.tuple #[.nilIface, .bool false]) w := by kernel_rfl
theorem EM (w : World) : (Instr.typeAssert .nilIface 71 119 true).run Tryz.prog w = .ok (.tuple #[GQ, .bool false]) w := by kernel_rfl
theorem CB (w : World) : (Instr.typeAssert .nilIface 71 121 true).run Tryz.prog w = .ok (.tuple #[DN, .bool false]) w := by kernel_rfl
theorem EY (w : World) : (Instr.typeAssert .nilIface 71 123 true).run Tryz.prog w = .ok (.tuple #[OS, .bool false]) w := by kernel_rfl
theorem DM (w : World) : (Instr.typeAssert .nilIface 71 125 true).run Tryz.prog w = .ok (.tuple #[QW, .bool false]) w := by kernel_rfl
theorem LI (v : Value) (w : World) : (Instr.typeAssert (.iface 119 v) 71 119 true).run Tryz.prog w = .ok (.tuple #[v, .bool true]) w := by kernel_rfl
theorem yD (v : Value) (w : World) : (Instr.typeAssert (.iface 121 v) 71 119 true).run Tryz.prog w = .ok (.tuple #[GQ, .bool false]) w := by kernel_rfl
theorem IR (v : Value) (w : World) : (Instr.typeAssert (.iface 121 v) 71 121 true).run Tryz.prog w = .ok (.tuple #[v, .bool true]) w := by kernel_rfl
theorem AI (v : Value) (w : World) : (Instr.typeAssert (.iface 123 v) 71 119 true).run Tryz.prog w = .ok (.tuple #[GQ, .bool false]) w := by kernel_rfl
theorem yO (v : Value) (w : World) : (Instr.typeAssert (.iface 123 v) 71 121 true).run Tryz.prog w = .ok (.tuple #[DN, .bool false]) w := by kernel_rfl
theorem LR (v : Value) (w : World) : (Instr.typeAssert (.iface 123 v) 71 123 true).run Tryz.prog w = .ok (.tuple #[v, .bool true]) w := by kernel_rfl
theorem KT (x : Wx) (w : World) : Calls Tryz.prog 269 #[x.val] w fun e w' => e = .returned (.string x.n) /\ Below w.heap.size w w' := by
 have hB : ∀ o, Below w.heap.size w (w.alloc o) := fun o => aB (br _ _) _;have c0 : (w.alloc (.cells #[.string x.n, .int .i64 x.q, .int .i64 x.s, .int .i64 x.f, .int .i64 x.b, .int .i64 x.l, .slice x.wa x.wl.length x.wc, .slice x.la x.ll.length x.lc] 119)).cell? ⟨w.heap.size, 0, none⟩ = some (.string x.n) := aH (wnq w _) rfl
 go_enter Tryz.func269, Tryz.ntmps269
 go_wp2
 go_ret;exact ⟨rfl, hB _⟩
theorem I8 (n : ByteArray) (ta : Option Addr) (m tc : Nat) (w : World) : Calls Tryz.prog 271 #[DK n ta m tc] w fun e w' => e = .returned (.string n) /\ Below w.heap.size w w' := by
 have hB : ∀ o, Below w.heap.size w (w.alloc o) := fun o => aB (br _ _) _;have c0 : (w.alloc (.cells #[.string n, .slice ta m tc] 121)).cell? ⟨w.heap.size, 0, none⟩ = some (.string n) := aH (wnq w _) rfl
 go_enter Tryz.func271, Tryz.ntmps271
 go_wp2
 go_ret;exact ⟨rfl, hB _⟩
theorem LL (n : ByteArray) (t : Bool) (w : World) : Calls Tryz.prog 273 #[FY n t] w fun e w' => e = .returned (.string n) /\ Below w.heap.size w w' := by
 have hB : ∀ o, Below w.heap.size w (w.alloc o) := fun o => aB (br _ _) _;have c0 : (w.alloc (.cells #[.string n, .bool t] 123)).cell? ⟨w.heap.size, 0, none⟩ = some (.string n) := aH (wnq w _) rfl
 go_enter Tryz.func273, Tryz.ntmps273
 go_wp2
 go_ret;exact ⟨rfl, hB _⟩
theorem BK (x : Wx) (w : World) :
 Calls Tryz.prog 66 #[.iface 119 x.val] w fun e w' => e = .returned (.string x.n) /\ Below w.heap.size w w' := by
 have h0 := I4
 go_enter Tryz.func66, Tryz.ntmps66
 go_wp2_with fail
 refine (KT x w).mono ?_;rintro e w1 ⟨rfl, hb1⟩;go_wp2
 go_ret;exact ⟨rfl, hb1⟩
theorem x9 (n : ByteArray) (ta : Option Addr) (m tc : Nat) (w : World) :
 Calls Tryz.prog 66 #[.iface 121 (DK n ta m tc)] w fun e w' => e = .returned (.string n) /\ Below w.heap.size w w' := by
 have h0 := EZ
 go_enter Tryz.func66, Tryz.ntmps66
 go_wp2_with fail
 refine (I8 n ta m tc w).mono ?_;rintro e w1 ⟨rfl, hb1⟩;go_wp2
 go_ret;exact ⟨rfl, hb1⟩
theorem BU (n : ByteArray) (t : Bool) (w : World) :
 Calls Tryz.prog 66 #[.iface 123 (FY n t)] w fun e w' => e = .returned (.string n) /\ Below w.heap.size w w' := by
 have h0 := JY
 go_enter Tryz.func66, Tryz.ntmps66
 go_wp2_with fail
 refine (LL n t w).mono ?_;rintro e w1 ⟨rfl, hb1⟩;go_wp2
 go_ret;exact ⟨rfl, hb1⟩
theorem F2 (w : World) :
 Calls Tryz.prog 66 #[.nilIface] w fun e w' => e = .returned (.string ⟨#[]⟩) /\ Below w.heap.size w w' := by
 have h0 := EC
 go_enter Tryz.func66, Tryz.ntmps66
 go_wp2
 go_ret;exact ⟨rfl, br _ _⟩
theorem K2 (z P : Nat) (b : Bk) (nm : ByteArray) (i : Nat) (f : Bool) (x : Wx) (w : World) (hI : iV z P w b nm i f) (hzw : z <= w.heap.size) (hA : dY w b) (hx : iA w x) (hnh : b.hl.length <= 64) (hi : i <= b.hl.length) :
 Calls Tryz.prog 68 #[.pointer (some ⟨P, 0, none⟩), .iface 119 x.val] w fun e w' => ∃ b'' : Bk, e = .returned (lF (iM b f x)) /\ b''.now = b.now /\ b''.fl = b.fl /\ aL (jJ b nm i f x) b''.hl /\ iV z P w' b'' nm i f /\ cA (fun k => z <= k) w w' := by
 have hB : Below w.heap.size w (w.alloc (.cells #[.string x.n, .int .i64 x.q, .int .i64 x.s, .int .i64 x.f, .int .i64 x.b, .int .i64 x.l, .slice x.wa x.wl.length x.wc, .slice x.la x.ll.length x.lc] 119)) := aB (br _ _) _;have X1 := wnq w (.cells #[.string x.n, .int .i64 x.q, .int .i64 x.s, .int .i64 x.f, .int .i64 x.b, .int .i64 x.l, .slice x.wa x.wl.length x.wc, .slice x.la x.ll.length x.lc] 119);obtain ⟨W, hW⟩ : ∃ W, w.alloc (.cells #[.string x.n, .int .i64 x.q, .int .i64 x.s, .int .i64 x.f, .int .i64 x.b, .int .i64 x.l, .slice x.wa x.wl.length x.wc, .slice x.la x.ll.length x.lc] 119) = W := ⟨_, rfl⟩;rw [hW] at hB X1;obtain ⟨q0, q1, q2, q3, q4, q5, q6, q7⟩ := fQ X1;have hs := hB.size;have h3 := LI;obtain ⟨d, iw, k, hv, -⟩ := BY b f x;have HV : Hid (gZ b f x = gB d iw k) := hv;clear hv X1
 go_enter Tryz.func68, Tryz.ntmps68
 go_wp2_with fail
 refine (J0 z P b nm i f x W (hI.zL hB) (by omega) (hA.zL hB) (hx.zL hB) hnh hi).mono ?_;rintro e w1 ⟨b'', rfl, e1, e2, e3, hI1, hb1⟩;rw [HV.out];have HR : Hid (b''.now = b.now /\ b''.fl = b.fl /\ aL (jJ b nm i f x) b''.hl) := ⟨e1, e2, e3⟩;have HI2 : Hid (∀ o, iV z P (w1.alloc o) b'' nm i f) := fun o => hI1.zL (aB (br _ _) _);have HB2 : Hid (∀ o, cA (fun k => z <= k) w (w1.alloc o)) := fun o => ((cA.below hB).trans hb1).trans (cA.below (aB (br _ _) _));clear e1 e2 e3 hI1 hb1 hB hI q0 q1 q2 q3 q4 q5 q6 q7 hW;go_wp2
 go_ret;exact ⟨b'', rfl, HR.out.1, HR.out.2.1, HR.out.2.2, HI2.out _, HB2.out _⟩
theorem IB (z P : Nat) (b : Bk) (nm : ByteArray) (i : Nat) (f : Bool) (n : ByteArray) (tl : List Bx) (ta : Option Addr) (tc : Nat) (w : World) (hI : iV z P w b nm i f) (hzw : z <= w.heap.size) (hfi : f = true -> i < b.hl.length) (hft : ∀ h ∈ b.hl, h.Fit) (hnf : b.fl.length <= 1048576) (hnh : b.hl.length <= 64) (ht : iH w ta tl) (hnt : tl.length <= 1048576) :
 Calls Tryz.prog 68 #[.pointer (some ⟨P, 0, none⟩), .iface 121 (DK n ta tl.length tc)] w fun e w' => ∃ b'' : Bk, e = .returned (lF (gP b nm i f tl)) /\ b''.now = b.now /\ b''.fl = b.fl /\ aL (iN b nm i f tl) b''.hl /\ iV z P w' b'' nm i f /\ cA (fun k => z <= k) w w' := by
 have hB : Below w.heap.size w (w.alloc (.cells #[.string n, .slice ta tl.length tc] 121)) := aB (br _ _) _;have c1 : (w.alloc (.cells #[.string n, .slice ta tl.length tc] 121)).cell? ⟨w.heap.size, 1, none⟩ = some (.slice ta tl.length tc) := aH (wnq w _) rfl;obtain ⟨W, hW⟩ : ∃ W, w.alloc (.cells #[.string n, .slice ta tl.length tc] 121) = W := ⟨_, rfl⟩;rw [hW] at hB c1;have hs := hB.size;have h0 := yD;have h1 := IR
 go_enter Tryz.func68, Tryz.ntmps68
 go_wp2_with fail
 refine (I1 z P b nm i f tl ta tc W (hI.zL hB) (by omega) hfi hft hnf hnh (ht.zL hB) hnt).mono ?_;rintro e w1 ⟨b'', rfl, e1, e2, e3, hI1, hb1⟩;go_wp2_with fail
 go_ret;exact ⟨b'', rfl, e1, e2, e3, hI1, (cA.below hB).trans hb1⟩
theorem MO (z P : Nat) (b : Bk) (nm : ByteArray) (i : Nat) (f took : Bool) (n : ByteArray) (w : World) (hI : iV z P w b nm i f) (hfi : f = true -> i < b.hl.length) (hft : ∀ h ∈ b.hl, h.Fit) :
 Calls Tryz.prog 68 #[.pointer (some ⟨P, 0, none⟩), .iface 123 (FY n took)] w fun e w' => e = .returned (lF (j3 b i f)) /\ iV z P w' (lH b i f took) nm i f /\ cA (fun k => z <= k) w w' := by
 have hB : Below w.heap.size w (w.alloc (.cells #[.string n, .bool took] 123)) := aB (br _ _) _;have c1 : (w.alloc (.cells #[.string n, .bool took] 123)).cell? ⟨w.heap.size, 1, none⟩ = some (.bool took) := aH (wnq w _) rfl;obtain ⟨W, hW⟩ : ∃ W, w.alloc (.cells #[.string n, .bool took] 123) = W := ⟨_, rfl⟩;rw [hW] at hB c1;have h0 := AI;have h1 := yO;have h2 := LR
 go_enter Tryz.func68, Tryz.ntmps68
 go_wp2_with fail
 refine (MT z P b nm i f took W (hI.zL hB) hfi hft).mono ?_;rintro e w1 ⟨rfl, hI1, hb1⟩;go_wp2_with fail
 go_ret;exact ⟨rfl, hI1, (cA.below hB).trans hb1⟩
theorem OG (P : Nat) (w : World) :
 Calls Tryz.prog 68 #[.pointer (some ⟨P, 0, none⟩), .nilIface] w fun e w' => e = .returned (lF 2) /\ Below w.heap.size w w' := by
 have h0 := EM;have h1 := CB;have h2 := EY;have h3 := DM
 go_enter Tryz.func68, Tryz.ntmps68
 go_wp2
 go_ret;exact ⟨rfl, br _ _⟩
def QO (b' : Bk) (_ : Nat) (_ : Bool) (b'' : Bk) (c : Int) : Prop := c = 2 /\ b'' = b'
theorem IZ (x : Wx) (T : Nat) (b : Bk) (nm : ByteArray) (w : World) (hT : w.cell? ⟨T, 0, none⟩ = some (.iface 119 x.val)) (hx : iA w x) (hnf : b.fl.length <= 1048576) (hs : ∀ f ∈ b.fl, f.n.size <= 9223372036854775807) (hft : ∀ h ∈ b.hl, h.Fit) :
 mB 67 #[.pointer (some ⟨T, 0, none⟩)] b nm (QY nm x) w := by
 intro b' i f P z W hbk hpg hz hzW hI hN;have c0 : W.cell? ⟨T, 0, none⟩ = some (.iface 119 x.val) := (hN.cell (aA hT)).trans hT;have h16 := pY hbk;have hA := hI.a.asks (by rw [hpg.fl];exact hnf) (by rw [hpg.fl];exact hs) (by rw [hpg.lk.len];omega) (hpg.lk.fit hft);have hle : i <= b'.hl.length := by rw [hpg.lk.len];exact hpg.at'.le
 have HBK : Hid _ := hbk;clear hbk
 show Calls Tryz.prog 67 #[.pointer (some ⟨P, 0, none⟩), .pointer (some ⟨T, 0, none⟩)] W _
 go_enter Tryz.func67, Tryz.ntmps67
 go_wp2_with fail
 refine (K2 z P b' nm i f x W hI hzW hA (hx.zL hN) (by rw [hpg.lk.len];omega) hle).mono ?_;rintro e w1 ⟨b'', rfl, e1, e2, e3, hI1, hb1⟩;go_wp2
 go_ret;exact ⟨_, _, rfl, ⟨rfl, e1, e2, e3⟩, hI1, hb1⟩
theorem EQ (n : ByteArray) (tl : List Bx) (ta : Option Addr) (tc : Nat) (T : Nat) (b : Bk) (nm : ByteArray) (w : World) (hT : w.cell? ⟨T, 0, none⟩ = some (.iface 121 (DK n ta tl.length tc))) (ht : iH w ta tl) (hnt : tl.length <= 1048576) (hnf : b.fl.length <= 1048576) (hft : ∀ h ∈ b.hl, h.Fit) :
 mB 67 #[.pointer (some ⟨T, 0, none⟩)] b nm (QU nm tl) w := by
 intro b' i f P z W hbk hpg hz hzW hI hN;have c0 : W.cell? ⟨T, 0, none⟩ = some (.iface 121 (DK n ta tl.length tc)) := (hN.cell (aA hT)).trans hT;have h16 := pY hbk;have HBK : Hid _ := hbk;clear hbk
 show Calls Tryz.prog 67 #[.pointer (some ⟨P, 0, none⟩), .pointer (some ⟨T, 0, none⟩)] W _
 go_enter Tryz.func67, Tryz.ntmps67
 go_wp2_with fail
 refine (IB z P b' nm i f n tl ta tc W hI hzW (fun e => by obtain ⟨h, _⟩ := hpg.hd.1 e;rw [hpg.lk.len];exact h) (hpg.lk.fit hft) (by rw [hpg.fl];exact hnf) (by rw [hpg.lk.len];omega) (ht.zL hN) hnt).mono ?_;rintro e w1 ⟨b'', rfl, e1, e2, e3, hI1, hb1⟩;go_wp2
 go_ret;exact ⟨_, _, rfl, ⟨rfl, e1, e2, e3⟩, hI1, hb1⟩
theorem IX (n : ByteArray) (took : Bool) (T : Nat) (b : Bk) (nm : ByteArray) (w : World) (hT : w.cell? ⟨T, 0, none⟩ = some (.iface 123 (FY n took))) (hft : ∀ h ∈ b.hl, h.Fit) :
 mB 67 #[.pointer (some ⟨T, 0, none⟩)] b nm (O3 took) w := by
 intro b' i f P z W _ hpg hz hzW hI hN;have c0 : W.cell? ⟨T, 0, none⟩ = some (.iface 123 (FY n took)) := (hN.cell (aA hT)).trans hT
 show Calls Tryz.prog 67 #[.pointer (some ⟨P, 0, none⟩), .pointer (some ⟨T, 0, none⟩)] W _
 go_enter Tryz.func67, Tryz.ntmps67
 go_wp2_with fail
 refine (MO z P b' nm i f took n W hI (fun e => by obtain ⟨h, _⟩ := hpg.hd.1 e;rw [hpg.lk.len];exact h) (hpg.lk.fit hft)).mono ?_;rintro e w1 ⟨rfl, hI1, hb1⟩;go_wp2
 go_ret;exact ⟨_, _, rfl, ⟨rfl, rfl⟩, hI1, hb1⟩
theorem MD (T : Nat) (b : Bk) (nm : ByteArray) (w : World) (hT : w.cell? ⟨T, 0, none⟩ = some .nilIface) :
 mB 67 #[.pointer (some ⟨T, 0, none⟩)] b nm QO w := by
 intro b' i f P z W _ hpg hz hzW hI hN;have c0 : W.cell? ⟨T, 0, none⟩ = some .nilIface := (hN.cell (aA hT)).trans hT
 show Calls Tryz.prog 67 #[.pointer (some ⟨P, 0, none⟩), .pointer (some ⟨T, 0, none⟩)] W _
 go_enter Tryz.func67, Tryz.ntmps67
 go_wp2_with fail
 refine (OG P W).mono ?_;rintro e w1 ⟨rfl, hb1⟩;go_wp2
 go_ret;exact ⟨_, _, rfl, ⟨rfl, rfl⟩, hI.zL hb1, cA.below hb1⟩
def s9 (v : Ev) : Value := if v.k = 1 then .iface 119 v.x.val else if v.k = 2 then .iface 121 (DK v.n v.ta v.tl.length v.tc) else if v.k = 3 then .iface 123 (FY v.n v.t) else if v.k = 4 then .iface 125 (.agg #[.int .i64 1]) else .nilIface
theorem J1 (x : Wx) (w : World) : Calls Tryz.prog 268 #[x.val] w fun e w' => e = .returned (.int .i64 1) /\ Below w.heap.size w w' := by
 have hB : ∀ o, Below w.heap.size w (w.alloc o) := fun o => aB (br _ _) _
 go_enter Tryz.func268, Tryz.ntmps268
 go_wp2
 go_ret;exact ⟨rfl, hB _⟩
theorem F3 (n : ByteArray) (ta : Option Addr) (m tc : Nat) (w : World) : Calls Tryz.prog 270 #[DK n ta m tc] w fun e w' => e = .returned (.int .i64 2) /\ Below w.heap.size w w' := by
 have hB : ∀ o, Below w.heap.size w (w.alloc o) := fun o => aB (br _ _) _
 go_enter Tryz.func270, Tryz.ntmps270
 go_wp2
 go_ret;exact ⟨rfl, hB _⟩
theorem JQ (n : ByteArray) (t : Bool) (w : World) : Calls Tryz.prog 272 #[FY n t] w fun e w' => e = .returned (.int .i64 3) /\ Below w.heap.size w w' := by
 have hB : ∀ o, Below w.heap.size w (w.alloc o) := fun o => aB (br _ _) _
 go_enter Tryz.func272, Tryz.ntmps272
 go_wp2
 go_ret;exact ⟨rfl, hB _⟩
theorem I5 (n : Int) (w : World) : Calls Tryz.prog 274 #[.agg #[.int .i64 n]] w fun e w' => e = .returned (.int .i64 4) /\ Below w.heap.size w w' := by
 have hB : ∀ o, Below w.heap.size w (w.alloc o) := fun o => aB (br _ _) _
 go_enter Tryz.func274, Tryz.ntmps274
 go_wp2
 go_ret;exact ⟨rfl, hB _⟩
theorem PO (x : Wx) (w : World) : Sem.run Tryz.prog (method 450 119 x.val "loop.example/lapgive/impl.kind") w = .ok (268, x.val) w := by kernel_rfl
theorem OR (n : ByteArray) (ta : Option Addr) (m tc : Nat) (w : World) : Sem.run Tryz.prog (method 450 121 (DK n ta m tc) "loop.example/lapgive/impl.kind") w = .ok (270, DK n ta m tc) w := by kernel_rfl
theorem PL (n : ByteArray) (t : Bool) (w : World) : Sem.run Tryz.prog (method 450 123 (FY n t) "loop.example/lapgive/impl.kind") w = .ok (272, FY n t) w := by kernel_rfl
theorem PS (n : Int) (w : World) : Sem.run Tryz.prog (method 450 125 (.agg #[.int .i64 n]) "loop.example/lapgive/impl.kind") w = .ok (274, .agg #[.int .i64 n]) w := by kernel_rfl
set_option maxHeartbeats 8000000
def EO (iv : Value) (E : Nat) (kk k : Int) (j : Nat) (v : Value) (_ : World) : Prop :=
 match j with
 | 0 => v = iv
 | 1 => v = .int .i64 kk
 | 2 => v = .pointer (some ⟨E, 0, none⟩)
 | 3 => v = .int .i64 k
 | _ => True
theorem EO.zL {iv : Value} {E : Nat} {kk k : Int} (j : Nat) (v : Value) (w w' : World) (h : EO iv E kk k j v w) (_ : Below w.heap.size w w') : EO iv E kk k j v w' := h
def OE (v : Ev) (j : Nat) : Value := match j with | 0 => .iface 119 v.x.val | 1 => .iface 121 (DK v.n v.ta v.tl.length v.tc) | 2 => .iface 123 (FY v.n v.t) | _ => .iface 125 (.agg #[.int .i64 1])
theorem PF {v : Ev} {j : Nat} (hj : j < 4) (h : v.k = (j : Int) + 1) : s9 v = OE v j := by
 unfold s9 OE
 match j, hj with
 | 0, _ | 1, _ | 2, _ | 3, _ => simp at h;simp [h]
theorem NA {v : Ev} (h : ∀ j : Nat, j < 4 -> v.k ≠ (j : Int) + 1) : s9 v = .nilIface := by
 have h0 := h 0 (by omega);have h1 := h 1 (by omega);have h2 := h 2 (by omega);have h3 := h 3 (by omega);simp at h0 h1 h2 h3
 simp [s9, h0, h1, h2, h3]
theorem CI (v : Ev) (w : World) : Calls Tryz.prog 27 #[v.val] w fun e w' => e = .returned (s9 v) /\ Below w.heap.size w w' := by
 have hE0 := wnq w v.obj;have N0 : Below w.heap.size w (w.alloc v.obj) := aB (br _ _) _;obtain ⟨U, hU⟩ : ∃ U, w.alloc v.obj = U := ⟨_, rfl⟩;have z0 : U.heap.size = w.heap.size + 1 := by rw [← hU];simp
 rw [hU] at hE0 N0;obtain ⟨e0, e1, e2, e3, e4, e5, e6, e7, e8, e9, e10, e11⟩ := y6 hE0;have HE0 : Hid (U.heap[w.heap.size]? = some v.obj) := hE0;clear hE0
 go_enter Tryz.func27, Tryz.ntmps27
 go_wp2_with fail
 clear e0 e1 e2 e3 e4 e5 e6 e7 e8 e9 e10 e11;have S1 := wnq U (.cells #[.iface 119 v.x.val, .iface 121 (DK v.n v.ta v.tl.length v.tc), .iface 123 (FY v.n v.t), .iface 125 (.agg #[.int .i64 1])] 71);have N1 : Below w.heap.size w (U.alloc (.cells #[.iface 119 v.x.val, .iface 121 (DK v.n v.ta v.tl.length v.tc), .iface 123 (FY v.n v.t), .iface 125 (.agg #[.int .i64 1])] 71)) := aB N0 _;have E1 := bD HE0.out (aB (br U.heap.size U) (.cells #[.iface 119 v.x.val, .iface 121 (DK v.n v.ta v.tl.length v.tc), .iface 123 (FY v.n v.t), .iface 125 (.agg #[.int .i64 1])] 71));obtain ⟨W1, hW1⟩ : ∃ W, U.alloc (.cells #[.iface 119 v.x.val, .iface 121 (DK v.n v.ta v.tl.length v.tc), .iface 123 (FY v.n v.t), .iface 125 (.agg #[.int .i64 1])] 71) = W := ⟨_, rfl⟩;rw [hW1] at S1 N1 E1;rw [z0] at S1
 have HS1 : Hid (∀ j, j < 4 -> W1.cell? ⟨w.heap.size + 1, j, none⟩ = some (OE v j)) := fun j hj => by
  match j, hj with
  | 0, _ | 1, _ | 2, _ | 3, _ => exact aH S1 rfl
 have HE1 : Hid (W1.heap[w.heap.size]? = some v.obj) := E1;have HN1 : Hid (Below w.heap.size w W1) := N1;rw [hW1];clear hW1 hU S1 E1 HE0 N0 N1 z0
 go_loopw [25] (fun iv wr => ∃ k : Nat, k <= 4 /\ iv = .int .i64 k /\ Hid (∀ j : Nat, j < k -> v.k ≠ (j : Int) + 1) /\ Below W1.heap.size W1 wr) (fun iv _ => 4 - (intOf iv).toNat)
 case atStart => exact ⟨0, by omega, rfl, fun j h => absurd h (by omega), br _ _⟩
 case round =>
  obtain ⟨k, hk, rfl, hno, hB⟩ := hrel
  by_cases hlt : k < 4
  · have c : wr.cell? ⟨w.heap.size + 1, k, none⟩ = some (OE v k) := (hB.cell (aA (HS1.out k hlt))).trans (HS1.out k hlt)
    have e0 : wr.cell? ⟨w.heap.size, 0, none⟩ = some (.int .i64 v.k) := aH (bD HE1.out hB) rfl;have HEnd : Hid (v.k = (k : Int) + 1 -> s9 v = OE v k) := fun h => PF hlt h
    have HNo : Hid (¬ v.k = (k : Int) + 1 -> ∀ j : Nat, j < k + 1 -> v.k ≠ (j : Int) + 1) := fun h j hj => by
     by_cases e : j = k
     · rw [e];exact h
     · exact hno.out j (by omega)
    have HB : Hid (Below W1.heap.size W1 wr) := hB;clear hno hB;obtain ⟨iv, hiv⟩ : ∃ iv, iv = OE v k := ⟨_, rfl⟩;obtain ⟨kk, hkk⟩ : ∃ kk : Int, kk = (k : Int) + 1 := ⟨_, rfl⟩;rw [← hiv] at c HEnd;rw [← hkk] at HEnd HNo
    have HKd : Hid (∀ W, Calls Tryz.prog (match k with | 0 => 268 | 1 => 270 | 2 => 272 | _ => 274) #[match OE v k with | .iface _ x => x | x => x] W fun e w' => e = .returned (.int .i64 kk) /\ Below W.heap.size W w') := fun W => by
     rw [hkk]
     match k, hlt with
     | 0, _ => exact J1 v.x W
     | 1, _ => exact F3 _ _ _ _ W
     | 2, _ => exact JQ _ _ W
     | 3, _ => exact I5 _ W
    have HIV : Hid (iv = OE v k) := hiv;clear hiv hkk;obtain rfl | rfl | rfl | rfl : k = 0 ∨ k = 1 ∨ k = 2 ∨ k = 3 := by omega
    all_goals
     simp only [OE] at HIV HKd;go_wp2_with fail
     refine wpIn_wide.1 (aT (F := Fence.wide) (n := 0) (by kernel_rfl) 4 [some 29, some 30, some 31, some 32] (by decide) (EO iv w.heap.size kk v.k) EO.zL (by kernel_rfl) (by kernel_rfl) (by kernel_rfl) ?step ?fin)
     case step =>
      intro ii o vs w' hi' ho hB hd
      match ii, hi' with
      | 0, _ | 2, _ =>
       simp at ho;subst ho;simp only [aE, Act.put];gi_wp2;exact ⟨_, by simp [aI], rfl, br _ _⟩
      | 1, _ =>
       simp at ho;subst ho;have d0 : vs 0 = iv := Zq hd 0;rw [HIV.out] at d0;have m0 := PO v.x;have m1 := OR v.n v.ta v.tl.length v.tc;have m2 := PL v.n v.t;have m3 := PS 1;simp only [aE, Act.put];rw [d0];gi_wp2_with fail
       refine ⟨trivial, rfl, ?_⟩;refine (cw.2 (HKd.out w')).mono ?_;rintro e w5 ⟨rfl, hb5⟩;gi_wp2;exact ⟨_, by simp [aI, d0], rfl, hb5⟩
      | 3, _ =>
       simp at ho;subst ho;have e0' := (hB.cell (aA e0)).trans e0;have d2 : vs 2 = _ := Zq hd 2;simp only [aE, Act.put];rw [d2];gi_wp2;exact ⟨_, by simp [aI, d2], rfl, br _ _⟩
      | q + 4, h => exact absurd h (by omega)
     case fin =>
      intro vs w1 hB hp;have d1 : vs 1 = .int .i64 kk := hp 1 (by decide);have d3 : vs 3 = .int .i64 v.k := hp 3 (by decide);have HB1 : Hid (Below W1.heap.size W1 w1) := aD HB.out hB;clear hp hB c e0;simp only [lds, List.drop_zero, aE, Act.put];rw [d1, d3];clear d1 d3;generalize vs 0 = v0;generalize vs 2 = v2
      by_cases hq : v.k = kk
      · have hq2 : (kk == v.k) = true := by rw [hq];exact beq_self_eq_true kk
        have HX : Hid (s9 v = iv) := HEnd.out hq;have HF : Hid (Below w.heap.size w w1) := aD HN1.out HB1.out;clear hq;gi_wp2_with fail
        go_wp2
        go_ret;exact ⟨by rw [HX.out];rfl, HF.out⟩
      · have hq2 : (kk == v.k) = false := beq_false_of_ne (fun e => hq e.symm)
        have HX : Hid _ := HNo.out hq;clear hq;gi_wp2_with fail
        go_wp2
        go_roundw
        case rel => exact ⟨_, by omega, by go_num, HX, HB1.out⟩
        case measure => simp [intOf]
  · obtain rfl : k = 4 := by omega
    have HX : Hid (s9 v = .nilIface) := NA hno.out;have HF : Hid (Below w.heap.size w wr) := aD HN1.out hB;clear hno hB;go_wp2
    go_ret;exact ⟨by rw [HX.out];rfl, HF.out⟩
end Go.Proofs.YtiojdbffjdoniaaGreatDoor
