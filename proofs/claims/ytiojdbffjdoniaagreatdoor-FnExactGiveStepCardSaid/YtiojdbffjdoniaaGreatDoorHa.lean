import Derived.Test.YtiojdbffjdoniaaGreatDoorGc
namespace Go.Proofs.YtiojdbffjdoniaaGreatDoor
set_option maxRecDepth 100000
set_option maxHeartbeats 4000000
open Go.RowKit Go.Shelf
attribute [local go_sem] Oper.semAt_some
abbrev DS (n : ByteArray) (ta : Option Addr) (m tc : Nat) : Value := .agg #[.string n, .slice ta m tc]
abbrev EL (n : ByteArray) (t : Bool) : Value := .agg #[.string n, .bool t]
theorem JW (v : Value) (w : World) : (Instr.typeAssert (.iface 119 v) 71 181 true).run Tryz.prog w = .ok (.tuple #[.iface 119 v, .bool true]) w := run_typeAssert_hasB Tryz.underlying181 (by kernel_rfl) v _ w
theorem FB (v : Value) (w : World) : (Instr.typeAssert (.iface 121 v) 71 181 true).run Tryz.prog w = .ok (.tuple #[.iface 121 v, .bool true]) w := run_typeAssert_hasB Tryz.underlying181 (by kernel_rfl) v _ w
theorem JA (v : Value) (w : World) : (Instr.typeAssert (.iface 123 v) 71 181 true).run Tryz.prog w = .ok (.tuple #[.iface 123 v, .bool true]) w := run_typeAssert_hasB Tryz.underlying181 (by kernel_rfl) v _ w
theorem EJ (w : World) : (Instr.typeAssert .nilIface 71 181 true).run Tryz.prog w = .ok (.tuple #[.nilIface, .bool false]) w := by kernel_rfl
theorem FF (w : World) : (Instr.typeAssert .nilIface 71 119 true).run Tryz.prog w = .ok (.tuple #[HU, .bool false]) w := by kernel_rfl
theorem CJ (w : World) : (Instr.typeAssert .nilIface 71 121 true).run Tryz.prog w = .ok (.tuple #[FY, .bool false]) w := by kernel_rfl
theorem FN (w : World) : (Instr.typeAssert .nilIface 71 123 true).run Tryz.prog w = .ok (.tuple #[O7, .bool false]) w := by kernel_rfl
theorem EK (w : World) : (Instr.typeAssert .nilIface 71 125 true).run Tryz.prog w = .ok (.tuple #[QY, .bool false]) w := by kernel_rfl
theorem LQ (v : Value) (w : World) : (Instr.typeAssert (.iface 119 v) 71 119 true).run Tryz.prog w = .ok (.tuple #[v, .bool true]) w := by kernel_rfl
theorem yG (v : Value) (w : World) : (Instr.typeAssert (.iface 121 v) 71 119 true).run Tryz.prog w = .ok (.tuple #[HU, .bool false]) w := by kernel_rfl
theorem I7 (v : Value) (w : World) : (Instr.typeAssert (.iface 121 v) 71 121 true).run Tryz.prog w = .ok (.tuple #[v, .bool true]) w := by kernel_rfl
theorem BM (v : Value) (w : World) : (Instr.typeAssert (.iface 123 v) 71 119 true).run Tryz.prog w = .ok (.tuple #[HU, .bool false]) w := by kernel_rfl
theorem zN (v : Value) (w : World) : (Instr.typeAssert (.iface 123 v) 71 121 true).run Tryz.prog w = .ok (.tuple #[FY, .bool false]) w := by kernel_rfl
theorem ML (v : Value) (w : World) : (Instr.typeAssert (.iface 123 v) 71 123 true).run Tryz.prog w = .ok (.tuple #[v, .bool true]) w := by kernel_rfl
theorem NK (x : Wx) (w : World) : Calls Tryz.prog 269 #[x.val] w fun e w' => e = .returned (.string x.n) /\ Below w.heap.size w w' := by
 have hB : ∀ o, Below w.heap.size w (w.alloc o) := fun o => aA (br _ _) _; have c0 : (w.alloc (.cells #[.string x.n, .int .i64 x.q, .int .i64 x.s, .int .i64 x.f, .int .i64 x.b, .int .i64 x.l, .slice x.wa x.wl.length x.wc, .slice x.la x.ll.length x.lc] 119)).cell? ⟨w.heap.size, 0, none⟩ = some (.string x.n) := aK (wnq w _) rfl
 go_enter Tryz.func269, Tryz.ntmps269
 go_wp2
 go_ret; exact ⟨rfl, hB _⟩
theorem J8 (n : ByteArray) (ta : Option Addr) (m tc : Nat) (w : World) : Calls Tryz.prog 271 #[DS n ta m tc] w fun e w' => e = .returned (.string n) /\ Below w.heap.size w w' := by
 have hB : ∀ o, Below w.heap.size w (w.alloc o) := fun o => aA (br _ _) _; have c0 : (w.alloc (.cells #[.string n, .slice ta m tc] 121)).cell? ⟨w.heap.size, 0, none⟩ = some (.string n) := aK (wnq w _) rfl
 go_enter Tryz.func271, Tryz.ntmps271
 go_wp2
 go_ret; exact ⟨rfl, hB _⟩
theorem L0 (n : ByteArray) (t : Bool) (w : World) : Calls Tryz.prog 273 #[EL n t] w fun e w' => e = .returned (.string n) /\ Below w.heap.size w w' := by
 have hB : ∀ o, Below w.heap.size w (w.alloc o) := fun o => aA (br _ _) _; have c0 : (w.alloc (.cells #[.string n, .bool t] 123)).cell? ⟨w.heap.size, 0, none⟩ = some (.string n) := aK (wnq w _) rfl
 go_enter Tryz.func273, Tryz.ntmps273
 go_wp2
 go_ret; exact ⟨rfl, hB _⟩
theorem DF (x : Wx) (w : World) :
 Calls Tryz.prog 66 #[.iface 119 x.val] w fun e w' => e = .returned (.string x.n) /\ Below w.heap.size w w' := by
 have h0 := JW
 go_enter Tryz.func66, Tryz.ntmps66
 go_wp2_with fail
 refine (NK x w).mono ?_; rintro e w1 ⟨rfl, hb1⟩; go_wp2
 go_ret; exact ⟨rfl, hb1⟩
theorem zI (n : ByteArray) (ta : Option Addr) (m tc : Nat) (w : World) :
 Calls Tryz.prog 66 #[.iface 121 (DS n ta m tc)] w fun e w' => e = .returned (.string n) /\ Below w.heap.size w w' := by
 have h0 := FB
 go_enter Tryz.func66, Tryz.ntmps66
 go_wp2_with fail
 refine (J8 n ta m tc w).mono ?_; rintro e w1 ⟨rfl, hb1⟩; go_wp2
 go_ret; exact ⟨rfl, hb1⟩
theorem z7 (n : ByteArray) (t : Bool) (w : World) :
 Calls Tryz.prog 66 #[.iface 123 (EL n t)] w fun e w' => e = .returned (.string n) /\ Below w.heap.size w w' := by
 have h0 := JA
 go_enter Tryz.func66, Tryz.ntmps66
 go_wp2_with fail
 refine (L0 n t w).mono ?_; rintro e w1 ⟨rfl, hb1⟩; go_wp2
 go_ret; exact ⟨rfl, hb1⟩
theorem DU (w : World) :
 Calls Tryz.prog 66 #[.nilIface] w fun e w' => e = .returned (.string ⟨#[]⟩) /\ Below w.heap.size w w' := by
 have h0 := EJ
 go_enter Tryz.func66, Tryz.ntmps66
 go_wp2
 go_ret; exact ⟨rfl, br _ _⟩
theorem LT (z P : Nat) (b : Bk) (nm : ByteArray) (i : Nat) (f : Bool) (x : Wx) (w : World) (hI : iX z P w b nm i f) (hzw : z <= w.heap.size) (hA : fP w b) (hx : gW w x) (hnh : b.hl.length <= 64) (hi : i <= b.hl.length) :
 Calls Tryz.prog 68 #[.pointer (some ⟨P, 0, none⟩), .iface 119 x.val] w fun e w' => ∃ b'' : Bk, e = .returned (lF (gU b f x)) /\ b''.now = b.now /\ b''.fl = b.fl /\ aI (jU b nm i f x) b''.hl /\ iX z P w' b'' nm i f /\ bC (fun k => z <= k) w w' := by
 have hB : Below w.heap.size w (w.alloc (.cells #[.string x.n, .int .i64 x.q, .int .i64 x.s, .int .i64 x.f, .int .i64 x.b, .int .i64 x.l, .slice x.wa x.wl.length x.wc, .slice x.la x.ll.length x.lc] 119)) := aA (br _ _) _; have X1 := wnq w (.cells #[.string x.n, .int .i64 x.q, .int .i64 x.s, .int .i64 x.f, .int .i64 x.b, .int .i64 x.l, .slice x.wa x.wl.length x.wc, .slice x.la x.ll.length x.lc] 119); obtain ⟨W, hW⟩ : ∃ W, w.alloc (.cells #[.string x.n, .int .i64 x.q, .int .i64 x.s, .int .i64 x.f, .int .i64 x.b, .int .i64 x.l, .slice x.wa x.wl.length x.wc, .slice x.la x.ll.length x.lc] 119) = W := ⟨_, rfl⟩; rw [hW] at hB X1; obtain ⟨q0, q1, q2, q3, q4, q5, q6, q7⟩ := fS X1; have hs := hB.size; have h3 := LQ; obtain ⟨d, iw, k, hv, -⟩ := CN b f x; have HV : Hid (fV b f x = fY d iw k) := hv; clear hv X1
 go_enter Tryz.func68, Tryz.ntmps68
 go_wp2_with fail
 refine (IL z P b nm i f x W (hI.zL hB) (by omega) (hA.zL hB) (hx.zL hB) hnh hi).mono ?_; rintro e w1 ⟨b'', rfl, e1, e2, e3, hI1, hb1⟩; rw [HV.out]; have HR : Hid (b''.now = b.now /\ b''.fl = b.fl /\ aI (jU b nm i f x) b''.hl) := ⟨e1, e2, e3⟩; have HI2 : Hid (∀ o, iX z P (w1.alloc o) b'' nm i f) := fun o => hI1.zL (aA (br _ _) _); have HB2 : Hid (∀ o, bC (fun k => z <= k) w (w1.alloc o)) := fun o => ((bC.below hB).trans hb1).trans (bC.below (aA (br _ _) _)); clear e1 e2 e3 hI1 hb1 hB hI q0 q1 q2 q3 q4 q5 q6 q7 hW; go_wp2
 go_ret; exact ⟨b'', rfl, HR.out.1, HR.out.2.1, HR.out.2.2, HI2.out _, HB2.out _⟩
theorem J0 (z P : Nat) (b : Bk) (nm : ByteArray) (i : Nat) (f : Bool) (n : ByteArray) (tl : List Bx) (ta : Option Addr) (tc : Nat) (w : World) (hI : iX z P w b nm i f) (hzw : z <= w.heap.size) (hfi : f = true -> i < b.hl.length) (hft : ∀ h ∈ b.hl, h.Fit) (hnf : b.fl.length <= 1048576) (hnh : b.hl.length <= 64) (ht : iL w ta tl) (hnt : tl.length <= 1048576) :
 Calls Tryz.prog 68 #[.pointer (some ⟨P, 0, none⟩), .iface 121 (DS n ta tl.length tc)] w fun e w' => ∃ b'' : Bk, e = .returned (lF (gX b nm i f tl)) /\ b''.now = b.now /\ b''.fl = b.fl /\ aI (jA b nm i f tl) b''.hl /\ iX z P w' b'' nm i f /\ bC (fun k => z <= k) w w' := by
 have hB : Below w.heap.size w (w.alloc (.cells #[.string n, .slice ta tl.length tc] 121)) := aA (br _ _) _; have c1 : (w.alloc (.cells #[.string n, .slice ta tl.length tc] 121)).cell? ⟨w.heap.size, 1, none⟩ = some (.slice ta tl.length tc) := aK (wnq w _) rfl; obtain ⟨W, hW⟩ : ∃ W, w.alloc (.cells #[.string n, .slice ta tl.length tc] 121) = W := ⟨_, rfl⟩; rw [hW] at hB c1; have hs := hB.size; have h0 := yG; have h1 := I7
 go_enter Tryz.func68, Tryz.ntmps68
 go_wp2_with fail
 refine (JQ z P b nm i f tl ta tc W (hI.zL hB) (by omega) hfi hft hnf hnh (ht.zL hB) hnt).mono ?_; rintro e w1 ⟨b'', rfl, e1, e2, e3, hI1, hb1⟩; go_wp2_with fail
 go_ret; exact ⟨b'', rfl, e1, e2, e3, hI1, (bC.below hB).trans hb1⟩
theorem LP (z P : Nat) (b : Bk) (nm : ByteArray) (i : Nat) (f took : Bool) (n : ByteArray) (w : World) (hI : iX z P w b nm i f) (hfi : f = true -> i < b.hl.length) (hft : ∀ h ∈ b.hl, h.Fit) :
 Calls Tryz.prog 68 #[.pointer (some ⟨P, 0, none⟩), .iface 123 (EL n took)] w fun e w' => e = .returned (lF (kD b i f)) /\ iX z P w' (lI b i f took) nm i f /\ bC (fun k => z <= k) w w' := by
 have hB : Below w.heap.size w (w.alloc (.cells #[.string n, .bool took] 123)) := aA (br _ _) _; have c1 : (w.alloc (.cells #[.string n, .bool took] 123)).cell? ⟨w.heap.size, 1, none⟩ = some (.bool took) := aK (wnq w _) rfl; obtain ⟨W, hW⟩ : ∃ W, w.alloc (.cells #[.string n, .bool took] 123) = W := ⟨_, rfl⟩; rw [hW] at hB c1; have h0 := BM; have h1 := zN; have h2 := ML
 go_enter Tryz.func68, Tryz.ntmps68
 go_wp2_with fail
 refine (NI z P b nm i f took W (hI.zL hB) hfi hft).mono ?_; rintro e w1 ⟨rfl, hI1, hb1⟩; go_wp2_with fail
 go_ret; exact ⟨rfl, hI1, (bC.below hB).trans hb1⟩
theorem OK (P : Nat) (w : World) :
 Calls Tryz.prog 68 #[.pointer (some ⟨P, 0, none⟩), .nilIface] w fun e w' => e = .returned (lF 2) /\ Below w.heap.size w w' := by
 have h0 := FF; have h1 := CJ; have h2 := FN; have h3 := EK
 go_enter Tryz.func68, Tryz.ntmps68
 go_wp2
 go_ret; exact ⟨rfl, br _ _⟩
def RB (b' : Bk) (_ : Nat) (_ : Bool) (b'' : Bk) (c : Int) : Prop := c = 2 /\ b'' = b'
theorem KI (x : Wx) (T : Nat) (b : Bk) (nm : ByteArray) (w : World) (hT : w.cell? ⟨T, 0, none⟩ = some (.iface 119 x.val)) (hx : gW w x) (hnf : b.fl.length <= 1048576) (hs : ∀ f ∈ b.fl, f.n.size <= 9223372036854775807) (hft : ∀ h ∈ b.hl, h.Fit) :
 mJ 67 #[.pointer (some ⟨T, 0, none⟩)] b nm (Q0 nm x) w := by
 intro b' i f P z W hbk hpg hz hzW hI hN; have c0 : W.cell? ⟨T, 0, none⟩ = some (.iface 119 x.val) := (hN.cell (aB hT)).trans hT; have h16 := i8 hbk; have hA := hI.a.asks (by rw [hpg.fl]; exact hnf) (by rw [hpg.fl]; exact hs) (by rw [hpg.lk.len]; omega) (hpg.lk.fit hft); have hle : i <= b'.hl.length := by rw [hpg.lk.len]; exact hpg.at'.le
 have HBK : Hid _ := hbk; clear hbk
 show Calls Tryz.prog 67 #[.pointer (some ⟨P, 0, none⟩), .pointer (some ⟨T, 0, none⟩)] W _
 go_enter Tryz.func67, Tryz.ntmps67
 go_wp2_with fail
 refine (LT z P b' nm i f x W hI hzW hA (hx.zL hN) (by rw [hpg.lk.len]; omega) hle).mono ?_; rintro e w1 ⟨b'', rfl, e1, e2, e3, hI1, hb1⟩; go_wp2
 go_ret; exact ⟨_, _, rfl, ⟨rfl, e1, e2, e3⟩, hI1, hb1⟩
theorem DV (n : ByteArray) (tl : List Bx) (ta : Option Addr) (tc : Nat) (T : Nat) (b : Bk) (nm : ByteArray) (w : World) (hT : w.cell? ⟨T, 0, none⟩ = some (.iface 121 (DS n ta tl.length tc))) (ht : iL w ta tl) (hnt : tl.length <= 1048576) (hnf : b.fl.length <= 1048576) (hft : ∀ h ∈ b.hl, h.Fit) :
 mJ 67 #[.pointer (some ⟨T, 0, none⟩)] b nm (RE nm tl) w := by
 intro b' i f P z W hbk hpg hz hzW hI hN; have c0 : W.cell? ⟨T, 0, none⟩ = some (.iface 121 (DS n ta tl.length tc)) := (hN.cell (aB hT)).trans hT; have h16 := i8 hbk; have HBK : Hid _ := hbk; clear hbk
 show Calls Tryz.prog 67 #[.pointer (some ⟨P, 0, none⟩), .pointer (some ⟨T, 0, none⟩)] W _
 go_enter Tryz.func67, Tryz.ntmps67
 go_wp2_with fail
 refine (J0 z P b' nm i f n tl ta tc W hI hzW (fun e => by obtain ⟨h, _⟩ := hpg.hd.1 e; rw [hpg.lk.len]; exact h) (hpg.lk.fit hft) (by rw [hpg.fl]; exact hnf) (by rw [hpg.lk.len]; omega) (ht.zL hN) hnt).mono ?_; rintro e w1 ⟨b'', rfl, e1, e2, e3, hI1, hb1⟩; go_wp2
 go_ret; exact ⟨_, _, rfl, ⟨rfl, e1, e2, e3⟩, hI1, hb1⟩
theorem KC (n : ByteArray) (took : Bool) (T : Nat) (b : Bk) (nm : ByteArray) (w : World) (hT : w.cell? ⟨T, 0, none⟩ = some (.iface 123 (EL n took))) (hft : ∀ h ∈ b.hl, h.Fit) :
 mJ 67 #[.pointer (some ⟨T, 0, none⟩)] b nm (PE took) w := by
 intro b' i f P z W _ hpg hz hzW hI hN; have c0 : W.cell? ⟨T, 0, none⟩ = some (.iface 123 (EL n took)) := (hN.cell (aB hT)).trans hT
 show Calls Tryz.prog 67 #[.pointer (some ⟨P, 0, none⟩), .pointer (some ⟨T, 0, none⟩)] W _
 go_enter Tryz.func67, Tryz.ntmps67
 go_wp2_with fail
 refine (LP z P b' nm i f took n W hI (fun e => by obtain ⟨h, _⟩ := hpg.hd.1 e; rw [hpg.lk.len]; exact h) (hpg.lk.fit hft)).mono ?_; rintro e w1 ⟨rfl, hI1, hb1⟩; go_wp2
 go_ret; exact ⟨_, _, rfl, ⟨rfl, rfl⟩, hI1, hb1⟩
theorem M9 (T : Nat) (b : Bk) (nm : ByteArray) (w : World) (hT : w.cell? ⟨T, 0, none⟩ = some .nilIface) :
 mJ 67 #[.pointer (some ⟨T, 0, none⟩)] b nm RB w := by
 intro b' i f P z W _ hpg hz hzW hI hN; have c0 : W.cell? ⟨T, 0, none⟩ = some .nilIface := (hN.cell (aB hT)).trans hT
 show Calls Tryz.prog 67 #[.pointer (some ⟨P, 0, none⟩), .pointer (some ⟨T, 0, none⟩)] W _
 go_enter Tryz.func67, Tryz.ntmps67
 go_wp2_with fail
 refine (OK P W).mono ?_; rintro e w1 ⟨rfl, hb1⟩; go_wp2
 go_ret; exact ⟨_, _, rfl, ⟨rfl, rfl⟩, hI.zL hb1, bC.below hb1⟩
def tD (v : Ev) : Value := if v.k = 1 then .iface 119 v.x.val else if v.k = 2 then .iface 121 (DS v.n v.ta v.tl.length v.tc) else if v.k = 3 then .iface 123 (EL v.n v.t) else if v.k = 4 then .iface 125 (.agg #[.int .i64 1]) else .nilIface
theorem JE (x : Wx) (w : World) : Calls Tryz.prog 268 #[x.val] w fun e w' => e = .returned (.int .i64 1) /\ Below w.heap.size w w' := by
 have hB : ∀ o, Below w.heap.size w (w.alloc o) := fun o => aA (br _ _) _
 go_enter Tryz.func268, Tryz.ntmps268
 go_wp2
 go_ret; exact ⟨rfl, hB _⟩
theorem FP (n : ByteArray) (ta : Option Addr) (m tc : Nat) (w : World) : Calls Tryz.prog 270 #[DS n ta m tc] w fun e w' => e = .returned (.int .i64 2) /\ Below w.heap.size w w' := by
 have hB : ∀ o, Below w.heap.size w (w.alloc o) := fun o => aA (br _ _) _
 go_enter Tryz.func270, Tryz.ntmps270
 go_wp2
 go_ret; exact ⟨rfl, hB _⟩
theorem IT (n : ByteArray) (t : Bool) (w : World) : Calls Tryz.prog 272 #[EL n t] w fun e w' => e = .returned (.int .i64 3) /\ Below w.heap.size w w' := by
 have hB : ∀ o, Below w.heap.size w (w.alloc o) := fun o => aA (br _ _) _
 go_enter Tryz.func272, Tryz.ntmps272
 go_wp2
 go_ret; exact ⟨rfl, hB _⟩
theorem KZ (n : Int) (w : World) : Calls Tryz.prog 274 #[.agg #[.int .i64 n]] w fun e w' => e = .returned (.int .i64 4) /\ Below w.heap.size w w' := by
 have hB : ∀ o, Below w.heap.size w (w.alloc o) := fun o => aA (br _ _) _
 go_enter Tryz.func274, Tryz.ntmps274
 go_wp2
 go_ret; exact ⟨rfl, hB _⟩
theorem PI (x : Wx) (w : World) : Sem.run Tryz.prog (method 450 119 x.val "loop.example/lapgive/impl.kind") w = .ok (268, x.val) w := by kernel_rfl
theorem OF (n : ByteArray) (ta : Option Addr) (m tc : Nat) (w : World) : Sem.run Tryz.prog (method 450 121 (DS n ta m tc) "loop.example/lapgive/impl.kind") w = .ok (270, DS n ta m tc) w := by kernel_rfl
theorem QA (n : ByteArray) (t : Bool) (w : World) : Sem.run Tryz.prog (method 450 123 (EL n t) "loop.example/lapgive/impl.kind") w = .ok (272, EL n t) w := by kernel_rfl
theorem PW (n : Int) (w : World) : Sem.run Tryz.prog (method 450 125 (.agg #[.int .i64 n]) "loop.example/lapgive/impl.kind") w = .ok (274, .agg #[.int .i64 n]) w := by kernel_rfl
set_option maxHeartbeats 8000000
def EO (iv : Value) (E : Nat) (kk k : Int) (j : Nat) (v : Value) (_ : World) : Prop :=
 match j with
 | 0 => v = iv
 | 1 => v = .int .i64 kk
 | 2 => v = .pointer (some ⟨E, 0, none⟩)
 | 3 => v = .int .i64 k
 | _ => True
theorem EO.zL {iv : Value} {E : Nat} {kk k : Int} (j : Nat) (v : Value) (w w' : World) (h : EO iv E kk k j v w) (_ : Below w.heap.size w w') : EO iv E kk k j v w' := h
def OU (v : Ev) (j : Nat) : Value := match j with | 0 => .iface 119 v.x.val | 1 => .iface 121 (DS v.n v.ta v.tl.length v.tc) | 2 => .iface 123 (EL v.n v.t) | _ => .iface 125 (.agg #[.int .i64 1])
theorem QC {v : Ev} {j : Nat} (hj : j < 4) (h : v.k = (j : Int) + 1) : tD v = OU v j := by
 unfold tD OU
 match j, hj with
 | 0, _ | 1, _ | 2, _ | 3, _ => simp at h; simp [h]
theorem MF {v : Ev} (h : ∀ j : Nat, j < 4 -> v.k ≠ (j : Int) + 1) : tD v = .nilIface := by
 have h0 := h 0 (by omega); have h1 := h 1 (by omega); have h2 := h 2 (by omega); have h3 := h 3 (by omega); simp at h0 h1 h2 h3
 simp [tD, h0, h1, h2, h3]
theorem A8 (v : Ev) (w : World) : Calls Tryz.prog 27 #[v.val] w fun e w' => e = .returned (tD v) /\ Below w.heap.size w w' := by
 have hE0 := wnq w v.obj; have N0 : Below w.heap.size w (w.alloc v.obj) := aA (br _ _) _; obtain ⟨U, hU⟩ : ∃ U, w.alloc v.obj = U := ⟨_, rfl⟩; have z0 : U.heap.size = w.heap.size + 1 := by rw [← hU]; simp
 rw [hU] at hE0 N0; obtain ⟨e0, e1, e2, e3, e4, e5, e6, e7, e8, e9, e10, e11⟩ := iU hE0; have HE0 : Hid (U.heap[w.heap.size]? = some v.obj) := hE0; clear hE0
 go_enter Tryz.func27, Tryz.ntmps27
 go_wp2_with fail
 clear e0 e1 e2 e3 e4 e5 e6 e7 e8 e9 e10 e11; have S1 := wnq U (.cells #[.iface 119 v.x.val, .iface 121 (DS v.n v.ta v.tl.length v.tc), .iface 123 (EL v.n v.t), .iface 125 (.agg #[.int .i64 1])] 71); have N1 : Below w.heap.size w (U.alloc (.cells #[.iface 119 v.x.val, .iface 121 (DS v.n v.ta v.tl.length v.tc), .iface 123 (EL v.n v.t), .iface 125 (.agg #[.int .i64 1])] 71)) := aA N0 _; have E1 := aY HE0.out (aA (br U.heap.size U) (.cells #[.iface 119 v.x.val, .iface 121 (DS v.n v.ta v.tl.length v.tc), .iface 123 (EL v.n v.t), .iface 125 (.agg #[.int .i64 1])] 71)); obtain ⟨W1, hW1⟩ : ∃ W, U.alloc (.cells #[.iface 119 v.x.val, .iface 121 (DS v.n v.ta v.tl.length v.tc), .iface 123 (EL v.n v.t), .iface 125 (.agg #[.int .i64 1])] 71) = W := ⟨_, rfl⟩; rw [hW1] at S1 N1 E1; rw [z0] at S1
 have HS1 : Hid (∀ j, j < 4 -> W1.cell? ⟨w.heap.size + 1, j, none⟩ = some (OU v j)) := fun j hj => by
  match j, hj with
  | 0, _ | 1, _ | 2, _ | 3, _ => exact aK S1 rfl
 have HE1 : Hid (W1.heap[w.heap.size]? = some v.obj) := E1; have HN1 : Hid (Below w.heap.size w W1) := N1; rw [hW1]; clear hW1 hU S1 E1 HE0 N0 N1 z0
 go_loopw [25] (fun iv wr => ∃ k : Nat, k <= 4 /\ iv = .int .i64 k /\ Hid (∀ j : Nat, j < k -> v.k ≠ (j : Int) + 1) /\ Below W1.heap.size W1 wr) (fun iv _ => 4 - (intOf iv).toNat)
 case atStart => exact ⟨0, by omega, rfl, fun j h => absurd h (by omega), br _ _⟩
 case round =>
  obtain ⟨k, hk, rfl, hno, hB⟩ := hrel
  by_cases hlt : k < 4
  · have c : wr.cell? ⟨w.heap.size + 1, k, none⟩ = some (OU v k) := (hB.cell (aB (HS1.out k hlt))).trans (HS1.out k hlt)
    have e0 : wr.cell? ⟨w.heap.size, 0, none⟩ = some (.int .i64 v.k) := aK (aY HE1.out hB) rfl; have HEnd : Hid (v.k = (k : Int) + 1 -> tD v = OU v k) := fun h => QC hlt h
    have HNo : Hid (¬ v.k = (k : Int) + 1 -> ∀ j : Nat, j < k + 1 -> v.k ≠ (j : Int) + 1) := fun h j hj => by
     by_cases e : j = k
     · rw [e]; exact h
     · exact hno.out j (by omega)
    have HB : Hid (Below W1.heap.size W1 wr) := hB; clear hno hB; obtain ⟨iv, hiv⟩ : ∃ iv, iv = OU v k := ⟨_, rfl⟩; obtain ⟨kk, hkk⟩ : ∃ kk : Int, kk = (k : Int) + 1 := ⟨_, rfl⟩; rw [← hiv] at c HEnd; rw [← hkk] at HEnd HNo
    have HKd : Hid (∀ W, Calls Tryz.prog (match k with | 0 => 268 | 1 => 270 | 2 => 272 | _ => 274) #[match OU v k with | .iface _ x => x | x => x] W fun e w' => e = .returned (.int .i64 kk) /\ Below W.heap.size W w') := fun W => by
     rw [hkk]
     match k, hlt with
     | 0, _ => exact JE v.x W
     | 1, _ => exact FP _ _ _ _ W
     | 2, _ => exact IT _ _ W
     | 3, _ => exact KZ _ W
    have HIV : Hid (iv = OU v k) := hiv; clear hiv hkk; obtain rfl | rfl | rfl | rfl : k = 0 ∨ k = 1 ∨ k = 2 ∨ k = 3 := by omega
    all_goals
     simp only [OU] at HIV HKd; go_wp2_with fail
     refine wpIn_wide.1 (aP (F := Fence.wide) (n := 0) (by kernel_rfl) 4 [some 29, some 30, some 31, some 32] (by decide) (EO iv w.heap.size kk v.k) EO.zL (by kernel_rfl) (by kernel_rfl) (by kernel_rfl) ?step ?fin)
     case step =>
      intro ii o vs w' hi' ho hB hd
      match ii, hi' with
      | 0, _ | 2, _ =>
       simp at ho; subst ho; simp only [aE, Act.put]; gi_wp2; exact ⟨_, by simp [aH], rfl, br _ _⟩
      | 1, _ =>
       simp at ho; subst ho; have d0 : vs 0 = iv := Zq hd 0; rw [HIV.out] at d0; have m0 := PI v.x; have m1 := OF v.n v.ta v.tl.length v.tc; have m2 := QA v.n v.t; have m3 := PW 1; simp only [aE, Act.put]; rw [d0]; gi_wp2_with fail
       refine ⟨trivial, rfl, ?_⟩; refine (cw.2 (HKd.out w')).mono ?_; rintro e w5 ⟨rfl, hb5⟩; gi_wp2; exact ⟨_, by simp [aH, d0], rfl, hb5⟩
      | 3, _ =>
       simp at ho; subst ho; have e0' := (hB.cell (aB e0)).trans e0; have d2 : vs 2 = _ := Zq hd 2; simp only [aE, Act.put]; rw [d2]; gi_wp2; exact ⟨_, by simp [aH, d2], rfl, br _ _⟩
      | q + 4, h => exact absurd h (by omega)
     case fin =>
      intro vs w1 hB hp; have d1 : vs 1 = .int .i64 kk := hp 1 (by decide); have d3 : vs 3 = .int .i64 v.k := hp 3 (by decide); have HB1 : Hid (Below W1.heap.size W1 w1) := aC HB.out hB; clear hp hB c e0; simp only [lds, List.drop_zero, aE, Act.put]; rw [d1, d3]; clear d1 d3; generalize vs 0 = v0; generalize vs 2 = v2
      by_cases hq : v.k = kk
      · have hq2 : (kk == v.k) = true := by rw [hq]; exact beq_self_eq_true kk
        have HX : Hid (tD v = iv) := HEnd.out hq; have HF : Hid (Below w.heap.size w w1) := aC HN1.out HB1.out; clear hq; gi_wp2_with fail
        go_wp2
        go_ret; exact ⟨by rw [HX.out]; rfl, HF.out⟩
      · have hq2 : (kk == v.k) = false := beq_false_of_ne (fun e => hq e.symm)
        have HX : Hid _ := HNo.out hq; clear hq; gi_wp2_with fail
        go_wp2
        go_roundw
        case rel => exact ⟨_, by omega, by go_num, HX, HB1.out⟩
        case measure => simp [intOf]
  · obtain rfl : k = 4 := by omega
    have HX : Hid (tD v = .nilIface) := MF hno.out; have HF : Hid (Below w.heap.size w wr) := aC HN1.out hB; clear hno hB; go_wp2
    go_ret; exact ⟨by rw [HX.out]; rfl, HF.out⟩
end Go.Proofs.YtiojdbffjdoniaaGreatDoor
