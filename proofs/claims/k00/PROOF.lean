import PyProof.Rows.All
import Wide.All
import OpenK.AllK
import Wide.FinOn
import HandS.ForMost
import HandS.ForExc
import HandS.Wide
import HandS.NoneIn
import HandS.ExcInit
import HandS.ExcValue
import HandS.ExcIs
import HandS.IsInst
import HandS.Flow
import KE.KExcIs
import PySem.Challenge.RW_answercut_k00_errors
set_option Elab.async false
set_option linter.all false
set_option maxRecDepth 100000
set_option maxHeartbeats 8000000
namespace Cut
open PySem PySem.Spec PyProof.Rows L2
/-! ### arithmetic -/
abbrev PR : Int := 1000000000000002493
theorem fm_bd (x : Int) {m : Int} (h : 0 < m) : 0 ≤ x.fmod m ∧ x.fmod m < m := by
  rw [Int.fmod_eq_emod_of_nonneg x (Int.le_of_lt h)]
  exact ⟨Int.emod_nonneg x (by omega), Int.emod_lt_of_pos x h⟩
theorem nab {x : Int} {n : Nat} (h0 : 0 ≤ x) (h : x < (2 : Int) ^ n) : x.natAbs < 2 ^ n := by
  have e : ((2 ^ n : Nat) : Int) = (2 : Int) ^ n := by simp
  omega
theorem mulOk {a b : Int} {n m : Nat} (ha0 : 0 ≤ a) (ha : a < (2 : Int) ^ n) (hb0 : 0 ≤ b) (hb : b < (2 : Int) ^ m) (h0 : 0 < n) (h1 : 0 < m) (h : n + m ≤ 1000000) : CMulW a b :=
  wide_mul (nab ha0 ha) (nab hb0 hb) h0 h1 h
/-! ### heaps -/
/-- all that is tracked stands as it was, but for what stands at a -/
def But (a : Addr) (H H' : Hp) : Prop := ∀ b o, b ≠ a → H b = some o → H' b = some o
theorem But.refl (a : Addr) (H : Hp) : But a H H := fun _ _ _ h => h
theorem But.trans {a : Addr} {H H1 H2 : Hp} (x : But a H H1) (y : But a H1 H2) : But a H H2 := fun b o n h => y b o n (x b o n h)
theorem But.same {a : Addr} {H H1 H2 : Hp} (x : But a H H1) (y : Same H1 H2) : But a H H2 := fun b o n h => y b o (x b o n h)
theorem Same.but {a : Addr} {H H1 : Hp} (x : Same H H1) : But a H H1 := fun b o _ h => x b o h
theorem But.upd {a : Addr} {H H1 : Hp} {o : HO} (x : But a H H1) : But a H (upd H1 a o) := fun b u n h => by
  rw [upd_ne n]
  exact x b u n h
theorem same_new {H : Hp} {p : Addr} {o : HO} (h : H p = none) : Same H (upd H p o) := fun b x e => by
  rw [upd_ne (ne_of_none e h)]
  exact e
theorem at_new {H : Hp} {p q : Addr} {o u : HO} (h : H q = some o) (n : H p = none) : upd H p u q = some o := by
  rw [upd_ne (ne_of_none h n)]
  exact h
/-! ### the numbers that choices come from -/
/-- at a the list [numbers, spot, cell]; b holds the numbers -/
structure Spr (H : Hp) (a b : Addr) (ns : List Int) (spot cell : Int) : Prop where
  top : H a = some (.lst [.ref b, .int spot, .int cell])
  low : H b = some (.lst (ns.map V.int))
  ne : b ≠ a
  nn : ∀ z ∈ ns, 0 ≤ z
  len : ns.length ≤ 17
  s0 : 0 ≤ spot
  c0 : 0 ≤ cell
/-- .. with a spot of at most n -/
def SprN (H : Hp) (a b : Addr) (n : Int) : Prop := ∃ ns spot cell, Spr H a b ns spot cell ∧ spot ≤ n
theorem Spr.move {H H' : Hp} {a b : Addr} {ns : List Int} {spot cell : Int} (x : Spr H a b ns spot cell) (s : ∀ c o, (c = a ∨ c = b) → H c = some o → H' c = some o) : Spr H' a b ns spot cell :=
  ⟨s _ _ (.inl rfl) x.top, s _ _ (.inr rfl) x.low, x.ne, x.nn, x.len, x.s0, x.c0⟩
theorem Spr.same {H H' : Hp} {a b : Addr} {ns : List Int} {spot cell : Int} (x : Spr H a b ns spot cell) (s : Same H H') : Spr H' a b ns spot cell := x.move fun c o _ e => s c o e
theorem SprN.same {H H' : Hp} {a b : Addr} {n : Int} (x : SprN H a b n) (s : Same H H') : SprN H' a b n := by
  obtain ⟨ns, spot, cell, h, l⟩ := x
  exact ⟨ns, spot, cell, h.same s, l⟩
theorem SprN.mono {H : Hp} {a b : Addr} {n m : Int} (x : SprN H a b n) (h : n ≤ m) : SprN H a b m := by
  obtain ⟨ns, spot, cell, h', l⟩ := x
  exact ⟨ns, spot, cell, h', Int.le_trans l h⟩
theorem SprN.put {H : Hp} {a b p : Addr} {o : HO} {n : Int} (x : SprN H a b n) (h1 : p ≠ a) (h2 : p ≠ b) : SprN (upd H p o) a b n := by
  obtain ⟨ns, spot, cell, h', l⟩ := x
  refine ⟨ns, spot, cell, h'.move fun c u hc e => ?_, l⟩
  rw [upd_ne (fun z => by rcases hc with hc | hc <;> (rw [hc] at z; first | exact h1 z.symm | exact h2 z.symm))]
  exact e
theorem SprN.at1 {H : Hp} {a b : Addr} {n : Int} (x : SprN H a b n) : ∃ o, H a = some o := let ⟨_, _, _, h, _⟩ := x; ⟨_, h.top⟩
theorem SprN.at2 {H : Hp} {a b : Addr} {n : Int} (x : SprN H a b n) : ∃ o, H b = some o := let ⟨_, _, _, h, _⟩ := x; ⟨_, h.low⟩
/-! ### data that is compared -/
theorem ints_dp {K : PySem.W.Frag} {H : Hp} : ∀ ns : List Int, DpAll K H (ns.map V.int) (ns.map PyData.int)
  | [] => .nil
  | z :: r => .cons (.int z) (ints_dp r)
theorem ints_lay : ∀ ns : List Int, PyData.canLayAll0 (ns.map PyData.int) = true
  | [] => by simp only [List.map_nil, PyData.canLayAll0]
  | z :: r => by
    have h := ints_lay r
    simp only [List.map_cons, PyData.canLayAll0, PyData.canLay0, h, Bool.and_self]
theorem ints_depth : ∀ ns : List Int, PyData.depthAll (ns.map PyData.int) ≤ 1
  | [] => by simp only [List.map_nil, PyData.depthAll]; omega
  | z :: r => by
    have h := ints_depth r
    simp only [List.map_cons, PyData.depthAll, PyData.depth]
    omega
theorem ints_shaped (ns : List Int) : SeqAt.shaped (.list (ns.map PyData.int)) = true := by
  have h1 := ints_depth ns
  have h2 : PyData.depth (.list (ns.map PyData.int)) ≤ 64 := by
    simp only [PyData.depth]
    omega
  show (PyData.canLay0 (.list (ns.map PyData.int)) && decide (PyData.depth (.list (ns.map PyData.int)) ≤ 64)) = true
  rw [Bool.and_eq_true]
  exact ⟨by simp only [PyData.canLay0]; exact ints_lay ns, decide_eq_true h2⟩
theorem ints_empty (ns : List Int) : (!PyData.eqv (.list (ns.map PyData.int)) (.list [])) = !ns.isEmpty := by
  cases ns with
  | nil => simp only [List.map_nil, PyData.eqv, PyData.eqvAll, List.isEmpty]
  | cons z r => simp only [List.map_cons, PyData.eqv, PyData.eqvAll, List.isEmpty]
end Cut
namespace Cut
open PySem PySem.Spec PyProof.Rows L2
def topS (i : Nat) : Stmt := PySem.Challenge.pw_answercut_k00_errors.main.body.getD i (.Pass ⟨0, 0, 0, 0⟩)
abbrev sSpread : Stmt := topS 16
abbrev sSpring : Stmt := topS 17
abbrev sUnder : Stmt := topS 18
abbrev sAny : Stmt := topS 19
theorem scSpread : FnScope ["small", "spot", "prime", "found", "lap"] ["small", "spot"] (defScope sSpread) := ⟨rfl, rfl, rfl, by decide +kernel, rfl, by decide +kernel, by decide +kernel⟩
theorem scUnder : FnScope ["spring", "many", "numbers", "spot", "cell", "found"] ["spring", "many"] (defScope sUnder) := ⟨rfl, rfl, rfl, by decide +kernel, rfl, by decide +kernel, by decide +kernel⟩
theorem scAny : FnScope ["spring", "items"] ["spring", "items"] (defScope sAny) := ⟨rfl, rfl, rfl, by decide +kernel, rfl, by decide +kernel, by decide +kernel⟩
/-- the built-ins that the draws call -/
structure Blt (mg : Str → Option Value) : Prop where
  int : mg "int" = none
  range : mg "range" = none
  len : mg "len" = none
  abs : mg "abs" = none
  enum : mg "enumerate" = none
theorem pr0 : (PR : Int) ≠ 0 := by decide
def ifBody : Stmt → List Stmt
  | .If _ b _ _ => b
  | _ => []
theorem ints_at {ns : List Int} (h : ns ≠ []) (x : Int) : ∃ z ∈ ns, atI (ns.map V.int) (x.fmod ((ns.map V.int).length : Nat)) = some (.int z) := by
  have hl : 0 < (ns.map V.int).length := by
    cases ns with
    | nil => exact absurd rfl h
    | cons z r => simp
  have b := fm_bd x (m := ((ns.map V.int).length : Nat)) (by omega)
  generalize x.fmod ((ns.map V.int).length : Nat) = k at b ⊢
  obtain ⟨j, rfl⟩ : ∃ j : Nat, k = (j : Int) := ⟨k.toNat, by omega⟩
  have hj : j < ns.length := by
    have e : (ns.map V.int).length = ns.length := List.length_map ..
    omega
  refine ⟨ns[j], List.getElem_mem hj, atI_nat ?_⟩
  rw [List.getElem?_map, List.getElem?_eq_getElem hj]
  rfl
section
variable {P : Program} {w : World} {K : PySem.W.Frag} {mg : Str → Option Value} {base : Heap}
def spSpread : Sp := fun vs H Q _ => ∃ a b : Int, vs = [.int a, .int b] ∧ 0 ≤ a ∧ a < 2 ^ 61 ∧ 0 ≤ b ∧ b < 2 ^ 60 ∧ ∀ r : Int, 0 ≤ r → Q (.int r) H
theorem ok_spread {f : Addr} {fd : FuncData} (F : Fun K "_law_spread" "_law_spread" sSpread f fd) (B : Blt mg) : FnOk P w K mg base CX0 1 f fd ["small", "spot"] spSpread := by
  refine F.ok scSpread (fun vs H Q E h => ?_) (fun cdv A outer s H vs Q E hr h => ?_)
  · obtain ⟨a, b, rfl, _⟩ := h
    rfl
  · obtain ⟨a, b, rfl, ha0, ha1, hb0, hb1, q⟩ := h
    refine ⟨_, pss_cons (ps_set (i := 2) scSpread.nd rfl (.inl rfl) pe_int)
      (pss_cons (ps_set (i := 3) scSpread.nd rfl (.inl rfl) (pe_op op_modN (pe_callTy call_int1 (by rfl) B.int (by decide +kernel) (pa_cons (pe_op op_add (pe_op op_add (pe_op op_mulW (pv 0) pe_int) (pe_op op_mulW (pv 1) pe_int)) pe_int) pa_nil)) (pv 2)))
      (pss_cons (ps_for PassesOwn.never rfl (pi_range1 (by rfl) B.range (pa_cons pe_int pa_nil)) (pg_name (i := 4) scSpread.nd rfl (.inl rfl))
        (pss_one (ps_set (i := 3) scSpread.nd rfl (.inl rfl) (pe_op op_modN (pe_callTy call_int1 (by rfl) B.int (by decide +kernel) (pa_cons (pe_op op_add (pe_op op_add (pe_op op_add (pe_op op_mulW (pv 3) (pv 3)) (pe_op op_mulW pe_int (pv 3))) (pe_op op_mulW pe_int (pv 4))) (pv 1)) pa_nil)) (pv 2)))))
      (pss_one (ps_ret (pe_op op_add (pe_op op_mulW (pv 3) (pv 2)) (pe_op op_modN (pe_callTy call_int1 (by rfl) B.int (by decide +kernel) (pa_cons (pe_op op_add (pe_op op_mulW (pv 3) pe_int) (pv 1)) pa_nil)) (pv 2))))))), ?_⟩
    have hp : (PR : Int) < 2 ^ 60 := by decide
    -- found = int(..) % prime
    refine ⟨_, rfl, _, _, rfl, rfl, mulOk (n := 61) (m := 63) ha0 ha1 (by decide) (by decide) (by decide) (by decide) (by decide), _, rfl, _, _, rfl, rfl, mulOk (n := 60) (m := 63) hb0 hb1 (by decide) (by decide) (by decide) (by decide) (by decide), _, _, rfl, rfl, _, _, rfl, rfl, .inl ⟨_, rfl, _, rfl, _, _, rfl, rfl, pr0, ?_⟩⟩
    have b1 := fm_bd (a * 7046029254386353087 + b * 3935559000370003845 + 19) (m := PR) (by decide)
    -- the loop
    refine ⟨4, rfl, by decide, by decide, for_range (n := 4) (fun i σ H' => ∃ f l, σ = [some (.int a), some (.int b), some (.int PR), some (.int f), l] ∧ 0 ≤ f ∧ f < PR ∧ H' = H) ⟨_, none, rfl, b1.1, b1.2, rfl⟩ ?_ ?_⟩
    · rintro i σ H' hi ⟨f, l, rfl, f0, f1, rfl⟩
      have g : f < 2 ^ 60 := Int.lt_trans f1 hp
      refine ⟨_, rfl, _, rfl, _, _, rfl, rfl, mulOk (n := 60) (m := 60) f0 g f0 g (by decide) (by decide) (by decide), _, rfl, _, _, rfl, rfl, mulOk (n := 2) (m := 60) (by decide) (by decide) f0 g (by decide) (by decide) (by decide), _, _, rfl, rfl, _, rfl, _, _, rfl, rfl, mulOk (n := 9) (m := 3) (by decide) (by decide) (by omega) (by show (0 : Int) + (i : Int) < 8; omega) (by decide) (by decide) (by decide), _, _, rfl, rfl, _, rfl, _, _, rfl, rfl, .inl ⟨_, rfl, _, rfl, _, _, rfl, rfl, pr0, ?_⟩⟩
      have b2 := fm_bd (f * f + 3 * f + 271 * (0 + (i : Int)) + b) (m := PR) (by decide)
      exact ⟨_, _, rfl, b2.1, b2.2, rfl⟩
    · rintro σ H' ⟨f, l, rfl, f0, f1, rfl⟩
      have g : f < 2 ^ 60 := Int.lt_trans f1 hp
      refine ⟨_, rfl, _, rfl, _, _, rfl, rfl, mulOk (n := 60) (m := 60) f0 g (by decide) hp (by decide) (by decide) (by decide), _, rfl, _, _, rfl, rfl, mulOk (n := 60) (m := 17) f0 g (by decide) (by decide) (by decide) (by decide) (by decide), _, rfl, _, _, rfl, rfl, .inl ⟨_, rfl, _, rfl, _, _, rfl, rfl, pr0, _, _, rfl, rfl, ?_⟩⟩
      have b3 := fm_bd (f * 65599 + b) (m := PR) (by decide)
      exact q _ (Int.add_nonneg (Int.mul_nonneg f0 (by decide)) b3.1)
def spUnder : Sp := fun vs H Q _ => ∃ (a b : Addr) (many n : Int), vs = [.ref a, .int many] ∧ SprN H a b n ∧ n < 2 ^ 40 ∧ 0 < many ∧ many.natAbs < 2 ^ 8000 ∧
  ∀ (r : Int) (H' : Hp), 0 ≤ r → r < many → But a H H' → SprN H' a b (n + 1) → Q (.int r) H'
theorem ok_under {f fS : Addr} {fd fdS : FuncData} (F : Fun K "_law_under" "_law_under" sUnder f fd) (B : Blt mg) (FS : Fun K "_law_spread" "_law_spread" sSpread fS fdS) (bS : Binds K fdS ["small", "spot"] []) (gS : mg "_law_spread" = some (.ref fS)) : FnOk P w K mg base CX0 2 f fd ["spring", "many"] spUnder := by
  have GS : FnOk P w K mg base CX0 1 fS fdS ["small", "spot"] spSpread := ok_spread FS B
  refine F.ok scUnder (fun vs H Q E h => ?_) (fun cdv A outer s H vs Q E hr h => ?_)
  · obtain ⟨a, b, many, n, rfl, _⟩ := h
    rfl
  · obtain ⟨a, b, many, n, rfl, ⟨ns, spot, cell, S, hs⟩, hn, hm, hmb, q⟩ := h
    have ixA : ∀ {H1 : Hp} {b : Addr} {ns : List Int} {sp ce : Int}, Spr H1 a b ns sp ce → SqL K H1 a [.ref b, .int sp, .int ce] := fun S => SqL.of S.top
    obtain ⟨tR, hR, fin⟩ : ∃ t : TS, PSs (cxOf CX0 P w K mg base ["spring", "many", "numbers", "spot", "cell", "found"] "_law_under" (defScope sUnder) f cdv A outer s H E).nox ((defBody sUnder).drop 1) t ∧
        ∀ (H1 : Hp) (x2 x3 x4 x5 : Option V) (ns : List Int) (sp ce : Int), Spr H1 a b ns sp ce → sp ≤ n + 1 → But a H H1 → t { nx := fun _ H' => Q .non H', rt := Q } [some (.ref a), some (.int many), x2, x3, x4, x5] H1 := by
      refine ⟨_, pss_cons (ps_set (i := 5) scUnder.nd rfl (.inl rfl) (pe_op op_modN (pe_callTy call_int1 (by rfl) B.int (by decide +kernel) (pa_cons (pe_ix ix_list (pv 0) pe_int (fun _ _ => rfl)) pa_nil)) (pv 1)))
        (pss_cons (ps_asg (pe_op op_fdivW (pe_ix ix_list (pv 0) pe_int (fun _ _ => rfl)) (pv 1)) (pg_sub (pv 0) pe_int set_list))
        (pss_one (ps_ret (pv 5)))), fun H1 x2 x3 x4 x5 ns sp ce S hsp hbut => ?_⟩
      refine ⟨_, rfl, a, _, 2, .int ce, rfl, rfl, ixA S, rfl, .inl ⟨_, rfl, _, rfl, _, _, rfl, rfl, (by show many ≠ 0; omega), ?_⟩⟩
      refine ⟨_, rfl, a, _, 2, .int ce, rfl, rfl, ixA S, rfl, _, rfl, _, _, rfl, rfl, wide_div hm hmb (by decide) (by decide), ?_⟩
      refine ⟨_, rfl, a, _, 2, 2, rfl, rfl, S.top, rfl, ?_⟩
      have bd := fm_bd ce hm
      refine ⟨_, rfl, q _ _ bd.1 bd.2 hbut.upd ⟨ns, sp, ce / many, ⟨upd_same, ?_, S.ne, S.nn, S.len, S.s0, Int.ediv_nonneg S.c0 (Int.le_of_lt hm)⟩, hsp⟩⟩
      rw [upd_ne S.ne]
      exact S.low
    obtain ⟨t3, h3, fin3⟩ : ∃ t : TS, PSs (cxOf CX0 P w K mg base ["spring", "many", "numbers", "spot", "cell", "found"] "_law_under" (defScope sUnder) f cdv A outer s H E).nox ((ifBody ((defBody sUnder).getD 0 (.Pass ⟨0, 0, 0, 0⟩))).drop 3) t ∧
        ∀ (H1 : Hp) (c : Int), 0 ≤ c → Spr H1 a b ns spot cell → But a H H1 → t { nx := tR { nx := fun _ H' => Q .non H', rt := Q }, rt := Q } [some (.ref a), some (.int many), some (.ref b), some (.int spot), some (.int c), none] H1 := by
      refine ⟨_, pss_cons (ps_asg (pe_op op_add (pv 3) pe_int) (pg_sub (pv 0) pe_int set_list)) (pss_one (ps_asg (pv 4) (pg_sub (pv 0) pe_int set_list))), fun H1 c hc S hbut => ?_⟩
      refine ⟨_, rfl, _, _, rfl, rfl, _, rfl, a, _, 1, 1, rfl, rfl, S.top, rfl, ?_⟩
      refine ⟨_, rfl, _, rfl, a, _, 2, 2, rfl, rfl, upd_same, rfl, ?_⟩
      refine fin _ _ _ _ _ ns (spot + 1) c ⟨upd_same, ?_, S.ne, S.nn, S.len, by have := S.s0; omega, hc⟩ (by omega) hbut.upd.upd
      rw [upd_ne S.ne, upd_ne S.ne]
      exact S.low
    obtain ⟨t2, h2, fin2⟩ : ∃ t : TS, PSs (cxOf CX0 P w K mg base ["spring", "many", "numbers", "spot", "cell", "found"] "_law_under" (defScope sUnder) f cdv A outer s H E).nox ((ifBody ((defBody sUnder).getD 0 (.Pass ⟨0, 0, 0, 0⟩))).drop 2) t ∧
        ∀ (H1 : Hp) (c : Int), 0 ≤ c → Spr H1 a b ns spot cell → But a H H1 → t { nx := tR { nx := fun _ H' => Q .non H', rt := Q }, rt := Q } [some (.ref a), some (.int many), some (.ref b), some (.int spot), some (.int c), none] H1 := by
      refine ⟨_, pss_cons (ps_if (PW.pt (pw_or (pt_cmpR op_lt (pv 4) (pe_op op_pow pe_int pe_int) (nomark _)) (pw_or1 (pt_cmpR op_ge (pv 3) (pe_callB call_len_seq (by rfl) B.len PySem.boot_len (pa_cons (pv 2) pa_nil)) (nomark _)))))
          (pss_one (ps_set (i := 4) scUnder.nd rfl (.inl rfl) (pe_call GS hr (by rfl) gS FS.kp bS .nil pass0 (pa_cons (pe_op op_add (pe_op op_modN (pe_callTy call_int1 (by rfl) B.int (by decide +kernel) (pa_cons (pv 4) pa_nil)) (pe_op op_pow pe_int pe_int)) (pe_op op_fdivN (pv 3) (pe_op op_add (pe_callB call_len_seq (by rfl) B.len PySem.boot_len (pa_cons (pv 2) pa_nil)) pe_int))) (pa_cons (pv 3) pa_nil))))) pss_nil) h3, fun H1 c hc S hbut => ?_⟩
      have go : ∀ r : Int, 0 ≤ r → _ := fun r hr => fin3 H1 r hr S hbut
      refine ⟨_, rfl, _, _, rfl, rfl, ⟨by decide, by decide, by decide⟩, _, _, rfl, rfl, _, rfl, ite2 (fun _ => iteT ?_) (fun _ => ⟨_, rfl, _, rfl, b, _, rfl, .inl (SqL.of S.low), _, _, rfl, rfl, _, rfl, ite2 (fun _ => ?_) (fun _ => go c hc)⟩)⟩
      all_goals
        have b1 := fm_bd c (m := 10 ^ (13 : Int).toNat) (by decide)
        have l0 : (0 : Int) < (((ns.map V.int).length : Nat) : Int) + 1 := by omega
        have l1 : (((ns.map V.int).length : Nat) : Int) ≤ 17 := by
          have e : (ns.map V.int).length = ns.length := List.length_map ..
          have := S.len
          omega
        have e2 := Int.fdiv_eq_ediv_of_nonneg spot (b := (((ns.map V.int).length : Nat) : Int) + 1) (by omega)
        have b2 := Int.ediv_nonneg S.s0 (Int.le_of_lt l0)
        have b3 := Int.ediv_le_self (b := (((ns.map V.int).length : Nat) : Int) + 1) S.s0
        refine ⟨_, rfl, .inl ⟨_, rfl, _, _, rfl, rfl, ⟨by decide, by decide, by decide⟩, _, _, rfl, rfl, (by show (10 : Int) ^ (13 : Int).toNat ≠ 0; decide), _, rfl, _, rfl, b, _, rfl, .inl (SqL.of S.low), _, _, rfl, rfl, _, _, rfl, rfl, ⟨by omega, by omega⟩, _, _, rfl, rfl, _, rfl, _, _, rfl, ?_, ?_, S.s0, ?_, fun r hr => go r hr⟩⟩
        · rw [e2]
          omega
        · rw [e2]
          have t : (10 : Int) ^ (13 : Int).toNat < 2 ^ 60 := by decide
          have t2 : (2 : Int) ^ 40 < 2 ^ 60 := by decide
          have t3 : (2 : Int) ^ 61 = 2 ^ 60 + 2 ^ 60 := by decide
          omega
        · have t2 : (2 : Int) ^ 40 < 2 ^ 60 := by decide
          omega
    refine ⟨_, pss_cons (ps_if (pt_cmpR op_lt (pe_ix ix_list (pv 0) pe_int (fun _ _ => rfl)) (pv 1) (nomark _))
        (pss_cons (ps_par (i := 2) (j := 3) (by rfl) scUnder.nd rfl rfl (by decide) rfl rfl (pa_cons (pe_ix ix_list (pv 0) pe_int (fun _ _ => rfl)) (pa_cons (pe_ix ix_list (pv 0) pe_int (fun _ _ => rfl)) pa_nil)) (by rfl))
        (pss_cons (ps_set (i := 4) scUnder.nd rfl (.inl rfl) (pe_ifExp (pt_cmpR (op_neD hr.units) (pv 2) (pe_lst pa_nil) (nomark _)) (pe_ix ix_list (pv 2) (pe_op op_modN (pe_callTy call_int1 (by rfl) B.int (by decide +kernel) (pa_cons (pv 3) pa_nil)) (pe_callB call_len_seq (by rfl) B.len PySem.boot_len (pa_cons (pv 2) pa_nil))) (fun _ _ => rfl)) pe_int)) h2)) pss_nil) hR, ?_⟩
    -- spring[2] < many
    refine ⟨_, rfl, a, _, 2, .int cell, rfl, rfl, ixA S, rfl, _, rfl, _, _, rfl, rfl, _, rfl, ite2 (fun _ => ?_) (fun _ => fin H none none none none ns spot cell S (by omega) (But.refl _ _))⟩
    -- numbers, spot = (spring[0], spring[1])
    refine ⟨_, rfl, a, _, 0, .ref b, rfl, rfl, ixA S, rfl, _, rfl, a, _, 1, .int spot, rfl, rfl, ixA S, rfl, _, _, rfl, ?_⟩
    -- numbers != []
    refine ⟨_, rfl, Nat.zero_le _, fun e he => ?_⟩
    have s1 : Same H (upd H e (.lst [])) := same_new he
    have S1 := S.same s1
    have hE : SqL K (upd H e (.lst [])) e [] := SqL.of upd_same
    have hB : SqL K (upd H e (.lst [])) b (ns.map V.int) := SqL.of S1.low
    refine ⟨.list (ns.map .int), .list [], .lst hB (ints_dp ns), .lst hE .nil, ints_shaped ns, by decide, _, rfl, ?_⟩
    rw [ints_empty]
    by_cases hne : ns = []
    · subst hne
      exact iteF (fin2 _ 0 (by decide) S1 (Same.but s1))
    · have e1 : (!ns.isEmpty) = true := by
        cases ns with
        | nil => exact absurd rfl hne
        | cons z r => rfl
      rw [e1]
      obtain ⟨z, hz, hat⟩ := ints_at hne spot
      refine iteT ⟨_, rfl, _, rfl, .inl ⟨_, rfl, _, rfl, b, _, rfl, .inl hB, _, _, rfl, rfl, ?_, b, _, _, _, rfl, rfl, hB, hat, ?_⟩⟩
      · show (((ns.map V.int).length : Nat) : Int) ≠ 0
        have e : (ns.map V.int).length = ns.length := List.length_map ..
        have e2 : 0 < ns.length := List.length_pos_iff.mpr hne
        omega
      · exact fin2 _ z (S.nn z hz) S1 (Same.but s1)
end
end Cut
namespace Cut
open PySem PySem.Spec PyProof.Rows L2
theorem scSpring : FnScope ["script", "one", "numbers", "spot"] ["script"] (defScope sSpring) := ⟨rfl, rfl, rfl, by decide +kernel, rfl, by decide +kernel, by decide +kernel⟩
theorem tyes {σ : L2.St} {H : Hp} {F G : Hp → Prop} (h : F H) : tYes σ H (fun b H3 => if b = true then F H3 else G H3) := by
  show (if true = true then F H else G H)
  rw [if_pos rfl]
  exact h
/-- a cut of ints -/
theorem cut_ints (ns : List Int) (lo hi : Option Int) : ∃ ms : List Int, cutV (ns.map V.int) lo hi = ms.map V.int ∧ ms.length = (cutV (ns.map V.int) lo hi).length := by
  unfold cutV
  refine ⟨(ns.drop (HT.sIx (ns.map V.int).length 0 lo)).take (HT.sIx (ns.map V.int).length (ns.map V.int).length hi - HT.sIx (ns.map V.int).length 0 lo), ?_, ?_⟩
  · rw [List.map_take, List.map_drop]
  · rw [← List.map_drop, ← List.map_take, List.length_map, List.length_map]
theorem cut_first (xs : List V) : (cutV xs none (some 17)).length = min 17 xs.length := by
  unfold cutV
  rw [show HT.sIx xs.length xs.length (some 17) = min 17 xs.length from HT.sIx_nat xs.length xs.length 17, HT.sIx_none, List.drop_zero, List.length_take]
  omega
theorem cut_then (xs : List V) (h : 0 < (cutV xs (some 17) (some 60)).length) : 17 < xs.length := by
  unfold cutV at h
  rw [show HT.sIx xs.length 0 (some 17) = min 17 xs.length from HT.sIx_nat xs.length 0 17, List.length_take, List.length_drop] at h
  omega
theorem abs_nn (x : Int) : (0 : Int) ≤ (if x < 0 then -x else x) := by
  split <;> omega
theorem at_ix {xs : List V} {k : Int} {v : V} (h : atI xs k = some v) : ∃ j, ixN xs.length k = some j ∧ xs[j]? = some v := by
  unfold atI at h
  exact Option.bind_eq_some_iff.mp h
theorem get_int {ns : List Int} {i : Nat} {x : V} (h : (ns.map V.int)[i]? = some x) : ∃ z, ns[i]? = some z ∧ x = .int z := by
  rw [List.getElem?_map] at h
  cases e : ns[i]? with
  | none => rw [e] at h; cases h
  | some z => rw [e] at h; exact ⟨z, rfl, (Option.some.inj h).symm⟩
theorem get_nn {ns : List Int} {i : Nat} {x : V} (nn : ∀ z ∈ ns, 0 ≤ z) (h : (ns.map V.int)[i]? = some x) : ∃ z, 0 ≤ z ∧ x = .int z := by
  obtain ⟨z, hz, e⟩ := get_int h
  exact ⟨z, nn z (List.mem_of_getElem? hz), e⟩
section
variable {P : Program} {w : World} {K : PySem.W.Frag} {mg : Str → Option Value} {base : Heap}
def spAny (K : PySem.W.Frag) : Sp := fun vs H Q _ => ∃ (a b l : Addr) (n : Int) (xs : List V), vs = [.ref a, .ref l] ∧ SprN H a b n ∧ n < 2 ^ 40 ∧ SqL K H l xs ∧ l ≠ a ∧ 0 < xs.length ∧ xs.length < 2 ^ 60 ∧
  ∀ (i : Nat) (x : V) (H' : Hp), xs[i]? = some x → But a H H' → SprN H' a b (n + 1) → Q x H'
theorem But.seqL {K : PySem.W.Frag} {H H' : Hp} {a l : Addr} {xs : List V} (e : But a H H') (h : SqL K H l xs) (n : l ≠ a) : SqL K H' l xs := by
  rcases h with (h | ⟨o, h⟩) | h
  · exact .inl (.inl (e _ _ n h))
  · exact .inl (.inr ⟨o, e _ _ n h⟩)
  · exact .inr h
theorem ok_any {f fU : Addr} {fd fdU : FuncData} (F : Fun K "_law_any" "_law_any" sAny f fd) (B : Blt mg) (FU : Fun K "_law_under" "_law_under" sUnder fU fdU) (GU : FnOk P w K mg base CX0 2 fU fdU ["spring", "many"] spUnder) (bU : Binds K fdU ["spring", "many"] []) (gU : mg "_law_under" = some (.ref fU)) :
    FnOk P w K mg base CX0 3 f fd ["spring", "items"] (spAny K) := by
  refine F.ok scAny (fun vs H Q E h => ?_) (fun cdv A outer s H vs Q E hr h => ?_)
  · obtain ⟨a, b, l, n, xs, rfl, _⟩ := h
    rfl
  · obtain ⟨a, b, l, n, xs, rfl, S, hn, hl, hne, h0, h1, q⟩ := h
    refine ⟨_, pss_one (ps_ret (pe_ix ix_list (pv 1) (pe_call GU hr (by rfl) gU FU.kp bU .nil pass0 (pa_cons (pv 0) (pa_cons (pe_callB call_len_seq (by rfl) B.len PySem.boot_len (pa_cons (pv 1) pa_nil)) pa_nil))) (fun _ _ => rfl))), ?_⟩
    have t : (2 : Nat) ^ 60 ≤ 2 ^ 8000 := Nat.pow_le_pow_right (by decide) (by decide)
    refine ⟨_, rfl, _, rfl, _, rfl, l, _, rfl, .inl hl, a, b, xs.length, n, rfl, S, hn, by omega, by omega, fun r H' r0 r1 but S' => ?_⟩
    obtain ⟨j, rfl⟩ : ∃ j : Nat, r = (j : Int) := ⟨r.toNat, by omega⟩
    have hj : j < xs.length := by omega
    exact ⟨l, _, _, xs[j], rfl, rfl, but.seqL hl hne, atI_nat (List.getElem?_eq_getElem hj), q j _ H' (List.getElem?_eq_getElem hj) but S'⟩
def spSpring (K : PySem.W.Frag) : Sp := fun vs H Q _ => ∃ (a : Addr) (ns : List Int), vs = [.ref a] ∧ SqL K H a (ns.map V.int) ∧ ∀ (H' : Hp) (p b : Addr), Same H H' → H p = none → H b = none → SprN H' p b 0 → Q (.ref p) H'
theorem ok_spring {f : Addr} {fd : FuncData} (F : Fun K "_law_spring" "_law_spring" sSpring f fd) (B : Blt mg) : FnOk P w K mg base CX0 1 f fd ["script"] (spSpring K) := by
  refine F.ok scSpring (fun vs H Q E h => ?_) (fun cdv A outer s H vs Q E hr h => ?_)
  · obtain ⟨a, ns, rfl, _⟩ := h
    rfl
  · obtain ⟨a, ns, rfl, hS, q⟩ := h
    refine ⟨_, pss_cons (ps_setLc (i := 2) (own := [("one", 1)]) (g := gName 1) (by rfl) scSpring.nd rfl rfl (sw_true rfl rfl rfl (by decide +kernel)) (pi_list (pe_slice sl_list (pv 0) po_none (po_some pe_int)))
          (blkOk_by (own := [("one", 1)]) (N := ["script", "one", "numbers", "spot"]) (sc := defScope sSpring) (by decide +kernel)) (fun _ _ _ _ _ => pg_name (i := 1) scSpring.nd rfl (Or.inl rfl)) (fun _ _ _ _ _ => pts_nil)
          (fun _ _ _ _ _ => pe_callB call_abs (by rfl) B.abs (by decide +kernel) (pa_cons (pv 1) pa_nil)))
      (pss_cons (ps_for PassesOwn.never rfl (pi_enum (by rfl) B.enum (pa_cons (pe_slice sl_list (pv 0) (po_some pe_int) (po_some pe_int)) pa_nil)) (pg_tup (by rfl) (pgs_cons (pg_name (i := 3) scSpring.nd rfl (.inl rfl)) (pgs_cons (pg_name (i := 1) scSpring.nd rfl (.inl rfl)) pgs_nil)))
        (pss_one (ps_asg (pe_op op_add (pe_ix ix_list (pv 2) (pe_op op_modN (pe_callTy call_int1 (by rfl) B.int (by decide +kernel) (pa_cons (pv 3) pa_nil)) pe_int) (fun _ _ => rfl)) (pe_callB call_abs (by rfl) B.abs (by decide +kernel) (pa_cons (pv 1) pa_nil)))
          (pg_sub (pv 2) (pe_op op_modN (pe_callTy call_int1 (by rfl) B.int (by decide +kernel) (pa_cons (pv 3) pa_nil)) pe_int) set_list))))
      (pss_one (ps_ret (pe_lst (pa_cons (pv 2) (pa_cons pe_int (pa_cons pe_int pa_nil))))))), ?_⟩
    -- script[:17]
    refine ⟨_, rfl, 17, rfl, a, _, rfl, hS, fun c nc => ?_⟩
    obtain ⟨ms, em, el⟩ := cut_ints ns none (some 17)
    have s1 : Same H (upd H c (.lst (cutV (ns.map V.int) none (some 17)))) := same_new nc
    refine ⟨c, rfl, ⟨_, SqL.of upd_same⟩, fun D nD => ?_⟩
    have ncD : D ≠ c := fun e => by
      rw [e, upd_same] at nD
      cases nD
    have nD0 : H D = none := s1.free nD
    refine lc_list (K := K) (a := c) (xs := cutV (ns.map V.int) none (some 17)) (fun i H' => Same H H' ∧ H' c = some (.lst (cutV (ns.map V.int) none (some 17))) ∧ ∃ ks : List Int, H' D = some (.lst (ks.map V.int)) ∧ ks.length = i ∧ ∀ z ∈ ks, 0 ≤ z)
      ⟨s1.trans (same_new nD), by rw [upd_ne ncD.symm]; exact upd_same, [], upd_same, rfl, fun _ z => nomatch z⟩ (fun i H' _ p => SqL.of p.2.1) ?_ ?_
    · rintro i x H' hx ⟨sm, hc, ks, hD, hk, nn⟩
      rw [em] at hx
      obtain ⟨z, hz, rfl⟩ := get_int hx
      refine ⟨rfl, ?_⟩
      refine tyes ?_
      refine ⟨_, rfl, _, rfl, _, hD, ?_, ?_⟩
      · have h1 : i < ms.length := (List.getElem?_eq_some_iff.mp hz).1
        rw [el, cut_first] at h1
        rw [List.length_map]
        exact small1000 (by omega)
      · refine ⟨fun b o e => ?_, ?_, ks ++ [if z < 0 then -z else z], ?_, ?_, ?_⟩
        · rw [upd_ne (ne_of_none e nD0)]
          exact sm _ _ e
        · rw [upd_ne ncD.symm]
          exact hc
        · rw [upd_same, List.map_append]
          rfl
        · rw [List.length_append, hk]
          rfl
        · intro y hy
          rcases List.mem_append.mp hy with hy | hy
          · exact nn y hy
          · rw [List.mem_singleton.mp hy]
            exact abs_nn z
    · rintro H' ⟨sm, hc, ks, hD, hk, nn⟩
      -- enumerate(script[17:60])
      refine ⟨_, rfl, 17, rfl, 60, rfl, a, _, rfl, sm.seq hS, fun e ne => ?_⟩
      obtain ⟨rs, er, elr⟩ := cut_ints ns (some 17) (some 60)
      have s2 : Same H' (upd H' e (.lst (cutV (ns.map V.int) (some 17) (some 60)))) := same_new ne
      have neD : D ≠ e := ne_of_none hD ne
      have ne0 : H e = none := sm.free ne
      have hE : SqL K (upd H' e (.lst (cutV (ns.map V.int) (some 17) (some 60)))) e (rs.map V.int) := SqL.of (by rw [upd_same, er])
      refine ⟨e, _, rfl, hE, ?_⟩
      refine ⟨fun i m σ H3 => ∃ y1 y3, σ = [some (.ref a), y1, some (.ref D), y3] ∧ i + m = rs.length ∧ Same H H3 ∧ H3 e = some (.lst (rs.map V.int)) ∧ ∃ ks : List Int, H3 D = some (.lst (ks.map V.int)) ∧ ks.length = min 17 ns.length ∧ ∀ z ∈ ks, 0 ≤ z,
        ⟨rs.length, none, none, rfl, by omega, sm.trans s2, by rw [upd_same, er], ks, s2 _ _ hD, by rw [hk, cut_first, List.length_map], nn⟩, fun i m σ H3 hW => ?_⟩
      obtain ⟨y1, y3, rfl, eim, sm3, h3e, ks, hD3, hk3, nn3⟩ := hW
      by_cases hi : i < rs.length
      · have hx : (rs.map V.int)[i]? = some (.int rs[i]) := by
          rw [List.getElem?_map, List.getElem?_eq_getElem hi]
          rfl
        have h17 : ks.length = 17 := by
          have := cut_then (ns.map V.int) (by omega)
          rw [List.length_map] at this
          omega
        refine .inr ⟨⟨_, _, SqL.of h3e, hx⟩, fun σ' H5 => ∃ y1 y3, σ' = [some (.ref a), y1, some (.ref D), y3] ∧ Same H H5 ∧ H5 e = some (.lst (rs.map V.int)) ∧ ∃ ks : List Int, H5 D = some (.lst (ks.map V.int)) ∧ ks.length = min 17 ns.length ∧ ∀ z ∈ ks, 0 ≤ z, fun σ' H5 hN => ?_, fun x H5 hy => ?_⟩
        · obtain ⟨z1, z3, e1, sm5, h5e, ks5, hD5, hk5, nn5⟩ := hN
          exact ⟨m - 1, by omega, z1, z3, e1, by omega, sm5, h5e, ks5, hD5, hk5, nn5⟩
        · obtain ⟨T, x1, rfl, nT, rfl, f1⟩ := hy
          have ex1 : x1 = .int rs[i] := Option.some.inj ((f1 _ (SqL.of h3e)).symm.trans hx)
          subst ex1
          refine ⟨T, [.int (i : Nat), .int rs[i]], rfl, .inl (.inl upd_same), rfl, .int (i : Nat), [.int rs[i]], rfl, .int rs[i], [], rfl, rfl, ?_⟩
          have sT : Same H3 (upd H3 T (.tup [.int (i : Nat), .int rs[i]])) := same_new nT
          have hD5 := sT _ _ hD3
          have h5e := sT _ _ h3e
          have sm5 := sm3.trans sT
          generalize upd H3 T (.tup [.int (i : Nat), .int rs[i]]) = H5 at hD5 h5e sm5 ⊢
          have e17 : (((ks.map V.int).length : Nat) : Int) = 17 := by
            rw [List.length_map, h17]
            rfl
          obtain ⟨z, hz, hat⟩ := ints_at (ns := ks) (fun q => by rw [q] at h17; cases h17) ((i : Nat) : Int)
          rw [e17] at hat
          obtain ⟨j, hj, _⟩ := at_ix hat
          refine ⟨_, rfl, _, rfl, .inl ⟨_, rfl, _, _, rfl, rfl, (by show (17 : Int) ≠ 0; decide), D, _, _, _, rfl, rfl, SqL.of hD5, hat, _, rfl, _, rfl, _, _, rfl, rfl, _, rfl, _, rfl, .inl ⟨_, rfl, _, _, rfl, rfl, (by show (17 : Int) ≠ 0; decide), D, _, _, j, rfl, rfl, hD5, hj, ?_⟩⟩⟩
          refine ⟨_, _, rfl, fun b o e => ?_, ?_, ks.set j (z + if rs[i] < 0 then -rs[i] else rs[i]), ?_, by rw [List.length_set]; exact hk3, ?_⟩
          · rw [upd_ne (ne_of_none e nD0)]
            exact sm5 _ _ e
          · rw [upd_ne neD.symm]
            exact h5e
          · rw [upd_same, List.map_set]
          · intro y hy
            rcases List.mem_or_eq_of_mem_set hy with hy | hy
            · exact nn3 y hy
            · rw [hy]
              exact Int.add_nonneg (nn3 z hz) (abs_nn _)
      · refine .inl ⟨⟨_, SqL.of h3e, ?_⟩, ?_⟩
        · rw [List.length_map]
          omega
        · refine ⟨_, rfl, Nat.le_trans (by decide : 3 ≤ 1000) (by decide), fun p np => ?_⟩
          have npD : D ≠ p := ne_of_none hD3 np
          refine q _ p D (sm3.trans (same_new np)) (sm3.free np) nD0 ⟨ks, 0, 0, ⟨upd_same, by rw [upd_ne npD]; exact hD3, npD, nn3, by omega, Int.le_refl _, Int.le_refl _⟩, Int.le_refl _⟩
end
end Cut
namespace Cut
open PySem PySem.Spec PyProof.Rows L2
/-! ### exceptions as values -/
section
variable {X : Cx} {o e : Expr} {es : List Expr} {to te : TE} {ta : TA} {f : Str} {p p' p1 p2 pos : Pos}
/-- C(e, ..), an own exception class with an own __init__ that keeps sp, as a value -/
def tMkV (C : Addr) (sp : Sp) (ta : TA) : TE := fun σ H Q => ta σ H fun vs H1 => vs.length ≤ 1000 ∧ ∀ a, H1 a = none → sp (.ref a :: vs) (upd H1 a (exo a C none)) (fun v H2 => v = .non ∧ Q (.ref a) H2) (fun _ _ _ => False)
theorem pe_oex {CX : CXT} {x : Str} {C fI : Addr} {k : Nat} {fd : FuncData} {ps : List Str} {sp : Sp} (T : OexC X.K C) (iC : PySem.W.findIn X.K (.ref C) "__init__" = some (some (.ref fI))) (tI : PySem.W.typeIn X.K (.ref fI) = some (.type "function"))
    (G : FnOk X.prog X.w X.K X.mg X.base CX k fI fd ps sp) (hr : Room (k + 1) X.A) (hb : Binds X.K fd ps []) (hx : Passes CX X (fun _ _ _ => False)) (hg : Gl X x) (hm : X.mg x = some (.ref C)) (ha : PA X (e :: es) ta)
    (hdb : (x == ("__debug__" : Str)) = false := by decide) (he : starEach (e :: es) X.env = (false, eval e X.env) :: starEach es X.env := by rfl) (hpl : (backTo pos (starEach es X.env)).any (·.1) = false := by rfl) :
    PE X (.Call (.Name x p) (e :: es) [] pos) (tMkV C sp ta) := by
  refine ⟨fun pins s σ H Q I h => ?_⟩
  obtain ⟨_, _, _, _, mro1, _, _, _, _, _, _, _, _, _, _, look1, refs1⟩ := T.cls
  refine wpAny_Call_Name_kw (ld_glob I hg hm ?_ hdb)
  refine PySem.W.callWith_K (h₀ := X.base) I.ok.mod.kin T.kC (thn (ha.run pos pins s σ H _ I h) fun ws sA got => ?_) he hpl
  obtain ⟨args, HA, IA, rel, short, mine⟩ := got
  refine ⟨IA.kIn, ?_⟩
  show wpAny _ _ (call (.ref C) ws) _ _ _
  obtain ⟨hA, gA, dA, tA, oA⟩ := sA
  -- the new exception stands one behind the tuple of its arguments
  generalize ex : hA.objs.size + 1 = x
  have above : hA.objs.size ≤ x := by omega
  have fresh : HA x = none := IA.hok.fresh above
  have due := mine x fresh
  have old : ∀ b o, hA.get? b = some o → ((hA.push (PySem.W.kdv_tup ws)).push (PySem.HandSPX.excO C hA.objs.size)).get? b = some o :=
    fun b o z => Heap.get?_push_of_some _ (Heap.get?_push_of_some _ z)
  have there : ((hA.push (PySem.W.kdv_tup ws)).push (PySem.HandSPX.excO C hA.objs.size)).get? x = some (PySem.HandSPX.excO C hA.objs.size) := by
    subst ex
    heap_get
  have IB := IA.laid (t' := tA) (a := x) (o := exo x C none) (h' := (hA.push (PySem.W.kdv_tup ws)).push (PySem.HandSPX.excO C hA.objs.size)) old above (exo_ok there)
  have relB : Vals (V.ref x :: args) (Value.ref x :: ws) := .cons rfl rel
  have many : (Value.ref x :: ws).length = ps.length := relB.length.symm.trans (G.len _ _ _ _ due)
  have fits : ws.length ≤ sizeLine := by
    rw [← Paired.length rel, sizeLine_eq]
    omega
  have bound := hb ⟨(hA.push (PySem.W.kdv_tup ws)).push (PySem.HandSPX.excO C hA.objs.size), gA, dA, tA, oA⟩ (Value.ref x :: ws) IB.kIn (by rw [List.append_nil]; exact many)
  rw [List.append_nil] at bound
  have ran := G.run _ X.stack _ _ ⟨Value.ref x :: ws, []⟩ (Value.ref x :: ws) _ _ (fun _ _ _ => False) (hr.make C ws []) (IB.env0.make C ws []) bound relB due
  subst ex
  refine wpAny_call (PySem.HandSPX.call_own F.excBase_ValueError (fun Y => PySem.HandSPX.refsVE_contains Y mro1 refs1) (IA.kIn _ _ look1) (PySem.W.looks_findIn IA.kIn iC) (fun self => PySem.W.bind_fn IA.kIn self tI) fits
    (codeAny_mono ran fun res sB left => ?_))
  match res, left with
  | .error er, left => exact hx pins σ _ _ er sB IB left
  | .ok (.ret u), left =>
    obtain ⟨v, HB, osB, bareB, unB, okB, rv, none1, fin⟩ := left
    subst none1
    exact ⟨rv, .ref _, HB, IB.call' (ch := []) osB unB okB bareB (fun b z => absurd z (by simp)), rfl, fin⟩
/-- e.f, e an exception that holds fs -/
def tXFld (K : PySem.W.Frag) (te : TE) (f : Str) : TE := fun σ H Q => te σ H fun x H1 => ∃ (a C d : Addr) (fs : List (Str × V)) (v : V), x = .ref a ∧ H1 a = some (exo a C (some d)) ∧ H1 d = some (exd d fs) ∧ ExcC K C ∧ PySem.W.findIn K (.ref C) f = some none ∧ fs.lookup f = some v ∧ Q v H1
theorem pe_xfld (he : PE X e te) (hb : attributeBase e f X.env (eval e X.env) = eval e X.env := by rfl) : PE X (.Attribute e f pos) (tXFld X.K te f) := by
  refine ⟨fun pins s σ H Q I h => ?_⟩
  refine attr_of hb (thn (he.run pins s σ H _ I h) fun u s1 hh => ?_)
  obtain ⟨x, H1, I1, rx, a, C, d, fs, v, ex, ea, ed, T, hno, hl, q⟩ := hh
  subst ex
  obtain rfl : u = Value.ref a := rx
  obtain ⟨t1, ho⟩ := exo_at I1.hok ea
  obtain ⟨mA, hns, hr⟩ := exd_at I1.hok ed
  obtain ⟨od, ho2, hl2⟩ := lookIn_ns hns
  obtain ⟨u, hu, ru⟩ := RelO.some_of (v := v) (o := mA f) (by rw [← hl]; exact hr f)
  have J : PySem.W.InstAt s1.heap a { cls := .ref C, dict := some d, data := .fields #[.ref t1, .none, .none, .none, .bool false, .none] } C (some od) := ⟨ho, rfl, rfl, ho2⟩
  exact HandSPX.exc_get I1.kIn J T.hg T.hk T.hs (PySem.W.findObj_own T.hd hno rfl (by rw [hl2, hu])) (handed_of ru) ⟨v, H1, I1.tok _, ru, q⟩
/-- at a: an exception of the class at D, made by an own __init__ or without one -/
def ExAt (H : Hp) (a D : Addr) : Prop := (∃ d fs, H a = some (exo a D (some d)) ∧ H d = some (exd d fs)) ∨ H a = some (ExO (.ref D) a)
theorem ExAt.same {H H' : Hp} {a D : Addr} (s : Same H H') (x : ExAt H a D) : ExAt H' a D := by
  rcases x with ⟨d, fs, h1, h2⟩ | h
  · exact .inl ⟨d, fs, s _ _ h1, s _ _ h2⟩
  · exact .inr (s _ _ h)
theorem ExAt.inst {pins : List (Addr × Obj)} {σ : L2.St} {H : Hp} {s : Shared} {a D : Addr} (I : Inv X pins σ H s) (x : ExAt H a D) : ∃ ox od, PySem.W.InstAt s.heap a ox D od := by
  rcases x with ⟨d, fs, h1, h2⟩ | h
  · obtain ⟨t1, ho⟩ := exo_at I.hok h1
    obtain ⟨mA, hns, hr⟩ := exd_at I.hok h2
    obtain ⟨od, ho2, hl2⟩ := lookIn_ns hns
    exact ⟨_, some od, ho, rfl, rfl, ho2⟩
  · obtain ⟨⟨oe, vs, ho, hz, hd, _⟩, _, _⟩ := I.hok a _ h
    obtain ⟨oc, od, oda, osl⟩ := oe
    obtain ⟨h1, h2⟩ := hz
    dsimp only at h1 h2 hd
    subst h1 h2 hd
    exact ⟨_, none, ho, rfl, rfl, trivial⟩
/-- isinstance(e, c), e such an exception -/
def rIsX (K : PySem.W.Frag) : List V → Hp → VK → Prop := fun xs H Q => ∃ (a D : Addr) (c : V) (cv : Value) (b : Bool), xs = [.ref a, c] ∧ ExAt H a D ∧ ExcC K D ∧ ClsV c cv ∧ PySem.W.kitOne K (.ref D) cv = some b ∧ Q (.bl b) H
theorem call_isX : CallR X (.builtin "isinstance") (rIsX X.K) := by
  intro pins s σ H xs us Q I r h
  obtain ⟨a, D, c, cv, b, rfl, hx, T, k, e, q⟩ := h
  obtain ⟨u1, u2, rfl, r1, r2⟩ := vals2 r
  have e2 := k.eq r2
  subst e2
  cases (show u1 = Value.ref a from r1)
  obtain ⟨ox, od, J⟩ := ExAt.inst I hx
  obtain ⟨cd, hcd, _⟩ := PySem.W.any_some T.hd
  exact PySem.W.kia_one (PySem.W.kitx_exc (by rw [hcd]; rfl) T.hg T.hk T.hs T.ha T.hn T.ht T.hm) I.kIn J e (fun z => nomatch z) fun tk => ⟨.bl b, H, I.tok tk, rfl, q⟩
end
end Cut
namespace Cut
open PySem PySem.Spec PyProof.Rows L2
/-! ### what the written part says of the classes, by one look -/
def excIs (K : PySem.W.Frag) (C : Addr) : Bool :=
  PySem.W.findIn K (.ref C) "__getattribute__" == some (some (.builtin "BaseException.__getattribute__")) && (PySem.W.findIn K (.ref C) "__getattr__" == some none &&
  (PySem.W.subIn K (.ref C) (.type "BaseException") == some true && (PySem.W.hasDictIn K C && (PySem.W.findIn K (.ref C) "__class__" == some (some (.builtin "object.__class__")) &&
  (PySem.W.specialIn K (.builtin "object.__class__") "__get__" == some (some (.builtin "getset_descriptor.__get__")) && (PySem.W.takesIn K (.builtin "object.__class__") == some true && PySem.W.mroIn K C (.type "object") == some true))))))
theorem excIs_of {K : PySem.W.Frag} {C : Addr} (h : excIs K C = true) : ExcC K C := by
  unfold excIs at h
  simp only [Bool.and_eq_true, beq_iff_eq] at h
  obtain ⟨h1, h2, h3, h4, h5, h6, h7, h8⟩ := h
  exact ⟨h1, h2, h3, h4, h5, h6, h7, h8⟩
def ownIs (K : PySem.W.Frag) (C : Addr) : Bool := match K.lookup C with
  | some ⟨.type "type", _, .cls cd, sl⟩ => (match cd.mro, sl.toList with
    | .ref C' :: bm, [_, _, _, _, some (.builtin n), _] => C' == C && (n == "ValueError.__new__" && (!cd.hasDel && (cd.hasDict && PySem.HandSPX.refsVE bm)))
    | _, _ => false)
  | _ => false
def oexIs (K : PySem.W.Frag) (C : Addr) : Bool := ownIs K C && (PySem.W.findIn K (.ref C) "__setattr__" == some (some (.builtin "object.__setattr__")) && (PySem.W.subIn K (.ref C) (.type "BaseException") == some true &&
  (PySem.W.typeIn K (.ref C) == some (.type "type") && PySem.W.keepIn K (.ref C))))
theorem oexIs_of {K : PySem.W.Frag} {C : Addr} (h : oexIs K C = true) : OexC K C := by
  unfold oexIs at h
  simp only [Bool.and_eq_true, beq_iff_eq] at h
  obtain ⟨h0, h1, h2, h3, h4⟩ := h
  refine ⟨?_, h1, h2, h3, h4⟩
  unfold ownIs at h0
  split at h0
  · rename_i dd cd sl look
    split at h0
    · rename_i C' bm k0 k1 k2 k3 n k5 em es
      simp only [Bool.and_eq_true, beq_iff_eq, Bool.not_eq_true'] at h0
      obtain ⟨rfl, rfl, nodel, hasd, refs⟩ := h0
      obtain ⟨nm, bs, mro, ns, qn, hd, sn, sub, ab, col, del⟩ := cd
      dsimp only at em nodel hasd
      subst em nodel hasd
      have hsl : sl = #[k0, k1, k2, k3, some (.builtin "ValueError.__new__"), k5] := by
        obtain ⟨l⟩ := sl
        simp only at es
        rw [es]
      subst hsl
      exact ⟨nm, qn, ns, bs, bm, sn, sub, ab, col, dd, k0, k1, k2, k3, k5, look, refs⟩
    · cases h0
  · cases h0
def tabIs (K : PySem.W.Frag) (cs : List Addr) : Bool := cs.length == 14 && (cs.all (excIs K) && ((List.range 14).all fun i => PySem.W.kitOne K (.ref (cs.getD i 0)) (.type "ValueError") == some true &&
  (List.range 14).all fun j => PySem.W.kitOne K (.ref (cs.getD i 0)) (.ref (cs.getD j 0)) == some (i == j || j == 13)))
/-- the fourteen classes: the thirteen kinds, then their base -/
structure Tab (K : PySem.W.Frag) (cs : List Addr) : Prop where
  len : cs.length = 14
  ex : ∀ (i : Nat) (C : Addr), cs[i]? = some C → ExcC K C
  ve : ∀ (i : Nat) (C : Addr), cs[i]? = some C → PySem.W.kitOne K (.ref C) (.type "ValueError") = some true
  kit : ∀ (i j : Nat) (C D : Addr), cs[i]? = some C → cs[j]? = some D → PySem.W.kitOne K (.ref C) (.ref D) = some (i == j || j == 13)
theorem getD_of {cs : List Addr} {i : Nat} {C : Addr} (h : cs[i]? = some C) : cs.getD i 0 = C := by
  rw [List.getD_eq_getElem?_getD, h]
  rfl
theorem tabIs_of {K : PySem.W.Frag} {cs : List Addr} (h : tabIs K cs = true) : Tab K cs := by
  unfold tabIs at h
  simp only [Bool.and_eq_true, beq_iff_eq, List.all_eq_true, List.mem_range] at h
  obtain ⟨h1, h2, h3⟩ := h
  have lt : ∀ {i : Nat} {C : Addr}, cs[i]? = some C → i < 14 := fun {i C} e => by
    have := (List.getElem?_eq_some_iff.mp e).1
    omega
  refine ⟨h1, fun i C e => excIs_of (h2 C (List.mem_of_getElem? e)), fun i C e => ?_, fun i j C D e e2 => ?_⟩
  · have z := (h3 i (lt e)).1
    rw [getD_of e] at z
    exact z
  · have z := (h3 i (lt e)).2 j (lt e2)
    rw [getD_of e, getD_of e2] at z
    exact z
/-! ### the own __init__s -/
abbrev sInit2 : Stmt := inClass (topS 2) 0
abbrev sInitL : Stmt := inClass (topS 3) 0
abbrev sInitP : Stmt := inClass (topS 4) 0
abbrev sInitN : Stmt := inClass (topS 5) 0
theorem scI2 : FnScope ["self", "line", "column"] ["self", "line", "column"] (defScope sInit2) := ⟨rfl, rfl, rfl, by decide +kernel, rfl, by decide +kernel, by decide +kernel⟩
theorem scIL : FnScope ["self", "limit"] ["self", "limit"] (defScope sInitL) := ⟨rfl, rfl, rfl, by decide +kernel, rfl, by decide +kernel, by decide +kernel⟩
theorem scIP : FnScope ["self", "paper"] ["self", "paper"] (defScope sInitP) := ⟨rfl, rfl, rfl, by decide +kernel, rfl, by decide +kernel, by decide +kernel⟩
theorem scIN : FnScope ["self", "paper"] ["self", "paper"] (defScope sInitN) := ⟨rfl, rfl, rfl, by decide +kernel, rfl, by decide +kernel, by decide +kernel⟩
section
variable {P : Program} {w : World} {K : PySem.W.Frag} {mg : Str → Option Value} {base : Heap}
/-- behind such an __init__ of the exception at a: all else as it was, a holds the fields fs -/
def Made (C : Addr) (H : Hp) (a : Addr) (fs : List (Str × V)) (Q : VK) : Prop := ∀ (H' : Hp) (d : Addr), H d = none → d ≠ a → (∀ b, b ≠ a → b ≠ d → H' b = H b) → H' a = some (exo a C (some d)) → H' d = some (exd d fs) → Q .non H'
def spI1 (K : PySem.W.Frag) (C : Addr) (f : Str) : Sp := fun vs H Q _ => ∃ (a : Addr) (x : V), vs = [.ref a, x] ∧ OexC K C ∧ PySem.W.findIn K (.ref C) f = some none ∧ H a = some (exo a C none) ∧ Made C H a [(f, x)] Q
def spI2 (K : PySem.W.Frag) (C : Addr) : Sp := fun vs H Q _ => ∃ (a : Addr) (x y : V), vs = [.ref a, x, y] ∧ OexC K C ∧ PySem.W.findIn K (.ref C) "line" = some none ∧ PySem.W.findIn K (.ref C) "column" = some none ∧ H a = some (exo a C none) ∧ Made C H a [("column", y), ("line", x)] Q
theorem made1 {C a d : Addr} {H : Hp} {f : Str} {x : V} {Q : VK} (m : Made C H a [(f, x)] Q) (h : H d = none) (n : d ≠ a) : Q .non (upd (upd H d (exd d [(f, x)])) a (exo a C (some d))) :=
  m _ d h n (fun b h1 h2 => by rw [upd_ne h1, upd_ne h2]) upd_same (by rw [upd_ne n, upd_same])
theorem ok_i2 {f C : Addr} {fd : FuncData} (F : Fun K "__init__" "SyntaxProblem.__init__" sInit2 f fd) : FnOk P w K mg base CX0 1 f fd ["self", "line", "column"] (spI2 K C) := by
  refine F.ok scI2 (fun vs H Q E h => ?_) (fun cdv A outer s H vs Q E hr h => ?_)
  · obtain ⟨a, x, y, rfl, _⟩ := h
    rfl
  · obtain ⟨a, x, y, rfl, T, n1, n2, ha, m⟩ := h
    refine ⟨_, pss_cons (ps_ost (pv 0) (pv 1)) (pss_one (ps_ost (pv 0) (pv 2))), ?_⟩
    refine ⟨_, rfl, _, rfl, a, C, rfl, T, n1, .inl ⟨ha, fun d hd nd => ?_⟩⟩
    refine ⟨_, rfl, _, rfl, a, C, rfl, T, n2, .inr ⟨d, _, upd_same, by rw [upd_ne nd, upd_same], (by show 1 ≤ 900; decide), ?_⟩⟩
    exact m _ d hd nd (fun b h1 h2 => by rw [upd_ne h2, upd_ne h1, upd_ne h2]) (by rw [upd_ne (Ne.symm nd), upd_same]) upd_same
theorem ok_iL {f C : Addr} {fd : FuncData} (F : Fun K "__init__" "TooMany.__init__" sInitL f fd) : FnOk P w K mg base CX0 1 f fd ["self", "limit"] (spI1 K C "limit") := by
  refine F.ok scIL (fun vs H Q E h => ?_) (fun cdv A outer s H vs Q E hr h => ?_)
  · obtain ⟨a, x, rfl, _⟩ := h
    rfl
  · obtain ⟨a, x, rfl, T, n1, ha, m⟩ := h
    exact ⟨_, pss_one (ps_ost (pv 0) (pv 1)), _, rfl, _, rfl, a, C, rfl, T, n1, .inl ⟨ha, fun d hd nd => made1 m hd nd⟩⟩
theorem ok_iP {f C : Addr} {fd : FuncData} (F : Fun K "__init__" "NoLine.__init__" sInitP f fd) : FnOk P w K mg base CX0 1 f fd ["self", "paper"] (spI1 K C "paper") := by
  refine F.ok scIP (fun vs H Q E h => ?_) (fun cdv A outer s H vs Q E hr h => ?_)
  · obtain ⟨a, x, rfl, _⟩ := h
    rfl
  · obtain ⟨a, x, rfl, T, n1, ha, m⟩ := h
    exact ⟨_, pss_one (ps_ost (pv 0) (pv 1)), _, rfl, _, rfl, a, C, rfl, T, n1, .inl ⟨ha, fun d hd nd => made1 m hd nd⟩⟩
theorem ok_iN {f C : Addr} {fd : FuncData} (F : Fun K "__init__" "NotNested.__init__" sInitN f fd) : FnOk P w K mg base CX0 1 f fd ["self", "paper"] (spI1 K C "paper") := by
  refine F.ok scIN (fun vs H Q E h => ?_) (fun cdv A outer s H vs Q E hr h => ?_)
  · obtain ⟨a, x, rfl, _⟩ := h
    rfl
  · obtain ⟨a, x, rfl, T, n1, ha, m⟩ := h
    exact ⟨_, pss_one (ps_ost (pv 0) (pv 1)), _, rfl, _, rfl, a, C, rfl, T, n1, .inl ⟨ha, fun d hd nd => made1 m hd nd⟩⟩
/-! ### of which classes an error is -/
abbrev sKinds : Stmt := topS 20
theorem cat_step {H H1 : Hp} {p : Addr} {xs ys : List V} {Q : VK} (s : Same H H1) (hp : H1 p = some (.lst xs)) (hl : xs.length + ys.length ≤ sizeLine)
    (k : ∀ (H2 : Hp) (p2 : Addr), Same H H2 → H p2 = none → H2 p2 = some (.lst (xs ++ ys)) → Q (.ref p2) H2) (q : Addr) (hq : H1 q = none) : rCat (.ref p) (.ref q) (upd H1 q (.lst ys)) Q := by
  refine ⟨p, q, xs, ys, rfl, rfl, at_new hp hq, upd_same, hl, fun p2 h2 => ?_⟩
  have s2 := s.trans (same_new (o := .lst ys) hq)
  exact k _ p2 (s2.trans (same_new h2)) (s2.free h2) upd_same
theorem scKinds : FnScope ["caught", "found"] ["caught"] (defScope sKinds) := ⟨rfl, rfl, rfl, by decide +kernel, rfl, by decide +kernel, by decide +kernel⟩
/-- the names of the classes, in their order -/
structure Named (mg : Str → Option Value) (cs : List Addr) : Prop where
  n0 : ∃ C, cs[0]? = some C ∧ mg "SyntaxProblem" = some (.ref C)
  n1 : ∃ C, cs[1]? = some C ∧ mg "TooMany" = some (.ref C)
  n2 : ∃ C, cs[2]? = some C ∧ mg "NoLine" = some (.ref C)
  n3 : ∃ C, cs[3]? = some C ∧ mg "NotNested" = some (.ref C)
  n4 : ∃ C, cs[4]? = some C ∧ mg "NoTable" = some (.ref C)
  n5 : ∃ C, cs[5]? = some C ∧ mg "NoRow" = some (.ref C)
  n6 : ∃ C, cs[6]? = some C ∧ mg "RowTaken" = some (.ref C)
  n7 : ∃ C, cs[7]? = some C ∧ mg "NoQuestion" = some (.ref C)
  n8 : ∃ C, cs[8]? = some C ∧ mg "NoAnswer" = some (.ref C)
  n9 : ∃ C, cs[9]? = some C ∧ mg "NoPrice" = some (.ref C)
  n10 : ∃ C, cs[10]? = some C ∧ mg "NameTaken" = some (.ref C)
  n11 : ∃ C, cs[11]? = some C ∧ mg "NoMark" = some (.ref C)
  n12 : ∃ C, cs[12]? = some C ∧ mg "InvalidCommand" = some (.ref C)
  n13 : ∃ C, cs[13]? = some C ∧ mg "AnswerError" = some (.ref C)
  ve : mg "ValueError" = none
  isi : mg "isinstance" = none
def kinds (i : Nat) : List V := [.bl (i == 0 || 0 == 13), .bl (i == 1 || 1 == 13), .bl (i == 2 || 2 == 13), .bl (i == 3 || 3 == 13), .bl (i == 4 || 4 == 13), .bl (i == 5 || 5 == 13), .bl (i == 6 || 6 == 13), .bl (i == 7 || 7 == 13), .bl (i == 8 || 8 == 13),
  .bl (i == 9 || 9 == 13), .bl (i == 10 || 10 == 13), .bl (i == 11 || 11 == 13), .bl (i == 12 || 12 == 13), .bl (i == 13 || 13 == 13), .bl true]
def spKinds (cs : List Addr) : Sp := fun vs H Q _ => ∃ (e C : Addr) (i : Nat), vs = [.ref e] ∧ cs[i]? = some C ∧ ExAt H e C ∧ ∀ (H' : Hp) (p : Addr), Same H H' → H p = none → H' p = some (.lst (kinds i)) → Q (.ref p) H'
theorem ok_kinds {cs : List Addr} {f : Addr} {fd : FuncData} (F : Fun K "_law_kinds_of" "_law_kinds_of" sKinds f fd) (T : Tab K cs) (N : Named mg cs) : FnOk P w K mg base CX0 1 f fd ["caught"] (spKinds cs) := by
  refine F.ok scKinds (fun vs H Q E h => ?_) (fun cdv A outer s H vs Q E hr h => ?_)
  · obtain ⟨e, C, i, rfl, _⟩ := h
    rfl
  · obtain ⟨e, C, i, rfl, hC, hx, q⟩ := h
    obtain ⟨C0, c0, g0⟩ := N.n0
    obtain ⟨C1, c1, g1⟩ := N.n1
    obtain ⟨C2, c2, g2⟩ := N.n2
    obtain ⟨C3, c3, g3⟩ := N.n3
    obtain ⟨C4, c4, g4⟩ := N.n4
    obtain ⟨C5, c5, g5⟩ := N.n5
    obtain ⟨C6, c6, g6⟩ := N.n6
    obtain ⟨C7, c7, g7⟩ := N.n7
    obtain ⟨C8, c8, g8⟩ := N.n8
    obtain ⟨C9, c9, g9⟩ := N.n9
    obtain ⟨C10, c10, g10⟩ := N.n10
    obtain ⟨C11, c11, g11⟩ := N.n11
    obtain ⟨C12, c12, g12⟩ := N.n12
    obtain ⟨C13, c13, g13⟩ := N.n13
    have X := T.ex i C hC
    have isi := @call_isX (cxOf CX0 P w K mg base ["caught", "found"] "_law_kinds_of" (defScope sKinds) f cdv A outer s H E).nox
    refine ⟨_, pss_cons (ps_set (i := 1) scKinds.nd rfl (.inl rfl) (pe_lst (pa_cons (pe_callB isi (by rfl) N.isi (by decide +kernel) (pa_cons (pv 0) (pa_cons (pe_glob (v := .ref C0) rfl g0 rfl) pa_nil)))
        (pa_cons (pe_callB isi (by rfl) N.isi (by decide +kernel) (pa_cons (pv 0) (pa_cons (pe_glob (v := .ref C1) rfl g1 rfl) pa_nil)))
        (pa_cons (pe_callB isi (by rfl) N.isi (by decide +kernel) (pa_cons (pv 0) (pa_cons (pe_glob (v := .ref C2) rfl g2 rfl) pa_nil))) pa_nil)))))
      (pss_cons (ps_set (i := 1) scKinds.nd rfl (.inl rfl) (pe_op op_cat (pv 1) (pe_lst (pa_cons (pe_callB isi (by rfl) N.isi (by decide +kernel) (pa_cons (pv 0) (pa_cons (pe_glob (v := .ref C3) rfl g3 rfl) pa_nil)))
        (pa_cons (pe_callB isi (by rfl) N.isi (by decide +kernel) (pa_cons (pv 0) (pa_cons (pe_glob (v := .ref C4) rfl g4 rfl) pa_nil)))
        (pa_cons (pe_callB isi (by rfl) N.isi (by decide +kernel) (pa_cons (pv 0) (pa_cons (pe_glob (v := .ref C5) rfl g5 rfl) pa_nil))) pa_nil))))))
      (pss_cons (ps_set (i := 1) scKinds.nd rfl (.inl rfl) (pe_op op_cat (pv 1) (pe_lst (pa_cons (pe_callB isi (by rfl) N.isi (by decide +kernel) (pa_cons (pv 0) (pa_cons (pe_glob (v := .ref C6) rfl g6 rfl) pa_nil)))
        (pa_cons (pe_callB isi (by rfl) N.isi (by decide +kernel) (pa_cons (pv 0) (pa_cons (pe_glob (v := .ref C7) rfl g7 rfl) pa_nil))) pa_nil)))))
      (pss_cons (ps_set (i := 1) scKinds.nd rfl (.inl rfl) (pe_op op_cat (pv 1) (pe_lst (pa_cons (pe_callB isi (by rfl) N.isi (by decide +kernel) (pa_cons (pv 0) (pa_cons (pe_glob (v := .ref C8) rfl g8 rfl) pa_nil))) pa_nil))))
      (pss_cons (ps_set (i := 1) scKinds.nd rfl (.inl rfl) (pe_op op_cat (pv 1) (pe_lst (pa_cons (pe_callB isi (by rfl) N.isi (by decide +kernel) (pa_cons (pv 0) (pa_cons (pe_glob (v := .ref C9) rfl g9 rfl) pa_nil)))
        (pa_cons (pe_callB isi (by rfl) N.isi (by decide +kernel) (pa_cons (pv 0) (pa_cons (pe_glob (v := .ref C10) rfl g10 rfl) pa_nil)))
        (pa_cons (pe_callB isi (by rfl) N.isi (by decide +kernel) (pa_cons (pv 0) (pa_cons (pe_glob (v := .ref C11) rfl g11 rfl) pa_nil))) pa_nil))))))
      (pss_cons (ps_set (i := 1) scKinds.nd rfl (.inl rfl) (pe_op op_cat (pv 1) (pe_lst (pa_cons (pe_callB isi (by rfl) N.isi (by decide +kernel) (pa_cons (pv 0) (pa_cons (pe_glob (v := .ref C12) rfl g12 rfl) pa_nil)))
        (pa_cons (pe_callB isi (by rfl) N.isi (by decide +kernel) (pa_cons (pv 0) (pa_cons (pe_glob (v := .ref C13) rfl g13 rfl) pa_nil))) pa_nil)))))
      (pss_cons (ps_set (i := 1) scKinds.nd rfl (.inl rfl) (pe_op op_cat (pv 1) (pe_lst (pa_cons (pe_callB isi (by rfl) N.isi (by decide +kernel) (pa_cons (pv 0) (pa_cons (pe_bltn (v := .ty "ValueError") (by rfl) N.ve (by decide +kernel) rfl) pa_nil))) pa_nil))))
      (pss_one (ps_ret (pv 1))))))))), ?_⟩
    have ln : ∀ n : Nat, n ≤ 1000 → n ≤ sizeLine := fun n h => Nat.le_of_lt (small1000 h)
    refine ⟨_, rfl, ⟨e, C, .ref C0, .ref C0, _, rfl, hx.same (Same.refl _), X, .own C0, T.kit i 0 C C0 hC c0, _, rfl, ⟨e, C, .ref C1, .ref C1, _, rfl, hx.same (Same.refl _), X, .own C1, T.kit i 1 C C1 hC c1, _, rfl, ⟨e, C, .ref C2, .ref C2, _, rfl, hx.same (Same.refl _), X, .own C2, T.kit i 2 C C2 hC c2, ln 3 (by decide), fun p1 e1 => ?_⟩⟩⟩⟩
    have s1 := same_new (o := .lst [.bl (i == 0 || 0 == 13), .bl (i == 1 || 1 == 13), .bl (i == 2 || 2 == 13)]) e1
    refine ⟨_, rfl, _, rfl, ⟨e, C, .ref C3, .ref C3, _, rfl, hx.same s1, X, .own C3, T.kit i 3 C C3 hC c3, _, rfl, ⟨e, C, .ref C4, .ref C4, _, rfl, hx.same s1, X, .own C4, T.kit i 4 C C4 hC c4, _, rfl, ⟨e, C, .ref C5, .ref C5, _, rfl, hx.same s1, X, .own C5, T.kit i 5 C C5 hC c5, ln 3 (by decide), cat_step s1 upd_same (ln 6 (by decide)) fun H2 p2 s2 n2 h2 => ?_⟩⟩⟩⟩
    refine ⟨_, rfl, _, rfl, ⟨e, C, .ref C6, .ref C6, _, rfl, hx.same s2, X, .own C6, T.kit i 6 C C6 hC c6, _, rfl, ⟨e, C, .ref C7, .ref C7, _, rfl, hx.same s2, X, .own C7, T.kit i 7 C C7 hC c7, ln 2 (by decide), cat_step s2 h2 (ln 8 (by decide)) fun H3 p3 s3 n3 h3 => ?_⟩⟩⟩
    refine ⟨_, rfl, _, rfl, ⟨e, C, .ref C8, .ref C8, _, rfl, hx.same s3, X, .own C8, T.kit i 8 C C8 hC c8, ln 1 (by decide), cat_step s3 h3 (ln 9 (by decide)) fun H4 p4 s4 n4 h4 => ?_⟩⟩
    refine ⟨_, rfl, _, rfl, ⟨e, C, .ref C9, .ref C9, _, rfl, hx.same s4, X, .own C9, T.kit i 9 C C9 hC c9, _, rfl, ⟨e, C, .ref C10, .ref C10, _, rfl, hx.same s4, X, .own C10, T.kit i 10 C C10 hC c10, _, rfl, ⟨e, C, .ref C11, .ref C11, _, rfl, hx.same s4, X, .own C11, T.kit i 11 C C11 hC c11, ln 3 (by decide), cat_step s4 h4 (ln 12 (by decide)) fun H5 p5 s5 n5 h5 => ?_⟩⟩⟩⟩
    refine ⟨_, rfl, _, rfl, ⟨e, C, .ref C12, .ref C12, _, rfl, hx.same s5, X, .own C12, T.kit i 12 C C12 hC c12, _, rfl, ⟨e, C, .ref C13, .ref C13, _, rfl, hx.same s5, X, .own C13, T.kit i 13 C C13 hC c13, ln 2 (by decide), cat_step s5 h5 (ln 14 (by decide)) fun H6 p6 s6 n6 h6 => ?_⟩⟩⟩
    refine ⟨_, rfl, _, rfl, ⟨e, C, .ty "ValueError", .type "ValueError", _, rfl, hx.same s6, X, .ty _, T.ve i C hC, ⟨ln 1 (by decide), cat_step s6 h6 (ln 15 (by decide)) fun H7 p7 s7 n7 h7 => ?_⟩⟩⟩
    exact ⟨_, rfl, q H7 p7 s7 n7 h7⟩
end
end Cut
namespace Cut
open PySem PySem.Spec PyProof.Rows L2
/-! ### data again -/
theorem Same.seqT {K : PySem.W.Frag} {H H' : Hp} {a : Addr} {xs : List V} (e : Same H H') (h : SqT K H a xs) : SqT K H' a xs := by
  rcases h with (h | ⟨o, h⟩) | h
  · exact .inl (.inl (e _ _ h))
  · exact .inl (.inr ⟨o, e _ _ h⟩)
  · exact .inr h
mutual
theorem dp_same {K : PySem.W.Frag} {H H' : Hp} (s : Same H H') : ∀ (d : PyData) (v : V), Dp K H v d → Dp K H' v d
  | .none, _, h => by cases h; exact .non
  | .bool b, _, h => by cases h; exact .bl b
  | .int i, _, h => by cases h; exact .int i
  | .str x, _, h => by cases h; exact .str x
  | .list ds, _, h => by
    cases h with
    | lst a b => exact .lst (s.seq a) (dps_same s ds _ b)
  | .tuple ds, _, h => by
    cases h with
    | tup a b => exact .tup (Same.seqT s a) (dps_same s ds _ b)
  | .dict _, _, h => by cases h
theorem dps_same {K : PySem.W.Frag} {H H' : Hp} (s : Same H H') : ∀ (ds : List PyData) (vs : List V), DpAll K H vs ds → DpAll K H' vs ds
  | [], _, h => by cases h; exact .nil
  | d :: ds, _, h => by
    cases h with
    | cons a b => exact .cons (dp_same s d _ a) (dps_same s ds _ b)
end
theorem bools_dp {K : PySem.W.Frag} {H : Hp} : ∀ bs : List Bool, DpAll K H (bs.map V.bl) (bs.map PyData.bool)
  | [] => .nil
  | z :: r => .cons (.bl z) (bools_dp r)
theorem bools_lay : ∀ bs : List Bool, PyData.canLayAll0 (bs.map PyData.bool) = true
  | [] => by simp only [List.map_nil, PyData.canLayAll0]
  | z :: r => by
    have h := bools_lay r
    simp only [List.map_cons, PyData.canLayAll0, PyData.canLay0, h, Bool.and_self]
theorem bools_depth : ∀ bs : List Bool, PyData.depthAll (bs.map PyData.bool) ≤ 1
  | [] => by simp only [List.map_nil, PyData.depthAll]; omega
  | z :: r => by
    have h := bools_depth r
    simp only [List.map_cons, PyData.depthAll, PyData.depth]
    omega
theorem bools_lay1 (bs : List Bool) : PyData.canLay0 (.list (bs.map PyData.bool)) = true := by
  simp only [PyData.canLay0]
  exact bools_lay bs
theorem bools_shaped (bs : List Bool) : SeqAt.shaped (.list (bs.map PyData.bool)) = true := by
  have h1 := bools_depth bs
  have h2 : PyData.depth (.list (bs.map PyData.bool)) ≤ 64 := by
    simp only [PyData.depth]
    omega
  show (PyData.canLay0 (.list (bs.map PyData.bool)) && decide (PyData.depth (.list (bs.map PyData.bool)) ≤ 64)) = true
  rw [Bool.and_eq_true]
  exact ⟨bools_lay1 bs, decide_eq_true h2⟩
theorem eqv_self {d : PyData} (h : SeqAt.shaped d = true) : PyData.eqv d d = true := by
  have h2 := (Bool.and_eq_true_iff.mp h).1
  first | exact SeqAt.eqv_refl d h2 | exact PySem.P3.eqv_refl d h2 | exact PySem.eqv_refl d h2 | exact PyData.eqv_refl d h2 | exact PySem.SeqAt.eqv_refl d h2
def kb (i : Nat) : List Bool := [i == 0 || 0 == 13, i == 1 || 1 == 13, i == 2 || 2 == 13, i == 3 || 3 == 13, i == 4 || 4 == 13, i == 5 || 5 == 13, i == 6 || 6 == 13, i == 7 || 7 == 13, i == 8 || 8 == 13, i == 9 || 9 == 13, i == 10 || 10 == 13, i == 11 || 11 == 13, i == 12 || 12 == 13, i == 13 || 13 == 13, true]
theorem kinds_kb (i : Nat) : kinds i = (kb i).map V.bl := rfl
def placed (i n : Nat) : List Bool := (List.range n).map fun j => decide (V.int (0 + (j : Nat)) = V.int (i : Nat))
theorem kb_placed : ∀ i, i < 13 → kb i = placed i 13 ++ [true, true] := by decide +kernel
theorem placed_more (i n : Nat) : placed i (n + 1) = placed i n ++ [decide (V.int (0 + (n : Nat)) = V.int (i : Nat))] := by
  unfold placed
  rw [List.range_succ, List.map_append]
  rfl
theorem placed_len (i n : Nat) : (placed i n).length = n := by
  unfold placed
  rw [List.length_map, List.length_range]
/-! ### what is made -/
def XO (H : Hp) (a C : Addr) (fs : List (Str × V)) : Prop := ∃ d, H a = some (exo a C (some d)) ∧ H d = some (exd d fs)
theorem XO.same {H H' : Hp} {a C : Addr} {fs : List (Str × V)} (s : Same H H') (x : XO H a C fs) : XO H' a C fs := let ⟨d, h1, h2⟩ := x; ⟨d, s _ _ h1, s _ _ h2⟩
theorem XO.at_ {H : Hp} {a C : Addr} {fs : List (Str × V)} (x : XO H a C fs) : ExAt H a C := let ⟨d, h1, h2⟩ := x; .inl ⟨d, fs, h1, h2⟩
theorem made_all {C a d : Addr} {H H' : Hp} {fs : List (Str × V)} (ha : H a = none) (hd : upd H a (exo a C none) d = none) (nd : d ≠ a) (k : ∀ b, b ≠ a → b ≠ d → H' b = upd H a (exo a C none) b)
    (h1 : H' a = some (exo a C (some d))) (h2 : H' d = some (exd d fs)) : Same H H' ∧ XO H' a C fs := by
  refine ⟨fun b o e => ?_, d, h1, h2⟩
  rw [upd_ne nd] at hd
  have n1 := ne_of_none e ha
  rw [k b n1 (ne_of_none e hd), upd_ne n1]
  exact e
section
variable {K : PySem.W.Frag} {H1 : Hp} {C a : Addr} {R : Hp → Prop}
theorem mk1 {f : Str} {x : V} (T : OexC K C) (n : PySem.W.findIn K (.ref C) f = some none) (ha : H1 a = none) (k : ∀ H' : Hp, Same H1 H' → XO H' a C [(f, x)] → R H') :
    spI1 K C f [.ref a, x] (upd H1 a (exo a C none)) (fun v H2 => v = .non ∧ R H2) (fun _ _ _ => False) :=
  ⟨a, x, rfl, T, n, upd_same, fun H' d hd nd kp h1 h2 => let ⟨s, xo⟩ := made_all ha hd nd kp h1 h2; ⟨rfl, k H' s xo⟩⟩
theorem mk2 {x y : V} (T : OexC K C) (n1 : PySem.W.findIn K (.ref C) "line" = some none) (n2 : PySem.W.findIn K (.ref C) "column" = some none) (ha : H1 a = none) (k : ∀ H' : Hp, Same H1 H' → XO H' a C [("column", y), ("line", x)] → R H') :
    spI2 K C [.ref a, x, y] (upd H1 a (exo a C none)) (fun v H2 => v = .non ∧ R H2) (fun _ _ _ => False) :=
  ⟨a, x, y, rfl, T, n1, n2, upd_same, fun H' d hd nd kp h1 h2 => let ⟨s, xo⟩ := made_all ha hd nd kp h1 h2; ⟨rfl, k H' s xo⟩⟩
end
def dP : PyData := .tuple [.tuple [.str "r", .str "s", .str "t"], .tuple [.tuple [.str "r", .str "s"]]]
def dC : PyData := .tuple [.str "x", .str "y", .tuple [.str "a", .str "b", .str "c"]]
/-- all that was tracked is as it was, but for lists -/
def SameT (H H' : Hp) : Prop := ∀ b o, H b = some o → (∀ xs, o ≠ .lst xs) → H' b = some o
theorem put_list {H : Hp} {l : Addr} {xs : List V} {o : HO} (h : H l = some (.lst xs)) : SameT H (upd H l o) := fun b u e n => by
  rw [upd_ne (ne_of e h (n xs))]
  exact e
theorem ext_lst {φ : Heap → Prop} (xs : List V) : HO.ext φ ≠ .lst xs := fun z => by cases z
theorem tup_lst {ys : List V} (xs : List V) : HO.tup ys ≠ .lst xs := fun z => by cases z
theorem XO.sameT {H H' : Hp} {a C : Addr} {fs : List (Str × V)} (s : SameT H H') (x : XO H a C fs) : XO H' a C fs := let ⟨d, h1, h2⟩ := x; ⟨d, s _ _ h1 ext_lst, s _ _ h2 ext_lst⟩
theorem ExAt.sameT {H H' : Hp} {a D : Addr} (s : SameT H H') (x : ExAt H a D) : ExAt H' a D := by
  rcases x with ⟨d, fs, h1, h2⟩ | h
  · exact .inl ⟨d, fs, s _ _ h1 ext_lst, s _ _ h2 ext_lst⟩
  · exact .inr (s _ _ h ext_lst)
/-- the two papers -/
def PapP (H : Hp) (t : Addr) : Prop := ∃ t1 t2 t3, H t = some (.tup [.ref t1, .ref t3]) ∧ H t1 = some (.tup [.str "r", .str "s", .str "t"]) ∧ H t3 = some (.tup [.ref t2]) ∧ H t2 = some (.tup [.str "r", .str "s"])
def PapC (H : Hp) (t : Addr) : Prop := ∃ t1, H t = some (.tup [.str "x", .str "y", .ref t1]) ∧ H t1 = some (.tup [.str "a", .str "b", .str "c"])
theorem PapP.sameT {H H' : Hp} {t : Addr} (s : SameT H H') (x : PapP H t) : PapP H' t := let ⟨t1, t2, t3, h1, h2, h3, h4⟩ := x; ⟨t1, t2, t3, s _ _ h1 tup_lst, s _ _ h2 tup_lst, s _ _ h3 tup_lst, s _ _ h4 tup_lst⟩
theorem PapC.sameT {H H' : Hp} {t : Addr} (s : SameT H H') (x : PapC H t) : PapC H' t := let ⟨t1, h1, h2⟩ := x; ⟨t1, s _ _ h1 tup_lst, s _ _ h2 tup_lst⟩
theorem PapP.same {H H' : Hp} {t : Addr} (s : Same H H') (x : PapP H t) : PapP H' t := x.sameT fun b o e _ => s b o e
theorem PapC.same {H H' : Hp} {t : Addr} (s : Same H H') (x : PapC H t) : PapC H' t := x.sameT fun b o e _ => s b o e
theorem PapP.dp {K : PySem.W.Frag} {H : Hp} {t : Addr} (x : PapP H t) : Dp K H (.ref t) dP := let ⟨t1, t2, t3, h1, h2, h3, h4⟩ := x
  .tup (SqT.of h1) (.cons (.tup (SqT.of h2) (.cons (.str _) (.cons (.str _) (.cons (.str _) .nil)))) (.cons (.tup (SqT.of h3) (.cons (.tup (SqT.of h4) (.cons (.str _) (.cons (.str _) .nil))) .nil)) .nil))
theorem PapC.dp {K : PySem.W.Frag} {H : Hp} {t : Addr} (x : PapC H t) : Dp K H (.ref t) dC := let ⟨t1, h1, h2⟩ := x
  .tup (SqT.of h1) (.cons (.str _) (.cons (.str _) (.cons (.tup (SqT.of h2) (.cons (.str _) (.cons (.str _) (.cons (.str _) .nil)))) .nil)))
theorem lkLine (x y : V) : ([("column", y), ("line", x)] : List (Str × V)).lookup ("line" : Str) = some x := by
  rw [lookup_put, if_neg (by decide +kernel), lookup_put, if_pos rfl]
theorem lkColumn (x y : V) : ([("column", y), ("line", x)] : List (Str × V)).lookup ("column" : Str) = some y := by
  rw [lookup_put, if_pos rfl]
theorem lk1 (f : Str) (x : V) : ([(f, x)] : List (Str × V)).lookup f = some x := by
  rw [lookup_put, if_pos rfl]
theorem dP_shaped : SeqAt.shaped dP = true := by decide +kernel
theorem dC_shaped : SeqAt.shaped dC = true := by decide +kernel
theorem four_shaped {a b c : Int} {d : PyData} (h : SeqAt.shaped d = true) (hd : d.depth ≤ 60) : SeqAt.shaped (.list [.int a, .int b, .int c, d]) = true := by
  have h1 := (Bool.and_eq_true_iff.mp h).1
  have h2 : PyData.depth (.list [.int a, .int b, .int c, d]) ≤ 64 := by
    simp only [PyData.depth, PyData.depthAll]
    omega
  show (PyData.canLay0 (.list [.int a, .int b, .int c, d]) && decide (PyData.depth (.list [.int a, .int b, .int c, d]) ≤ 64)) = true
  rw [Bool.and_eq_true]
  exact ⟨by simp only [PyData.canLay0, PyData.canLayAll0, h1, Bool.and_self], decide_eq_true h2⟩
end Cut
namespace Cut
open PySem PySem.Spec PyProof.Rows L2
abbrev sLaw : Stmt := topS 21
abbrev NL : List Str := ["script", "spring", "line", "column", "limit", "other", "text", "paper", "crossed", "built", "again", "place", "error", "k", "at"]
theorem scLaw : FnScope NL ["script"] (defScope sLaw) := ⟨rfl, rfl, rfl, by decide +kernel, rfl, by decide +kernel, by decide +kernel⟩
abbrev veT : List Value := [.type "ValueError", .type "Exception", .type "BaseException", .type "object"]
def spLaw (K : PySem.W.Frag) : Sp := fun vs H Q _ => ∃ (a : Addr) (ns : List Int), vs = [.ref a] ∧ SqL K H a (ns.map V.int) ∧ ∀ H', Q (.bl true) H'
/-- a class with an own __init__ -/
structure Oc (K : PySem.W.Frag) (mg : Str → Option Value) (x : Str) (C f : Addr) : Prop where
  g : mg x = some (.ref C)
  o : OexC K C
  i : PySem.W.findIn K (.ref C) "__init__" = some (some (.ref f))
  t : PySem.W.typeIn K (.ref f) = some (.type "function")
/-- a class without one -/
structure Pc (K : PySem.W.Frag) (mg : Str → Option Value) (x : Str) (C : Addr) : Prop where
  g : mg x = some (.ref C)
  q : PySem.W.excIn K C veT "ValueError.__new__" = true
  k : PySem.W.keepIn K (.ref C) = true
section
variable {P : Program} {w : World} {K : PySem.W.Frag} {mg : Str → Option Value} {base : Heap}
theorem law_tail {f fSp fU fA fK f0 f1 f2 f3 C0 C1 C2 C3 C4 C5 C6 C7 C8 C9 C10 C11 C12 C13 : Addr} {fd fdSp fdU fdA fdK fd0 fd1 fd2 fd3 : FuncData} (F : Fun K "law" "law" sLaw f fd) (B : Blt mg)
    (FSp : Fun K "_law_spring" "_law_spring" sSpring fSp fdSp) (bSp : Binds K fdSp ["script"] []) (gSp : mg "_law_spring" = some (.ref fSp)) (GSp : FnOk P w K mg base CX0 1 fSp fdSp ["script"] (spSpring K))
    (FU : Fun K "_law_under" "_law_under" sUnder fU fdU) (bU : Binds K fdU ["spring", "many"] []) (gU : mg "_law_under" = some (.ref fU)) (GU : FnOk P w K mg base CX0 2 fU fdU ["spring", "many"] spUnder)
    (FA : Fun K "_law_any" "_law_any" sAny fA fdA) (bA : Binds K fdA ["spring", "items"] []) (gA : mg "_law_any" = some (.ref fA)) (GA : FnOk P w K mg base CX0 3 fA fdA ["spring", "items"] (spAny K))
    (FK : Fun K "_law_kinds_of" "_law_kinds_of" sKinds fK fdK) (bK : Binds K fdK ["caught"] []) (gK : mg "_law_kinds_of" = some (.ref fK)) (GK : FnOk P w K mg base CX0 1 fK fdK ["caught"] (spKinds [C0, C1, C2, C3, C4, C5, C6, C7, C8, C9, C10, C11, C12, C13]))
    (T : Tab K [C0, C1, C2, C3, C4, C5, C6, C7, C8, C9, C10, C11, C12, C13])
    (O0 : Oc K mg "SyntaxProblem" C0 f0) (b0 : Binds K fd0 ["self", "line", "column"] []) (G0 : FnOk P w K mg base CX0 1 f0 fd0 ["self", "line", "column"] (spI2 K C0))
    (O1 : Oc K mg "TooMany" C1 f1) (b1 : Binds K fd1 ["self", "limit"] []) (G1 : FnOk P w K mg base CX0 1 f1 fd1 ["self", "limit"] (spI1 K C1 "limit"))
    (O2 : Oc K mg "NoLine" C2 f2) (b2 : Binds K fd2 ["self", "paper"] []) (G2 : FnOk P w K mg base CX0 1 f2 fd2 ["self", "paper"] (spI1 K C2 "paper"))
    (O3 : Oc K mg "NotNested" C3 f3) (b3 : Binds K fd3 ["self", "paper"] []) (G3 : FnOk P w K mg base CX0 1 f3 fd3 ["self", "paper"] (spI1 K C3 "paper"))
    (m0 : PySem.W.findIn K (.ref C0) "line" = some none) (m0' : PySem.W.findIn K (.ref C0) "column" = some none) (m1 : PySem.W.findIn K (.ref C1) "limit" = some none) (m2 : PySem.W.findIn K (.ref C2) "paper" = some none) (m3 : PySem.W.findIn K (.ref C3) "paper" = some none)
    (P4 : Pc K mg "NoTable" C4) (P5 : Pc K mg "NoRow" C5) (P6 : Pc K mg "RowTaken" C6) (P7 : Pc K mg "NoQuestion" C7) (P8 : Pc K mg "NoAnswer" C8) (P9 : Pc K mg "NoPrice" C9) (P10 : Pc K mg "NameTaken" C10) (P11 : Pc K mg "NoMark" C11)
    (P12 : Pc K mg "InvalidCommand" C12) (P13 : Pc K mg "AnswerError" C13)
    {cdv : Value} {A : Around} {outer : List Env} {s : Shared} {H : Hp} {E : XK} {Q : VK} (hr : Room 3 (A.deeper (envOfC "law" (defScope sLaw) s.heap.objs.size f cdv))) (q : ∀ H', Q (.bl true) H') :
    ∃ t : TS, PSs (cxOf CX0 P w K mg base NL "law" (defScope sLaw) f cdv A outer s H E).nox ((defBody sLaw).drop 9) t ∧ ∀ (J : Hp) (sc p t4 t6 l e0 e1 e2 e3 e4 e5 e6 e7 e8 e9 e10 e11 e12 : Addr) (k0 k1 k2 k3 : Int) (x : V), J l = some (.lst [.ref e0, .ref e1, .ref e2, .ref e3, .ref e4, .ref e5, .ref e6, .ref e7, .ref e8, .ref e9, .ref e10, .ref e11, .ref e12]) →
      XO J e0 C0 [("column", .int k1), ("line", .int k0)] → XO J e1 C1 [("limit", .int k2)] → XO J e2 C2 [("paper", .ref t4)] → XO J e3 C3 [("paper", .ref t6)] → ExAt J e4 C4 → ExAt J e5 C5 → ExAt J e6 C6 → ExAt J e7 C7 → ExAt J e8 C8 → ExAt J e9 C9 → ExAt J e10 C10 → ExAt J e11 C11 → ExAt J e12 C12 →
      PapP J t4 → PapC J t6 → t { nx := fun _ H' => Q .non H', rt := Q } [some (.ref sc), some (.ref p), some (.int k0), some (.int k1), some (.int k2), some (.int k3), some x, some (.ref t4), some (.ref t6), some (.ref l), none, none, none, none, none] J := by
  have hr1 : Room 1 _ := hr.mono (by decide)
  have hr2 : Room 2 _ := hr.mono (by decide)
  have nd := scLaw.nd
  have ln : ∀ n : Nat, n ≤ 1000 → n ≤ sizeLine := fun n h => Nat.le_of_lt (small1000 h)
  refine ⟨_, pss_cons (ps_set (i := 10) nd rfl (.inl rfl) (pe_lst (pa_cons (pe_oex O0.o O0.i O0.t G0 hr2 b0 pass0 (by rfl) O0.g (pa_cons (pv 5) (pa_cons (pv 2) pa_nil))) (pa_cons (pe_oex O1.o O1.i O1.t G1 hr2 b1 pass0 (by rfl) O1.g (pa_cons (pv 3) pa_nil))
        (pa_cons (pe_oex O2.o O2.i O2.t G2 hr2 b2 pass0 (by rfl) O2.g (pa_cons pe_non pa_nil)) (pa_cons (pe_oex O3.o O3.i O3.t G3 hr2 b3 pass0 (by rfl) O3.g (pa_cons pe_non pa_nil)) pa_nil))))))
        (pss_cons (ps_for PassesOwn.never rfl (pi_enum (by rfl) B.enum (pa_cons (pv 9) pa_nil)) (pg_tup (by rfl) (pgs_cons (pg_name (i := 11) nd rfl (.inr rfl)) (pgs_cons (pg_name (i := 12) nd rfl (.inl rfl)) pgs_nil)))
        (pss_one (ps_if (pt_cmpR (op_neD hr.units) (pe_call GK hr1 (by rfl) gK FK.kp bK .nil pass0 (pa_cons (pv 12) pa_nil))
            (pe_op op_cat (pe_lc (own := [("at", 14)]) (g := gName 14) (tt := tYes) (by rfl) nd (pi_range1 (by rfl) B.range (pa_cons pe_int pa_nil)) (blkOk_by (own := [("at", 14)]) (N := NL) (sc := defScope sLaw) (by decide +kernel))
              (fun _ _ _ _ _ => pg_name (i := 14) nd rfl (Or.inl rfl)) (fun _ _ _ _ _ => pts_nil) (fun _ _ _ _ _ => pe_cmpR op_eq (pv 14) (pv 11) (nomark _))) (pe_lst (pa_cons pe_bl (pa_cons pe_bl pa_nil)))) (nomark _))
          (pss_one (ps_ret pe_bl)) pss_nil)))
        (pss_cons (ps_if (pt_cmpR (op_neD hr.units) (pe_lst (pa_cons (pe_xfld (pe_ix ix_list (pv 9) pe_int (fun _ _ => rfl))) (pa_cons (pe_xfld (pe_ix ix_list (pv 9) pe_int (fun _ _ => rfl))) (pa_cons (pe_xfld (pe_ix ix_list (pv 9) pe_int (fun _ _ => rfl))) (pa_cons (pe_xfld (pe_ix ix_list (pv 9) pe_int (fun _ _ => rfl))) pa_nil)))))
          (pe_lst (pa_cons (pv 2) (pa_cons (pv 3) (pa_cons (pv 4) (pa_cons (pv 7) pa_nil))))) (nomark _)) (pss_one (ps_ret pe_bl)) pss_nil)
        (pss_cons (ps_if (pt_cmpR (op_neD hr.units) (pe_lst (pa_cons (pe_xfld (pe_ix ix_list (pv 10) pe_int (fun _ _ => rfl))) (pa_cons (pe_xfld (pe_ix ix_list (pv 10) pe_int (fun _ _ => rfl))) (pa_cons (pe_xfld (pe_ix ix_list (pv 10) pe_int (fun _ _ => rfl))) (pa_cons (pe_xfld (pe_ix ix_list (pv 10) pe_int (fun _ _ => rfl))) pa_nil)))))
          (pe_lst (pa_cons (pv 5) (pa_cons (pv 2) (pa_cons (pv 3) (pa_cons pe_non pa_nil))))) (nomark _)) (pss_one (ps_ret pe_bl)) pss_nil)
        (pss_cons (ps_if (PW.pt (pw_or (pt_cmpR (op_neD hr.units) (pe_xfld (pe_ix ix_list (pv 9) pe_int (fun _ _ => rfl))) (pv 8) (nomark _)) (pw_or1 (pt_cmp (pc_notN (pe_xfld (pe_ix ix_list (pv 10) pe_int (fun _ _ => rfl)))))))) (pss_one (ps_ret pe_bl)) pss_nil)
        (pss_one (ps_ret (pe_cmpR (op_eqD hr.units) (pe_call GK hr1 (by rfl) gK FK.kp bK .nil pass0 (pa_cons (pe_exc1 PySem.F.excBase_ValueError P13.q P13.g P13.k (by rfl) (pv 6)) pa_nil))
        (pe_op op_cat (pe_op op_rep (pe_lst (pa_cons pe_bl pa_nil)) pe_int) (pe_lst (pa_cons pe_bl (pa_cons pe_bl pa_nil)))) (nomark _)))))))), fun J sc p t4 t6 l e0 e1 e2 e3 e4 e5 e6 e7 e8 e9 e10 e11 e12 k0 k1 k2 k3 x hl x0 x1 x2 x3 y4 y5 y6 y7 y8 y9 y10 y11 y12 dp4 dp6 => ?_⟩
  -- again = [..]
  refine ⟨_, rfl, _, rfl, (by show 2 ≤ 1000; decide), fun g0 a0 => mk2 O0.o m0 m0' a0 fun J5 q5 v0 => ?_⟩
  refine ⟨_, rfl, (by show 1 ≤ 1000; decide), fun g1 a1 => mk1 O1.o m1 a1 fun J6 q6 v1 => ?_⟩
  refine ⟨(by show 1 ≤ 1000; decide), fun g2 a2 => mk1 O2.o m2 a2 fun J7 q7 v2 => ?_⟩
  refine ⟨(by show 1 ≤ 1000; decide), fun g3 a3 => mk1 O3.o m3 a3 fun J8 q8 v3 => ?_⟩
  refine ⟨ln 4 (by decide), fun la r1 => ?_⟩
  have z1 := same_new (o := .lst [.ref g0, .ref g1, .ref g2, .ref g3]) r1
  have hla : (upd J8 la (.lst [.ref g0, .ref g1, .ref g2, .ref g3])) la = some (.lst [.ref g0, .ref g1, .ref g2, .ref g3]) := upd_same
  generalize upd J8 la (.lst [.ref g0, .ref g1, .ref g2, .ref g3]) = L0 at z1 hla ⊢
  have S := q5.trans (q6.trans (q7.trans (q8.trans z1)))
  have v0 := v0.same (q6.trans (q7.trans (q8.trans z1)))
  have v1 := v1.same (q7.trans (q8.trans z1))
  have v2 := v2.same (q8.trans z1)
  have v3 := v3.same z1
  have hl := S _ _ hl
  have x0 := x0.same S
  have x1 := x1.same S
  have x2 := x2.same S
  have x3 := x3.same S
  have dp4 := dp4.same S
  have dp6 := dp6.same S
  have all : ∀ (i : Nat) (e : V), [V.ref e0, .ref e1, .ref e2, .ref e3, .ref e4, .ref e5, .ref e6, .ref e7, .ref e8, .ref e9, .ref e10, .ref e11, .ref e12][i]? = some e → ∃ (a C : Addr), e = .ref a ∧ [C0, C1, C2, C3, C4, C5, C6, C7, C8, C9, C10, C11, C12, C13][i]? = some C ∧ ExAt L0 a C := by
    intro i e h
    match i, h with
    | 0, h => exact ⟨e0, C0, (Option.some.inj h).symm, rfl, x0.at_⟩
    | 1, h => exact ⟨e1, C1, (Option.some.inj h).symm, rfl, x1.at_⟩
    | 2, h => exact ⟨e2, C2, (Option.some.inj h).symm, rfl, x2.at_⟩
    | 3, h => exact ⟨e3, C3, (Option.some.inj h).symm, rfl, x3.at_⟩
    | 4, h => exact ⟨e4, C4, (Option.some.inj h).symm, rfl, y4.same S⟩
    | 5, h => exact ⟨e5, C5, (Option.some.inj h).symm, rfl, y5.same S⟩
    | 6, h => exact ⟨e6, C6, (Option.some.inj h).symm, rfl, y6.same S⟩
    | 7, h => exact ⟨e7, C7, (Option.some.inj h).symm, rfl, y7.same S⟩
    | 8, h => exact ⟨e8, C8, (Option.some.inj h).symm, rfl, y8.same S⟩
    | 9, h => exact ⟨e9, C9, (Option.some.inj h).symm, rfl, y9.same S⟩
    | 10, h => exact ⟨e10, C10, (Option.some.inj h).symm, rfl, y10.same S⟩
    | 11, h => exact ⟨e11, C11, (Option.some.inj h).symm, rfl, y11.same S⟩
    | 12, h => exact ⟨e12, C12, (Option.some.inj h).symm, rfl, y12.same S⟩
    | i + 13, h => simp at h
  clear y4 y5 y6 y7 y8 y9 y10 y11 y12 q5 q6 q7 q8 z1 S a0 a1 a2 a3 r1
  -- the loop
  refine ⟨_, rfl, l, _, rfl, SqL.of hl, ?_⟩
  refine ⟨fun i m σ H3 => ∃ y11 y12, σ = [some (.ref sc), some (.ref p), some (.int k0), some (.int k1), some (.int k2), some (.int k3), some x, some (.ref t4), some (.ref t6), some (.ref l), some (.ref la), y11, y12, none, none] ∧ i + m = 13 ∧ Same L0 H3, ⟨13, none, none, rfl, rfl, Same.refl _⟩, fun i m σ H3 hW => ?_⟩
  obtain ⟨y11, y12, rfl, eim, S3⟩ := hW
  by_cases hi : i < 13
  · obtain ⟨xi, hx⟩ : ∃ xi, [V.ref e0, .ref e1, .ref e2, .ref e3, .ref e4, .ref e5, .ref e6, .ref e7, .ref e8, .ref e9, .ref e10, .ref e11, .ref e12][i]? = some xi := ⟨_, List.getElem?_eq_getElem hi⟩
    obtain ⟨ea, C, rfl, hC, hE⟩ := all i _ hx
    refine .inr ⟨⟨_, _, SqL.of (S3 _ _ hl), hx⟩, fun σ' H5 => ∃ y11 y12, σ' = [some (.ref sc), some (.ref p), some (.int k0), some (.int k1), some (.int k2), some (.int k3), some x, some (.ref t4), some (.ref t6), some (.ref l), some (.ref la), y11, y12, none, none] ∧ Same L0 H5, fun σ' H5 hN => ?_, fun xv H5 hy => ?_⟩
    · obtain ⟨z11, z12, eσ, S5⟩ := hN
      exact ⟨m - 1, by omega, z11, z12, eσ, by omega, S5⟩
    · obtain ⟨T1, x1', rfl, nT, rfl, f1⟩ := hy
      have ex1 : x1' = .ref ea := Option.some.inj ((f1 _ (SqL.of (S3 _ _ hl))).symm.trans hx)
      subst ex1
      refine ⟨T1, [.int (i : Nat), .ref ea], rfl, .inl (.inl upd_same), rfl, .int (i : Nat), [.ref ea], rfl, .ref ea, [], rfl, rfl, ?_⟩
      have S5 := S3.trans (same_new (o := .tup [.int (i : Nat), .ref ea]) nT)
      generalize upd H3 T1 (.tup [.int (i : Nat), .ref ea]) = H5 at S5 ⊢
      refine ⟨_, rfl, ea, C, i, rfl, hC, hE.same S5, fun H6 p6 s6 n6 h6 => ?_⟩
      refine ⟨13, rfl, by decide, by decide, fun D nD => ?_⟩
      refine lc_range (lo := 0) (n := 13) (fun j H' => Same H6 H' ∧ H' D = some (.lst ((placed i j).map V.bl))) ⟨same_new nD, upd_same⟩ ?_ ?_
      · rintro j H' hj ⟨s7, h7⟩
        refine ⟨rfl, ?_⟩
        refine tyes ?_
        refine ⟨_, rfl, _, rfl, rfl, _, h7, ?_, fun b o e => ?_, ?_⟩
        · rw [List.length_map, placed_len]
          exact small1000 (by omega)
        · rw [upd_ne (ne_of_none e nD)]
          exact s7 _ _ e
        · rw [upd_same, placed_more, List.map_append]
          rfl
      · rintro H7 ⟨s7, h7⟩
        refine ⟨ln 2 (by decide), cat_step s7 h7 (ln 15 (by decide)) fun H8 p8 s8 n8 h8 => ?_⟩
        have h8' : H8 p8 = some (.lst ((placed i 13 ++ [true, true]).map V.bl)) := by
          rw [h8, List.map_append]
          rfl
        refine ⟨.list ((kb i).map .bool), .list ((placed i 13 ++ [true, true]).map .bool), .lst (SqL.of (s8 _ _ h6)) (bools_dp (kb i)), .lst (SqL.of h8') (bools_dp _), bools_shaped _, bools_shaped _, _, rfl, ?_⟩
        rw [kb_placed i hi, eqv_self (bools_shaped _)]
        exact iteF ⟨_, _, rfl, S5.trans (s6.trans s8)⟩
  · refine .inl ⟨⟨_, SqL.of (S3 _ _ hl), by show 13 ≤ i; omega⟩, ?_⟩
    have hl := S3 _ _ hl
    have hla := S3 _ _ hla
    have dp4 := dp4.same S3
    have dp6 := dp6.same S3
    obtain ⟨d0, u0, w0⟩ := x0.same S3
    obtain ⟨d1, u1, w1⟩ := x1.same S3
    obtain ⟨d2, u2, w2⟩ := x2.same S3
    obtain ⟨d3, u3, w3⟩ := x3.same S3
    obtain ⟨c0, r0, s0⟩ := v0.same S3
    obtain ⟨c1, r1, s1⟩ := v1.same S3
    obtain ⟨c2, r2, s2⟩ := v2.same S3
    obtain ⟨c3, r3, s3⟩ := v3.same S3
    have E0 := T.ex 0 C0 rfl
    have E1 := T.ex 1 C1 rfl
    have E2 := T.ex 2 C2 rfl
    have E3 := T.ex 3 C3 rfl
    clear all x0 x1 x2 x3 v0 v1 v2 v3 S3
    -- [built[0].line, ..]
    refine ⟨_, rfl, l, _, 0, .ref e0, rfl, rfl, SqL.of hl, rfl, e0, C0, d0, _, _, rfl, u0, w0, E0, m0, lkLine _ _, _, rfl, l, _, 0, .ref e0, rfl, rfl, SqL.of hl, rfl, e0, C0, d0, _, _, rfl, u0, w0, E0, m0', lkColumn _ _, _, rfl, l, _, 1, .ref e1, rfl, rfl, SqL.of hl, rfl, e1, C1, d1, _, _, rfl, u1, w1, E1, m1, lk1 _ _, _, rfl, l, _, 2, .ref e2, rfl, rfl, SqL.of hl, rfl, e2, C2, d2, _, _, rfl, u2, w2, E2, m2, lk1 _ _, ln 4 (by decide), fun b1 n1 => ?_⟩
    have z1 := same_new (o := .lst [.int k0, .int k1, .int k2, .ref t4]) n1
    have h1 : (upd H3 b1 (.lst [.int k0, .int k1, .int k2, .ref t4])) b1 = some (.lst [.int k0, .int k1, .int k2, .ref t4]) := upd_same
    generalize upd H3 b1 (.lst [.int k0, .int k1, .int k2, .ref t4]) = H3a at z1 h1 ⊢
    refine ⟨_, rfl, _, rfl, _, rfl, _, rfl, ln 4 (by decide), fun b2 n2 => ?_⟩
    have z2 := same_new (o := .lst [.int k0, .int k1, .int k2, .ref t4]) n2
    have h2 : (upd H3a b2 (.lst [.int k0, .int k1, .int k2, .ref t4])) b2 = some (.lst [.int k0, .int k1, .int k2, .ref t4]) := upd_same
    generalize upd H3a b2 (.lst [.int k0, .int k1, .int k2, .ref t4]) = H4 at z2 h2 ⊢
    have S4 := z1.trans z2
    have sh4 : SeqAt.shaped (.list [.int k0, .int k1, .int k2, dP]) = true := four_shaped dP_shaped (by decide +kernel)
    refine ⟨.list [.int k0, .int k1, .int k2, dP], .list [.int k0, .int k1, .int k2, dP], .lst (SqL.of (z2 _ _ h1)) (.cons (.int _) (.cons (.int _) (.cons (.int _) (.cons (dp4.same S4).dp .nil)))), .lst (SqL.of h2) (.cons (.int _) (.cons (.int _) (.cons (.int _) (.cons (dp4.same S4).dp .nil)))), sh4, sh4, _, rfl, ?_⟩
    rw [eqv_self sh4]
    refine iteF ?_
    have hl := S4 _ _ hl
    have hla := S4 _ _ hla
    have dp6 := dp6.same S4
    have u3 := S4 _ _ u3
    have w3 := S4 _ _ w3
    have r0 := S4 _ _ r0
    have s0 := S4 _ _ s0
    have r1 := S4 _ _ r1
    have s1 := S4 _ _ s1
    have r2 := S4 _ _ r2
    have s2 := S4 _ _ s2
    have r3 := S4 _ _ r3
    have s3 := S4 _ _ s3
    clear z1 h1 z2 h2 n1 n2 S4
    -- [again[0].line, ..]
    refine ⟨_, rfl, la, _, 0, .ref g0, rfl, rfl, SqL.of hla, rfl, g0, C0, c0, _, _, rfl, r0, s0, E0, m0, lkLine _ _, _, rfl, la, _, 0, .ref g0, rfl, rfl, SqL.of hla, rfl, g0, C0, c0, _, _, rfl, r0, s0, E0, m0', lkColumn _ _, _, rfl, la, _, 1, .ref g1, rfl, rfl, SqL.of hla, rfl, g1, C1, c1, _, _, rfl, r1, s1, E1, m1, lk1 _ _, _, rfl, la, _, 2, .ref g2, rfl, rfl, SqL.of hla, rfl, g2, C2, c2, _, _, rfl, r2, s2, E2, m2, lk1 _ _, ln 4 (by decide), fun b1 n1 => ?_⟩
    have z1 := same_new (o := .lst [.int k3, .int k0, .int k1, .non]) n1
    have h1 : (upd H4 b1 (.lst [.int k3, .int k0, .int k1, .non])) b1 = some (.lst [.int k3, .int k0, .int k1, .non]) := upd_same
    generalize upd H4 b1 (.lst [.int k3, .int k0, .int k1, .non]) = H4a at z1 h1 ⊢
    refine ⟨_, rfl, _, rfl, _, rfl, ln 4 (by decide), fun b2 n2 => ?_⟩
    have z2 := same_new (o := .lst [.int k3, .int k0, .int k1, .non]) n2
    have h2 : (upd H4a b2 (.lst [.int k3, .int k0, .int k1, .non])) b2 = some (.lst [.int k3, .int k0, .int k1, .non]) := upd_same
    generalize upd H4a b2 (.lst [.int k3, .int k0, .int k1, .non]) = H5 at z2 h2 ⊢
    have S5 := z1.trans z2
    have sh5 : SeqAt.shaped (.list [.int k3, .int k0, .int k1, .none]) = true := four_shaped (by decide +kernel) (by decide +kernel)
    refine ⟨.list [.int k3, .int k0, .int k1, .none], .list [.int k3, .int k0, .int k1, .none], .lst (SqL.of (z2 _ _ h1)) (.cons (.int _) (.cons (.int _) (.cons (.int _) (.cons .non .nil)))), .lst (SqL.of h2) (.cons (.int _) (.cons (.int _) (.cons (.int _) (.cons .non .nil)))), sh5, sh5, _, rfl, ?_⟩
    rw [eqv_self sh5]
    refine iteF ?_
    have hl := S5 _ _ hl
    have hla := S5 _ _ hla
    have dp6 := dp6.same S5
    have u3 := S5 _ _ u3
    have w3 := S5 _ _ w3
    have r3 := S5 _ _ r3
    have s3 := S5 _ _ s3
    clear z1 h1 z2 h2 n1 n2 S5
    -- built[3].paper != crossed or again[3].paper is not None
    refine ⟨_, rfl, l, _, 3, .ref e3, rfl, rfl, SqL.of hl, rfl, e3, C3, d3, _, _, rfl, u3, w3, E3, m3, lk1 _ _, _, rfl, dC, dC, dp6.dp, dp6.dp, dC_shaped, dC_shaped, _, rfl, ?_⟩
    rw [eqv_self dC_shaped]
    refine iteF ?_
    refine ⟨_, rfl, la, _, 3, .ref g3, rfl, rfl, SqL.of hla, rfl, g3, C3, c3, _, _, rfl, r3, s3, E3, m3, lk1 _ _, _, rfl, ?_⟩
    refine iteF ?_
    -- return _law_kinds_of(AnswerError(text)) == ..
    refine ⟨_, rfl, fun b3 n3 => ?_⟩
    refine ⟨b3, C13, 13, rfl, rfl, .inr upd_same, fun H6 p6 s6 n6 h6 => ?_⟩
    refine ⟨ln 1 (by decide), fun b4 n4 => ?_⟩
    have z4 := same_new (o := .lst [.bl false]) n4
    have h4 : (upd H6 b4 (.lst [.bl false])) b4 = some (.lst [.bl false]) := upd_same
    generalize upd H6 b4 (.lst [.bl false]) = H7 at z4 h4 ⊢
    refine ⟨b4, 13, _, rfl, rfl, h4, by decide, by decide, ln 13 (by decide), fun b5 n5 => ?_⟩
    have z5 := same_new (o := .lst (List.replicate (13 : Int).toNat [V.bl false]).flatten) n5
    have h5 : (upd H7 b5 (.lst (List.replicate (13 : Int).toNat [V.bl false]).flatten)) b5 = some (.lst (List.replicate (13 : Int).toNat [V.bl false]).flatten) := upd_same
    generalize upd H7 b5 (.lst (List.replicate (13 : Int).toNat [V.bl false]).flatten) = H8 at z5 h5 ⊢
    refine ⟨ln 2 (by decide), cat_step (z4.trans z5) h5 (ln 15 (by decide)) fun H9 p9 s9 n9 h9 => ?_⟩
    have h9' : H9 p9 = some (.lst ((kb 13).map V.bl)) := h9
    refine ⟨.list ((kb 13).map .bool), .list ((kb 13).map .bool), .lst (SqL.of (s9 _ _ h6)) (bools_dp (kb 13)), .lst (SqL.of h9') (bools_dp _), bools_shaped _, bools_shaped _, ?_⟩
    rw [eqv_self (bools_shaped _)]
    exact q _
end
end Cut
namespace Cut
open PySem PySem.Spec PyProof.Rows L2
section
variable {P : Program} {w : World} {K : PySem.W.Frag} {mg : Str → Option Value} {base : Heap}
theorem ok_law {f fSp fU fA fK f0 f1 f2 f3 C0 C1 C2 C3 C4 C5 C6 C7 C8 C9 C10 C11 C12 C13 : Addr} {fd fdSp fdU fdA fdK fd0 fd1 fd2 fd3 : FuncData} (F : Fun K "law" "law" sLaw f fd) (B : Blt mg)
    (FSp : Fun K "_law_spring" "_law_spring" sSpring fSp fdSp) (bSp : Binds K fdSp ["script"] []) (gSp : mg "_law_spring" = some (.ref fSp)) (GSp : FnOk P w K mg base CX0 1 fSp fdSp ["script"] (spSpring K))
    (FU : Fun K "_law_under" "_law_under" sUnder fU fdU) (bU : Binds K fdU ["spring", "many"] []) (gU : mg "_law_under" = some (.ref fU)) (GU : FnOk P w K mg base CX0 2 fU fdU ["spring", "many"] spUnder)
    (FA : Fun K "_law_any" "_law_any" sAny fA fdA) (bA : Binds K fdA ["spring", "items"] []) (gA : mg "_law_any" = some (.ref fA)) (GA : FnOk P w K mg base CX0 3 fA fdA ["spring", "items"] (spAny K))
    (FK : Fun K "_law_kinds_of" "_law_kinds_of" sKinds fK fdK) (bK : Binds K fdK ["caught"] []) (gK : mg "_law_kinds_of" = some (.ref fK)) (GK : FnOk P w K mg base CX0 1 fK fdK ["caught"] (spKinds [C0, C1, C2, C3, C4, C5, C6, C7, C8, C9, C10, C11, C12, C13]))
    (T : Tab K [C0, C1, C2, C3, C4, C5, C6, C7, C8, C9, C10, C11, C12, C13])
    (O0 : Oc K mg "SyntaxProblem" C0 f0) (b0 : Binds K fd0 ["self", "line", "column"] []) (G0 : FnOk P w K mg base CX0 1 f0 fd0 ["self", "line", "column"] (spI2 K C0))
    (O1 : Oc K mg "TooMany" C1 f1) (b1 : Binds K fd1 ["self", "limit"] []) (G1 : FnOk P w K mg base CX0 1 f1 fd1 ["self", "limit"] (spI1 K C1 "limit"))
    (O2 : Oc K mg "NoLine" C2 f2) (b2 : Binds K fd2 ["self", "paper"] []) (G2 : FnOk P w K mg base CX0 1 f2 fd2 ["self", "paper"] (spI1 K C2 "paper"))
    (O3 : Oc K mg "NotNested" C3 f3) (b3 : Binds K fd3 ["self", "paper"] []) (G3 : FnOk P w K mg base CX0 1 f3 fd3 ["self", "paper"] (spI1 K C3 "paper"))
    (m0 : PySem.W.findIn K (.ref C0) "line" = some none) (m0' : PySem.W.findIn K (.ref C0) "column" = some none) (m1 : PySem.W.findIn K (.ref C1) "limit" = some none) (m2 : PySem.W.findIn K (.ref C2) "paper" = some none) (m3 : PySem.W.findIn K (.ref C3) "paper" = some none)
    (P4 : Pc K mg "NoTable" C4) (P5 : Pc K mg "NoRow" C5) (P6 : Pc K mg "RowTaken" C6) (P7 : Pc K mg "NoQuestion" C7) (P8 : Pc K mg "NoAnswer" C8) (P9 : Pc K mg "NoPrice" C9) (P10 : Pc K mg "NameTaken" C10) (P11 : Pc K mg "NoMark" C11)
    (P12 : Pc K mg "InvalidCommand" C12) (P13 : Pc K mg "AnswerError" C13) : FnOk P w K mg base CX0 4 f fd ["script"] (spLaw K) := by
  refine F.ok scLaw (fun vs H Q E h => ?_) (fun cdv A outer s H vs Q E hr h => ?_)
  · obtain ⟨a, ns, rfl, _⟩ := h
    rfl
  · obtain ⟨a, ns, rfl, hS, q⟩ := h
    have hr1 : Room 1 _ := hr.mono (by decide)
    have hr2 : Room 2 _ := hr.mono (by decide)
    have nd := scLaw.nd
    obtain ⟨tR, hR, fin⟩ := law_tail (P := P) (w := w) (base := base) (A := A) (outer := outer) (s := s) (H := H) (E := E) (Q := Q) F B FSp bSp gSp GSp FU bU gU GU FA bA gA GA FK bK gK GK T O0 b0 G0 O1 b1 G1 O2 b2 G2 O3 b3 G3 m0 m0' m1 m2 m3 P4 P5 P6 P7 P8 P9 P10 P11 P12 P13 hr q
    refine ⟨_, pss_cons (ps_set (i := 1) nd rfl (.inr rfl) (pe_call GSp hr1 (by rfl) gSp FSp.kp bSp .nil pass0 (pa_cons (pv 0) pa_nil)))
      (pss_cons (ps_asg (pe_lc (own := [("k", 13)]) (g := gName 13) (tt := tYes) (by rfl) nd (pi_range1 (by rfl) B.range (pa_cons pe_int pa_nil)) (blkOk_by (own := [("k", 13)]) (N := NL) (sc := defScope sLaw) (by decide +kernel))
          (fun _ _ _ _ _ => pg_name (i := 13) nd rfl (Or.inl rfl)) (fun _ _ _ _ _ => pts_nil) (fun _ _ _ _ _ => pe_call GU hr2 (by rfl) gU FU.kp bU .nil pass0 (pa_cons (pv 1) (pa_cons (pe_op op_pow pe_int pe_int) pa_nil))))
        (pg_unl (by rfl) (pgs_cons (pg_name (i := 2) nd rfl (.inl rfl)) (pgs_cons (pg_name (i := 3) nd rfl (.inl rfl)) (pgs_cons (pg_name (i := 4) nd rfl (.inl rfl)) (pgs_cons (pg_name (i := 5) nd rfl (.inl rfl)) pgs_nil))))))
      (pss_cons (ps_set (i := 6) nd rfl (.inl rfl) (pe_call GA hr (by rfl) gA FA.kp bA .nil pass0 (pa_cons (pv 1) (pa_cons (pe_lst (pa_cons pe_str (pa_cons pe_str (pa_cons pe_str pa_nil)))) pa_nil))))
      (pss_cons (ps_asg (pe_tup (pa_cons (pe_tup (pa_cons (pe_tup (pa_cons pe_str (pa_cons pe_str (pa_cons pe_str pa_nil)))) (pa_cons (pe_tup (pa_cons (pe_tup (pa_cons pe_str (pa_cons pe_str pa_nil))) pa_nil)) pa_nil))) (pa_cons (pe_tup (pa_cons pe_str (pa_cons pe_str (pa_cons (pe_tup (pa_cons pe_str (pa_cons pe_str (pa_cons pe_str pa_nil)))) pa_nil)))) pa_nil))) (pg_tup (by rfl) (pgs_cons (pg_name (i := 7) nd rfl (.inl rfl)) (pgs_cons (pg_name (i := 8) nd rfl (.inl rfl)) pgs_nil))))
      (pss_cons (ps_set (i := 9) nd rfl (.inl rfl) (pe_lst (pa_cons (pe_oex O0.o O0.i O0.t G0 hr2 b0 pass0 (by rfl) O0.g (pa_cons (pv 2) (pa_cons (pv 3) pa_nil))) (pa_cons (pe_oex O1.o O1.i O1.t G1 hr2 b1 pass0 (by rfl) O1.g (pa_cons (pv 4) pa_nil))
        (pa_cons (pe_oex O2.o O2.i O2.t G2 hr2 b2 pass0 (by rfl) O2.g (pa_cons (pv 7) pa_nil)) (pa_cons (pe_oex O3.o O3.i O3.t G3 hr2 b3 pass0 (by rfl) O3.g (pa_cons (pv 8) pa_nil)) pa_nil))))))
      (pss_cons (ps_set (i := 9) nd rfl (.inl rfl) (pe_op op_cat (pv 9) (pe_lst (pa_cons (pe_exc1 PySem.F.excBase_ValueError P4.q P4.g P4.k (by rfl) (pv 6)) (pa_cons (pe_exc1 PySem.F.excBase_ValueError P5.q P5.g P5.k (by rfl) (pv 6)) pa_nil)))))
      (pss_cons (ps_set (i := 9) nd rfl (.inl rfl) (pe_op op_cat (pv 9) (pe_lst (pa_cons (pe_exc1 PySem.F.excBase_ValueError P6.q P6.g P6.k (by rfl) (pv 6)) (pa_cons (pe_exc1 PySem.F.excBase_ValueError P7.q P7.g P7.k (by rfl) (pv 6))
        (pa_cons (pe_exc1 PySem.F.excBase_ValueError P8.q P8.g P8.k (by rfl) (pv 6)) (pa_cons (pe_exc1 PySem.F.excBase_ValueError P9.q P9.g P9.k (by rfl) (pv 6)) (pa_cons (pe_exc1 PySem.F.excBase_ValueError P10.q P10.g P10.k (by rfl) (pv 6)) pa_nil))))))))
      (pss_cons (ps_set (i := 9) nd rfl (.inl rfl) (pe_op op_cat (pv 9) (pe_lst (pa_cons (pe_exc1 PySem.F.excBase_ValueError P11.q P11.g P11.k (by rfl) (pv 6)) pa_nil))))
      (pss_cons (ps_expr (pe_bm PySem.F.plainAttrs_list PySem.F.slot_list_append PySem.F.type_list_append mt_append (pv 9) (pa_cons (pe_exc1 PySem.F.excBase_ValueError P12.q P12.g P12.k (by rfl) (pv 6)) pa_nil)))
      hR)))))))), ?_⟩
    have ln : ∀ n : Nat, n ≤ 1000 → n ≤ sizeLine := fun n h => Nat.le_of_lt (small1000 h)
    have pw : ((10 : Int) ^ (6 : Int).toNat).natAbs < 2 ^ 8000 := Nat.lt_of_lt_of_le (by decide : _ < 2 ^ 60) (Nat.pow_le_pow_right (by decide) (by decide))
    -- spring = _law_spring(script)
    refine ⟨_, rfl, a, ns, rfl, hS, fun H1 p b s1 np nb S1 => ?_⟩
    -- line, column, limit, other = [..]
    refine ⟨4, rfl, by decide, by decide, fun D nD => ?_⟩
    obtain ⟨o1, at1⟩ := S1.at1
    obtain ⟨o2, at2⟩ := S1.at2
    have dp : D ≠ p := (ne_of_none at1 nD).symm
    have db : D ≠ b := (ne_of_none at2 nD).symm
    refine lc_range (lo := 0) (n := 4) (fun i H' => SprN H' p b i ∧ ∃ ks : List Int, H' D = some (.lst (ks.map V.int)) ∧ ks.length = i) ⟨S1.put dp db, [], upd_same, rfl⟩ ?_ ?_
    · rintro i H' hi ⟨S', ks, hD, hk⟩
      refine ⟨rfl, ?_⟩
      refine tyes ?_
      refine ⟨_, rfl, _, _, rfl, rfl, ⟨by decide, by decide, by decide⟩, p, b, _, i, rfl, S', by omega, by decide, pw, fun r H2 r0 r1 but S2 => ?_⟩
      refine ⟨_, but _ _ dp hD, ?_, (S2.put dp db).mono (by omega), ks ++ [r], by rw [upd_same, List.map_append]; rfl, by rw [List.length_append, hk]; rfl⟩
      rw [List.length_map]
      exact small1000 (by omega)
    rintro H2 ⟨S2, ks, hD, hk⟩
    obtain ⟨k0, k1, k2, k3, rfl⟩ : ∃ k0 k1 k2 k3, ks = [k0, k1, k2, k3] := match ks, hk with
      | [a, b, c, d], _ => ⟨a, b, c, d, rfl⟩
    refine ⟨D, _, rfl, SqL.of hD, rfl, _, _, rfl, _, _, rfl, _, _, rfl, _, _, rfl, rfl, ?_⟩
    -- text = _law_any(spring, ..)
    refine ⟨_, rfl, ln 3 (by decide), fun l nl => ?_⟩
    obtain ⟨o3, at3⟩ := S2.at1
    refine ⟨p, b, l, 4, _, rfl, S2.same (same_new nl), by decide, SqL.of upd_same, (ne_of_none at3 nl).symm, (by show 0 < 3; decide), (by show 3 < 2 ^ 60; decide), fun i x H3 hx but S3 => ?_⟩
    -- paper, crossed = ..
    refine ⟨ln 3 (by decide), fun t1 n1 => ?_⟩
    have z1 := same_new (o := .tup [.str "r", .str "s", .str "t"]) n1
    have h1 : (upd H3 t1 (.tup [.str "r", .str "s", .str "t"])) t1 = some (.tup [.str "r", .str "s", .str "t"]) := upd_same
    generalize upd H3 t1 (.tup [.str "r", .str "s", .str "t"]) = G1 at z1 h1 ⊢
    refine ⟨ln 2 (by decide), fun t2 n2 => ?_⟩
    have z2 := same_new (o := .tup [.str "r", .str "s"]) n2
    have h2 : (upd G1 t2 (.tup [.str "r", .str "s"])) t2 = some (.tup [.str "r", .str "s"]) := upd_same
    generalize upd G1 t2 (.tup [.str "r", .str "s"]) = G2 at z2 h2 ⊢
    refine ⟨ln 1 (by decide), fun t3 n3 => ?_⟩
    have z3 := same_new (o := .tup [.ref t2]) n3
    have h3 : (upd G2 t3 (.tup [.ref t2])) t3 = some (.tup [.ref t2]) := upd_same
    generalize upd G2 t3 (.tup [.ref t2]) = G3 at z3 h3 ⊢
    refine ⟨ln 2 (by decide), fun t4 n4 => ?_⟩
    have z4 := same_new (o := .tup [.ref t1, .ref t3]) n4
    have h4 : (upd G3 t4 (.tup [.ref t1, .ref t3])) t4 = some (.tup [.ref t1, .ref t3]) := upd_same
    generalize upd G3 t4 (.tup [.ref t1, .ref t3]) = G4 at z4 h4 ⊢
    have dp4 : PapP G4 t4 := ⟨t1, t2, t3, h4, (z2.trans (z3.trans z4)) _ _ h1, z4 _ _ h3, (z3.trans z4) _ _ h2⟩
    refine ⟨ln 3 (by decide), fun t5 n5 => ?_⟩
    have z5 := same_new (o := .tup [.str "a", .str "b", .str "c"]) n5
    have h5 : (upd G4 t5 (.tup [.str "a", .str "b", .str "c"])) t5 = some (.tup [.str "a", .str "b", .str "c"]) := upd_same
    generalize upd G4 t5 (.tup [.str "a", .str "b", .str "c"]) = G5 at z5 h5 ⊢
    refine ⟨ln 3 (by decide), fun t6 n6 => ?_⟩
    have z6 := same_new (o := .tup [.str "x", .str "y", .ref t5]) n6
    have h6 : (upd G5 t6 (.tup [.str "x", .str "y", .ref t5])) t6 = some (.tup [.str "x", .str "y", .ref t5]) := upd_same
    generalize upd G5 t6 (.tup [.str "x", .str "y", .ref t5]) = G6 at z6 h6 ⊢
    have dp6 : PapC G6 t6 := ⟨t5, h6, z6 _ _ h5⟩
    refine ⟨ln 2 (by decide), fun t7 n7 => ?_⟩
    have z7 := same_new (o := .tup [.ref t4, .ref t6]) n7
    have h7 : (upd G6 t7 (.tup [.ref t4, .ref t6])) t7 = some (.tup [.ref t4, .ref t6]) := upd_same
    generalize upd G6 t7 (.tup [.ref t4, .ref t6]) = H4 at z7 h7 ⊢
    have dp4 := dp4.same (z5.trans (z6.trans z7))
    have dp6 := dp6.same z7
    refine ⟨t7, _, rfl, SqT.of h7, rfl, _, _, rfl, _, _, rfl, rfl, ?_⟩
    clear z1 z2 z3 z4 z5 z6 z7 h1 h2 h3 h4 h5 h6 h7
    -- built = [..]
    refine ⟨_, rfl, _, rfl, (by show 2 ≤ 1000; decide), fun e0 a0 => mk2 O0.o m0 m0' a0 fun H5 q5 x0 => ?_⟩
    refine ⟨_, rfl, (by show 1 ≤ 1000; decide), fun e1 a1 => mk1 O1.o m1 a1 fun H6 q6 x1 => ?_⟩
    refine ⟨_, rfl, (by show 1 ≤ 1000; decide), fun e2 a2 => mk1 O2.o m2 a2 fun H7 q7 x2 => ?_⟩
    refine ⟨_, rfl, (by show 1 ≤ 1000; decide), fun e3 a3 => mk1 O3.o m3 a3 fun H8 q8 x3 => ?_⟩
    refine ⟨ln 4 (by decide), fun l1 r1 => ?_⟩
    have z1 := same_new (o := .lst [.ref e0, .ref e1, .ref e2, .ref e3]) r1
    have h1 : (upd H8 l1 (.lst [.ref e0, .ref e1, .ref e2, .ref e3])) l1 = some (.lst [.ref e0, .ref e1, .ref e2, .ref e3]) := upd_same
    generalize upd H8 l1 (.lst [.ref e0, .ref e1, .ref e2, .ref e3]) = J1 at z1 h1 ⊢
    have x0 := x0.same (q6.trans (q7.trans (q8.trans z1)))
    have x1 := x1.same (q7.trans (q8.trans z1))
    have x2 := x2.same (q8.trans z1)
    have x3 := x3.same z1
    have dp4 := dp4.same (q5.trans (q6.trans (q7.trans (q8.trans z1))))
    have dp6 := dp6.same (q5.trans (q6.trans (q7.trans (q8.trans z1))))
    clear q5 q6 q7 q8 z1 a0 a1 a2 a3 r1
    -- built = built + ..
    refine ⟨_, rfl, _, rfl, fun e4 a4 => ?_⟩
    have z4 := same_new (o := ExO (.ref C4) e4) a4
    have y4 : ExAt (upd J1 e4 (ExO (.ref C4) e4)) e4 C4 := .inr upd_same
    generalize upd J1 e4 (ExO (.ref C4) e4) = J2 at z4 y4 ⊢
    refine ⟨_, rfl, fun e5 a5 => ?_⟩
    have z5 := same_new (o := ExO (.ref C5) e5) a5
    have y5 : ExAt (upd J2 e5 (ExO (.ref C5) e5)) e5 C5 := .inr upd_same
    generalize upd J2 e5 (ExO (.ref C5) e5) = J3 at z5 y5 ⊢
    refine ⟨ln 2 (by decide), cat_step (Same.refl _) ((z4.trans z5) _ _ h1) (ln 6 (by decide)) fun J4 l2 wl2 ml2 hl2 => ?_⟩
    have x0 := x0.same ((z4.trans z5).trans wl2)
    have x1 := x1.same ((z4.trans z5).trans wl2)
    have x2 := x2.same ((z4.trans z5).trans wl2)
    have x3 := x3.same ((z4.trans z5).trans wl2)
    have dp4 := dp4.same ((z4.trans z5).trans wl2)
    have dp6 := dp6.same ((z4.trans z5).trans wl2)
    have y4 := y4.same (z5.trans wl2)
    have y5 := y5.same wl2
    clear z4 a4 z5 a5 wl2 ml2
    refine ⟨_, rfl, _, rfl, fun e6 a6 => ?_⟩
    have z6 := same_new (o := ExO (.ref C6) e6) a6
    have y6 : ExAt (upd J4 e6 (ExO (.ref C6) e6)) e6 C6 := .inr upd_same
    generalize upd J4 e6 (ExO (.ref C6) e6) = J5 at z6 y6 ⊢
    refine ⟨_, rfl, fun e7 a7 => ?_⟩
    have z7 := same_new (o := ExO (.ref C7) e7) a7
    have y7 : ExAt (upd J5 e7 (ExO (.ref C7) e7)) e7 C7 := .inr upd_same
    generalize upd J5 e7 (ExO (.ref C7) e7) = J6 at z7 y7 ⊢
    refine ⟨_, rfl, fun e8 a8 => ?_⟩
    have z8 := same_new (o := ExO (.ref C8) e8) a8
    have y8 : ExAt (upd J6 e8 (ExO (.ref C8) e8)) e8 C8 := .inr upd_same
    generalize upd J6 e8 (ExO (.ref C8) e8) = J7 at z8 y8 ⊢
    refine ⟨_, rfl, fun e9 a9 => ?_⟩
    have z9 := same_new (o := ExO (.ref C9) e9) a9
    have y9 : ExAt (upd J7 e9 (ExO (.ref C9) e9)) e9 C9 := .inr upd_same
    generalize upd J7 e9 (ExO (.ref C9) e9) = J8 at z9 y9 ⊢
    refine ⟨_, rfl, fun e10 a10 => ?_⟩
    have z10 := same_new (o := ExO (.ref C10) e10) a10
    have y10 : ExAt (upd J8 e10 (ExO (.ref C10) e10)) e10 C10 := .inr upd_same
    generalize upd J8 e10 (ExO (.ref C10) e10) = J9 at z10 y10 ⊢
    refine ⟨ln 5 (by decide), cat_step (Same.refl _) ((z6.trans (z7.trans (z8.trans (z9.trans z10)))) _ _ hl2) (ln 11 (by decide)) fun J10 l3 wl3 ml3 hl3 => ?_⟩
    have x0 := x0.same ((z6.trans (z7.trans (z8.trans (z9.trans z10)))).trans wl3)
    have x1 := x1.same ((z6.trans (z7.trans (z8.trans (z9.trans z10)))).trans wl3)
    have x2 := x2.same ((z6.trans (z7.trans (z8.trans (z9.trans z10)))).trans wl3)
    have x3 := x3.same ((z6.trans (z7.trans (z8.trans (z9.trans z10)))).trans wl3)
    have y4 := y4.same ((z6.trans (z7.trans (z8.trans (z9.trans z10)))).trans wl3)
    have y5 := y5.same ((z6.trans (z7.trans (z8.trans (z9.trans z10)))).trans wl3)
    have dp4 := dp4.same ((z6.trans (z7.trans (z8.trans (z9.trans z10)))).trans wl3)
    have dp6 := dp6.same ((z6.trans (z7.trans (z8.trans (z9.trans z10)))).trans wl3)
    have y6 := y6.same (z7.trans (z8.trans (z9.trans (z10.trans wl3))))
    have y7 := y7.same (z8.trans (z9.trans (z10.trans wl3)))
    have y8 := y8.same (z9.trans (z10.trans wl3))
    have y9 := y9.same (z10.trans wl3)
    have y10 := y10.same wl3
    clear z6 a6 z7 a7 z8 a8 z9 a9 z10 a10 wl3 ml3
    refine ⟨_, rfl, _, rfl, fun e11 a11 => ?_⟩
    have z11 := same_new (o := ExO (.ref C11) e11) a11
    have y11 : ExAt (upd J10 e11 (ExO (.ref C11) e11)) e11 C11 := .inr upd_same
    generalize upd J10 e11 (ExO (.ref C11) e11) = J11 at z11 y11 ⊢
    refine ⟨ln 1 (by decide), cat_step (Same.refl _) (z11 _ _ hl3) (ln 12 (by decide)) fun J12 l4 wl4 ml4 hl4 => ?_⟩
    have x0 := x0.same (z11.trans wl4)
    have x1 := x1.same (z11.trans wl4)
    have x2 := x2.same (z11.trans wl4)
    have x3 := x3.same (z11.trans wl4)
    have y4 := y4.same (z11.trans wl4)
    have y5 := y5.same (z11.trans wl4)
    have y6 := y6.same (z11.trans wl4)
    have y7 := y7.same (z11.trans wl4)
    have y8 := y8.same (z11.trans wl4)
    have y9 := y9.same (z11.trans wl4)
    have y10 := y10.same (z11.trans wl4)
    have dp4 := dp4.same (z11.trans wl4)
    have dp6 := dp6.same (z11.trans wl4)
    have y11 := y11.same wl4
    clear z11 a11 wl4 ml4
    -- built.append(..)
    refine ⟨_, rfl, .inl ⟨rfl, _, SqL.of hl4⟩, _, rfl, fun e12 a12 => ?_⟩
    have z12 := same_new (o := ExO (.ref C12) e12) a12
    have y12 : ExAt (upd J12 e12 (ExO (.ref C12) e12)) e12 C12 := .inr upd_same
    generalize upd J12 e12 (ExO (.ref C12) e12) = J13 at z12 y12 ⊢
    have hl5 := z12 _ _ hl4
    refine ⟨l4, _, _, rfl, rfl, hl5, small1000 (by show 12 ≤ 1000; decide), ?_⟩
    have S5 : SameT J12 (upd J13 l4 (.lst [.ref e0, .ref e1, .ref e2, .ref e3, .ref e4, .ref e5, .ref e6, .ref e7, .ref e8, .ref e9, .ref e10, .ref e11, .ref e12])) := fun b o e n => put_list hl5 _ _ (z12 _ _ e) n
    exact fin _ a p t4 t6 l4 e0 e1 e2 e3 e4 e5 e6 e7 e8 e9 e10 e11 e12 k0 k1 k2 k3 x upd_same (x0.sameT S5) (x1.sameT S5) (x2.sameT S5) (x3.sameT S5) (y4.sameT S5) (y5.sameT S5) (y6.sameT S5) (y7.sameT S5) (y8.sameT S5) (y9.sameT S5) (y10.sameT S5) (y11.sameT S5) (y12.sameT (put_list hl5)) (dp4.sameT S5) (dp6.sameT S5)
end
end Cut
namespace Cut
open PySem PySem.Spec PyProof.Rows L2
/-! ### what the top has written -/
theorem all_mk {l : PySem.W.OpenLaw} {w : World} {K : PySem.W.Frag} {h : Heap} {mg : Str → Option Value} {fa : Addr} (X : K.In h) (G : h.Ns mainGlobals mg) (hfa : mg "law" = some (.ref fa))
    {fSd fSp fU fA fK fL fI0 fI1 fI2 fI3 C0 C1 C2 C3 C4 C5 C6 C7 C8 C9 C10 C11 C12 C13 : Addr} {odSd anSd odSp anSp odU anU odA anA odK anK odL anL odI0 anI0 odI1 anI1 odI2 anI2 odI3 anI3 : Option Addr} {slSd slSp slU slA slK slL slI0 slI1 slI2 slI3 : Array (Option Value)} {ocSd kVSd dcSd pmSd cdSd ctSd ocSp kVSp dcSp pmSp cdSp ctSp ocU kVU dcU pmU cdU ctU ocA kVA dcA pmA cdA ctA ocK kVK dcK pmK cdK ctK ocL kVL dcL pmL cdL ctL ocI0 kVI0 dcI0 pmI0 cdI0 ctI0 ocI1 kVI1 dcI1 pmI1 cdI1 ctI1 ocI2 kVI2 dcI2 pmI2 cdI2 ctI2 ocI3 kVI3 dcI3 pmI3 cdI3 ctI3 : Value}
    (n0 : PySem.W.nsIn K mainGlobals "SyntaxProblem" = some (some (.ref C0)))
    (n1 : PySem.W.nsIn K mainGlobals "TooMany" = some (some (.ref C1)))
    (n2 : PySem.W.nsIn K mainGlobals "NoLine" = some (some (.ref C2)))
    (n3 : PySem.W.nsIn K mainGlobals "NotNested" = some (some (.ref C3)))
    (n4 : PySem.W.nsIn K mainGlobals "NoTable" = some (some (.ref C4)))
    (n5 : PySem.W.nsIn K mainGlobals "NoRow" = some (some (.ref C5)))
    (n6 : PySem.W.nsIn K mainGlobals "RowTaken" = some (some (.ref C6)))
    (n7 : PySem.W.nsIn K mainGlobals "NoQuestion" = some (some (.ref C7)))
    (n8 : PySem.W.nsIn K mainGlobals "NoAnswer" = some (some (.ref C8)))
    (n9 : PySem.W.nsIn K mainGlobals "NoPrice" = some (some (.ref C9)))
    (n10 : PySem.W.nsIn K mainGlobals "NameTaken" = some (some (.ref C10)))
    (n11 : PySem.W.nsIn K mainGlobals "NoMark" = some (some (.ref C11)))
    (n12 : PySem.W.nsIn K mainGlobals "InvalidCommand" = some (some (.ref C12)))
    (n13 : PySem.W.nsIn K mainGlobals "AnswerError" = some (some (.ref C13)))
    (aSd : PySem.W.nsIn K mainGlobals "_law_spread" = some (some (.ref fSd))) (lSd : K.lookup fSd = some ⟨ocSd, odSd, .func (PySem.W.fnOf "_law_spread" "_law_spread" (defArgs sSpread) (defBody sSpread) (defScope sSpread) .none kVSd dcSd pmSd anSd cdSd ctSd), slSd⟩) (cSd : PySem.W.codeIn K cdSd "_law_spread" = true) (kSd : PySem.W.keepIn K (.ref fSd) = true)
    (aSp : PySem.W.nsIn K mainGlobals "_law_spring" = some (some (.ref fSp))) (lSp : K.lookup fSp = some ⟨ocSp, odSp, .func (PySem.W.fnOf "_law_spring" "_law_spring" (defArgs sSpring) (defBody sSpring) (defScope sSpring) .none kVSp dcSp pmSp anSp cdSp ctSp), slSp⟩) (cSp : PySem.W.codeIn K cdSp "_law_spring" = true) (kSp : PySem.W.keepIn K (.ref fSp) = true)
    (aU : PySem.W.nsIn K mainGlobals "_law_under" = some (some (.ref fU))) (lU : K.lookup fU = some ⟨ocU, odU, .func (PySem.W.fnOf "_law_under" "_law_under" (defArgs sUnder) (defBody sUnder) (defScope sUnder) .none kVU dcU pmU anU cdU ctU), slU⟩) (cU : PySem.W.codeIn K cdU "_law_under" = true) (kU : PySem.W.keepIn K (.ref fU) = true)
    (aA : PySem.W.nsIn K mainGlobals "_law_any" = some (some (.ref fA))) (lA : K.lookup fA = some ⟨ocA, odA, .func (PySem.W.fnOf "_law_any" "_law_any" (defArgs sAny) (defBody sAny) (defScope sAny) .none kVA dcA pmA anA cdA ctA), slA⟩) (cA : PySem.W.codeIn K cdA "_law_any" = true) (kA : PySem.W.keepIn K (.ref fA) = true)
    (aK : PySem.W.nsIn K mainGlobals "_law_kinds_of" = some (some (.ref fK))) (lK : K.lookup fK = some ⟨ocK, odK, .func (PySem.W.fnOf "_law_kinds_of" "_law_kinds_of" (defArgs sKinds) (defBody sKinds) (defScope sKinds) .none kVK dcK pmK anK cdK ctK), slK⟩) (cK : PySem.W.codeIn K cdK "_law_kinds_of" = true) (kK : PySem.W.keepIn K (.ref fK) = true)
    (aL : PySem.W.nsIn K mainGlobals "law" = some (some (.ref fL))) (lL : K.lookup fL = some ⟨ocL, odL, .func (PySem.W.fnOf "law" "law" (defArgs sLaw) (defBody sLaw) (defScope sLaw) .none kVL dcL pmL anL cdL ctL), slL⟩) (cL : PySem.W.codeIn K cdL "law" = true) (kL : PySem.W.keepIn K (.ref fL) = true)
    (aI0 : PySem.W.findIn K (.ref C0) "__init__" = some (some (.ref fI0))) (lI0 : K.lookup fI0 = some ⟨ocI0, odI0, .func (PySem.W.fnOf "__init__" "SyntaxProblem.__init__" (defArgs sInit2) (defBody sInit2) (defScope sInit2) .none kVI0 dcI0 pmI0 anI0 cdI0 ctI0), slI0⟩) (cI0 : PySem.W.codeIn K cdI0 "SyntaxProblem.__init__" = true) (kI0 : PySem.W.keepIn K (.ref fI0) = true) (tI0 : PySem.W.typeIn K (.ref fI0) = some (.type "function"))
    (aI1 : PySem.W.findIn K (.ref C1) "__init__" = some (some (.ref fI1))) (lI1 : K.lookup fI1 = some ⟨ocI1, odI1, .func (PySem.W.fnOf "__init__" "TooMany.__init__" (defArgs sInitL) (defBody sInitL) (defScope sInitL) .none kVI1 dcI1 pmI1 anI1 cdI1 ctI1), slI1⟩) (cI1 : PySem.W.codeIn K cdI1 "TooMany.__init__" = true) (kI1 : PySem.W.keepIn K (.ref fI1) = true) (tI1 : PySem.W.typeIn K (.ref fI1) = some (.type "function"))
    (aI2 : PySem.W.findIn K (.ref C2) "__init__" = some (some (.ref fI2))) (lI2 : K.lookup fI2 = some ⟨ocI2, odI2, .func (PySem.W.fnOf "__init__" "NoLine.__init__" (defArgs sInitP) (defBody sInitP) (defScope sInitP) .none kVI2 dcI2 pmI2 anI2 cdI2 ctI2), slI2⟩) (cI2 : PySem.W.codeIn K cdI2 "NoLine.__init__" = true) (kI2 : PySem.W.keepIn K (.ref fI2) = true) (tI2 : PySem.W.typeIn K (.ref fI2) = some (.type "function"))
    (aI3 : PySem.W.findIn K (.ref C3) "__init__" = some (some (.ref fI3))) (lI3 : K.lookup fI3 = some ⟨ocI3, odI3, .func (PySem.W.fnOf "__init__" "NotNested.__init__" (defArgs sInitN) (defBody sInitN) (defScope sInitN) .none kVI3 dcI3 pmI3 anI3 cdI3 ctI3), slI3⟩) (cI3 : PySem.W.codeIn K cdI3 "NotNested.__init__" = true) (kI3 : PySem.W.keepIn K (.ref fI3) = true) (tI3 : PySem.W.typeIn K (.ref fI3) = some (.type "function"))
    (z_int : PySem.W.nsIn K mainGlobals "int" = some none)
    (z_range : PySem.W.nsIn K mainGlobals "range" = some none)
    (z_len : PySem.W.nsIn K mainGlobals "len" = some none)
    (z_abs : PySem.W.nsIn K mainGlobals "abs" = some none)
    (z_enumerate : PySem.W.nsIn K mainGlobals "enumerate" = some none)
    (z_isinstance : PySem.W.nsIn K mainGlobals "isinstance" = some none)
    (z_ValueError : PySem.W.nsIn K mainGlobals "ValueError" = some none)
    (m0_line : PySem.W.findIn K (.ref C0) "line" = some none)
    (m0_column : PySem.W.findIn K (.ref C0) "column" = some none)
    (m1_limit : PySem.W.findIn K (.ref C1) "limit" = some none)
    (m2_paper : PySem.W.findIn K (.ref C2) "paper" = some none)
    (m3_paper : PySem.W.findIn K (.ref C3) "paper" = some none)
    (q4 : PySem.W.excIn K C4 veT "ValueError.__new__" = true) (kk4 : PySem.W.keepIn K (.ref C4) = true)
    (q5 : PySem.W.excIn K C5 veT "ValueError.__new__" = true) (kk5 : PySem.W.keepIn K (.ref C5) = true)
    (q6 : PySem.W.excIn K C6 veT "ValueError.__new__" = true) (kk6 : PySem.W.keepIn K (.ref C6) = true)
    (q7 : PySem.W.excIn K C7 veT "ValueError.__new__" = true) (kk7 : PySem.W.keepIn K (.ref C7) = true)
    (q8 : PySem.W.excIn K C8 veT "ValueError.__new__" = true) (kk8 : PySem.W.keepIn K (.ref C8) = true)
    (q9 : PySem.W.excIn K C9 veT "ValueError.__new__" = true) (kk9 : PySem.W.keepIn K (.ref C9) = true)
    (q10 : PySem.W.excIn K C10 veT "ValueError.__new__" = true) (kk10 : PySem.W.keepIn K (.ref C10) = true)
    (q11 : PySem.W.excIn K C11 veT "ValueError.__new__" = true) (kk11 : PySem.W.keepIn K (.ref C11) = true)
    (q12 : PySem.W.excIn K C12 veT "ValueError.__new__" = true) (kk12 : PySem.W.keepIn K (.ref C12) = true)
    (q13 : PySem.W.excIn K C13 veT "ValueError.__new__" = true) (kk13 : PySem.W.keepIn K (.ref C13) = true)
    (tb : tabIs K [C0, C1, C2, C3, C4, C5, C6, C7, C8, C9, C10, C11, C12, C13] = true) (ox0 : oexIs K C0 = true) (ox1 : oexIs K C1 = true) (ox2 : oexIs K C2 = true) (ox3 : oexIs K C3 = true) :
    ∃ fd : FuncData, (∀ (s : Shared) (v : Value), BindsTo s fd ⟨[v], []⟩ [("script", v)]) ∧ ∀ base : Heap, K.In base → base.Ns mainGlobals mg → FnOk l.prog w K mg base CX0 4 fa fd ["script"] (spLaw K) := by
  have e := hfa.symm.trans (PySem.W.mg_of X G aL)
  cases e
  have FSd := fun_mk (st := sSpread) lSd cSd kSd
  have FSp := fun_mk (st := sSpring) lSp cSp kSp
  have FU := fun_mk (st := sUnder) lU cU kU
  have FA := fun_mk (st := sAny) lA cA kA
  have FK := fun_mk (st := sKinds) lK cK kK
  have FL := fun_mk (st := sLaw) lL cL kL
  have FI0 := fun_mk (st := sInit2) lI0 cI0 kI0
  have FI1 := fun_mk (st := sInitL) lI1 cI1 kI1
  have FI2 := fun_mk (st := sInitP) lI2 cI2 kI2
  have FI3 := fun_mk (st := sInitN) lI3 cI3 kI3
  have bSd := FSd.binds (ps := ["small", "spot"]) fun _ _ _ _ _ _ us hl => match us, hl with | [_, _], _ => rfl
  have bSp := FSp.binds (ps := ["script"]) fun _ _ _ _ _ _ us hl => match us, hl with | [_], _ => rfl
  have bU := FU.binds (ps := ["spring", "many"]) fun _ _ _ _ _ _ us hl => match us, hl with | [_, _], _ => rfl
  have bA := FA.binds (ps := ["spring", "items"]) fun _ _ _ _ _ _ us hl => match us, hl with | [_, _], _ => rfl
  have bK := FK.binds (ps := ["caught"]) fun _ _ _ _ _ _ us hl => match us, hl with | [_], _ => rfl
  have bI0 := FI0.binds (ps := ["self", "line", "column"]) fun _ _ _ _ _ _ us hl => match us, hl with | [_, _, _], _ => rfl
  have bI1 := FI1.binds (ps := ["self", "limit"]) fun _ _ _ _ _ _ us hl => match us, hl with | [_, _], _ => rfl
  have bI2 := FI2.binds (ps := ["self", "paper"]) fun _ _ _ _ _ _ us hl => match us, hl with | [_, _], _ => rfl
  have bI3 := FI3.binds (ps := ["self", "paper"]) fun _ _ _ _ _ _ us hl => match us, hl with | [_, _], _ => rfl
  have B : Blt mg := ⟨PySem.W.mg_none_of X G z_int, PySem.W.mg_none_of X G z_range, PySem.W.mg_none_of X G z_len, PySem.W.mg_none_of X G z_abs, PySem.W.mg_none_of X G z_enumerate⟩
  have T : Tab K [C0, C1, C2, C3, C4, C5, C6, C7, C8, C9, C10, C11, C12, C13] := tabIs_of tb
  have N : Named mg [C0, C1, C2, C3, C4, C5, C6, C7, C8, C9, C10, C11, C12, C13] := ⟨⟨C0, rfl, PySem.W.mg_of X G n0⟩, ⟨C1, rfl, PySem.W.mg_of X G n1⟩, ⟨C2, rfl, PySem.W.mg_of X G n2⟩, ⟨C3, rfl, PySem.W.mg_of X G n3⟩, ⟨C4, rfl, PySem.W.mg_of X G n4⟩, ⟨C5, rfl, PySem.W.mg_of X G n5⟩, ⟨C6, rfl, PySem.W.mg_of X G n6⟩, ⟨C7, rfl, PySem.W.mg_of X G n7⟩, ⟨C8, rfl, PySem.W.mg_of X G n8⟩, ⟨C9, rfl, PySem.W.mg_of X G n9⟩, ⟨C10, rfl, PySem.W.mg_of X G n10⟩, ⟨C11, rfl, PySem.W.mg_of X G n11⟩, ⟨C12, rfl, PySem.W.mg_of X G n12⟩, ⟨C13, rfl, PySem.W.mg_of X G n13⟩, PySem.W.mg_none_of X G z_ValueError, PySem.W.mg_none_of X G z_isinstance⟩
  have O0 : Oc K mg "SyntaxProblem" C0 fI0 := ⟨PySem.W.mg_of X G n0, oexIs_of ox0, aI0, tI0⟩
  have O1 : Oc K mg "TooMany" C1 fI1 := ⟨PySem.W.mg_of X G n1, oexIs_of ox1, aI1, tI1⟩
  have O2 : Oc K mg "NoLine" C2 fI2 := ⟨PySem.W.mg_of X G n2, oexIs_of ox2, aI2, tI2⟩
  have O3 : Oc K mg "NotNested" C3 fI3 := ⟨PySem.W.mg_of X G n3, oexIs_of ox3, aI3, tI3⟩
  have P4 : Pc K mg "NoTable" C4 := ⟨PySem.W.mg_of X G n4, q4, kk4⟩
  have P5 : Pc K mg "NoRow" C5 := ⟨PySem.W.mg_of X G n5, q5, kk5⟩
  have P6 : Pc K mg "RowTaken" C6 := ⟨PySem.W.mg_of X G n6, q6, kk6⟩
  have P7 : Pc K mg "NoQuestion" C7 := ⟨PySem.W.mg_of X G n7, q7, kk7⟩
  have P8 : Pc K mg "NoAnswer" C8 := ⟨PySem.W.mg_of X G n8, q8, kk8⟩
  have P9 : Pc K mg "NoPrice" C9 := ⟨PySem.W.mg_of X G n9, q9, kk9⟩
  have P10 : Pc K mg "NameTaken" C10 := ⟨PySem.W.mg_of X G n10, q10, kk10⟩
  have P11 : Pc K mg "NoMark" C11 := ⟨PySem.W.mg_of X G n11, q11, kk11⟩
  have P12 : Pc K mg "InvalidCommand" C12 := ⟨PySem.W.mg_of X G n12, q12, kk12⟩
  have P13 : Pc K mg "AnswerError" C13 := ⟨PySem.W.mg_of X G n13, q13, kk13⟩
  refine ⟨PySem.W.fnOf "law" "law" (defArgs sLaw) (defBody sLaw) (defScope sLaw) .none kVL dcL pmL anL cdL ctL, fun s v => .of_eq rfl, fun base _ _ => ?_⟩
  have GU : FnOk l.prog w K mg base CX0 2 fU _ ["spring", "many"] spUnder := ok_under FU B FSd bSd (PySem.W.mg_of X G aSd)
  exact ok_law FL B FSp bSp (PySem.W.mg_of X G aSp) (ok_spring FSp B) FU bU (PySem.W.mg_of X G aU) GU FA bA (PySem.W.mg_of X G aA) (ok_any FA B FU GU bU (PySem.W.mg_of X G aU)) FK bK (PySem.W.mg_of X G aK) (ok_kinds FK T N) T
    O0 bI0 (ok_i2 FI0) O1 bI1 (ok_iL FI1) O2 bI2 (ok_iP FI2) O3 bI3 (ok_iN FI3) m0_line m0_column m1_limit m2_paper m3_paper P4 P5 P6 P7 P8 P9 P10 P11 P12 P13
end Cut
open PySem PySem.W PyProof.Rows
set_option maxHeartbeats 0 in
theorem PySem.Challenge.cw_answercut_k00_errors_holds : PySem.Challenge.rw_answercut_k00_errors.Holds := by
  w_on; o_law; k_head; (case hw => w_witness2)
  k_fill
  refine L2.walk_of (l := PySem.Challenge.rw_answercut_k00_errors) (n := 63) (k := 4) (x := "script") (CX := fun _ => L2.CX0) (sp := fun w => Cut.spLaw _) rfl (by decide) rfl ⟨rfl, by decide, by decide⟩ (fun w h Y => PySem.W.kIn_of Y) ?F (fun _ _ a ns hl _ hS => ⟨a, ns, rfl, hS, fun _ => rfl⟩) (fun _ _ _ _ _ h => h)
  case F =>
    intro w mg fa h KX G hmg
    refine' Cut.all_mk KX G hmg ?n0 ?n1 ?n2 ?n3 ?n4 ?n5 ?n6 ?n7 ?n8 ?n9 ?n10 ?n11 ?n12 ?n13 ?aSd ?lSd ?cSd ?kSd ?aSp ?lSp ?cSp ?kSp ?aU ?lU ?cU ?kU ?aA ?lA ?cA ?kA ?aK ?lK ?cK ?kK ?aL ?lL ?cL ?kL ?aI0 ?lI0 ?cI0 ?kI0 ?tI0 ?aI1 ?lI1 ?cI1 ?kI1 ?tI1 ?aI2 ?lI2 ?cI2 ?kI2 ?tI2 ?aI3 ?lI3 ?cI3 ?kI3 ?tI3 ?z_int ?z_range ?z_len ?z_abs ?z_enumerate ?z_isinstance ?z_ValueError ?m0_line ?m0_column ?m1_limit ?m2_paper ?m3_paper ?q4 ?kk4 ?q5 ?kk5 ?q6 ?kk6 ?q7 ?kk7 ?q8 ?kk8 ?q9 ?kk9 ?q10 ?kk10 ?q11 ?kk11 ?q12 ?kk12 ?q13 ?kk13 ?tb ?ox0 ?ox1 ?ox2 ?ox3
    (case n0 => k_is)
    (case n1 => k_is)
    (case n2 => k_is)
    (case n3 => k_is)
    (case n4 => k_is)
    (case n5 => k_is)
    (case n6 => k_is)
    (case n7 => k_is)
    (case n8 => k_is)
    (case n9 => k_is)
    (case n10 => k_is)
    (case n11 => k_is)
    (case n12 => k_is)
    (case n13 => k_is)
    (case aSd => k_is)
    (case lSd => k_is)
    (case cSd => k_is)
    (case kSd => k_is)
    (case aSp => k_is)
    (case lSp => k_is)
    (case cSp => k_is)
    (case kSp => k_is)
    (case aU => k_is)
    (case lU => k_is)
    (case cU => k_is)
    (case kU => k_is)
    (case aA => k_is)
    (case lA => k_is)
    (case cA => k_is)
    (case kA => k_is)
    (case aK => k_is)
    (case lK => k_is)
    (case cK => k_is)
    (case kK => k_is)
    (case aL => k_is)
    (case lL => k_is)
    (case cL => k_is)
    (case kL => k_is)
    (case aI0 => k_is)
    (case lI0 => k_is)
    (case cI0 => k_is)
    (case kI0 => k_is)
    (case tI0 => k_is)
    (case aI1 => k_is)
    (case lI1 => k_is)
    (case cI1 => k_is)
    (case kI1 => k_is)
    (case tI1 => k_is)
    (case aI2 => k_is)
    (case lI2 => k_is)
    (case cI2 => k_is)
    (case kI2 => k_is)
    (case tI2 => k_is)
    (case aI3 => k_is)
    (case lI3 => k_is)
    (case cI3 => k_is)
    (case kI3 => k_is)
    (case tI3 => k_is)
    (case z_int => k_is)
    (case z_range => k_is)
    (case z_len => k_is)
    (case z_abs => k_is)
    (case z_enumerate => k_is)
    (case z_isinstance => k_is)
    (case z_ValueError => k_is)
    (case m0_line => k_is)
    (case m0_column => k_is)
    (case m1_limit => k_is)
    (case m2_paper => k_is)
    (case m3_paper => k_is)
    (case q4 => k_exc)
    (case kk4 => k_is)
    (case q5 => k_exc)
    (case kk5 => k_is)
    (case q6 => k_exc)
    (case kk6 => k_is)
    (case q7 => k_exc)
    (case kk7 => k_is)
    (case q8 => k_exc)
    (case kk8 => k_is)
    (case q9 => k_exc)
    (case kk9 => k_is)
    (case q10 => k_exc)
    (case kk10 => k_is)
    (case q11 => k_exc)
    (case kk11 => k_is)
    (case q12 => k_exc)
    (case kk12 => k_is)
    (case q13 => k_exc)
    (case kk13 => k_is)
    (case tb => kernel_rfl)
    (case ox0 => kernel_rfl)
    (case ox1 => kernel_rfl)
    (case ox2 => kernel_rfl)
    (case ox3 => kernel_rfl)
