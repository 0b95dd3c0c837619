import PyProof.Rows.All
import Wide.All
import OpenK.AllK
import Wide.FinOn
import HandS.ForMost
import HandS.ForExc
import HandS.Wide
import HandS.WideBits
import HandS.Style
import KE.SortData
import HandS.Strs
import HandS.Walk
import HandS.IsInst
import KE.LtData
import HandS.Deep
import HandS.SetKeys
import PyProof.DictMoreH
import HandS.DictComp
import HandS.ExcInit
import HandS.Defaults
import HandS.ExcField
import HandS.More
import KE.KExcIs
import KE.KExcMake
import HandS.MakeKw
import HandS.WordsExc
import HandS.ExcOwn
import HandS.TupAny
import HandS.ExcValue
import PyProof.ReprRoads
import PyProof.ReprLen
import HandS.HeadEnd
import PySem.Challenge.RW_depthquestions_k04_whole_facts_and_links
set_option Elab.async false
set_option linter.all false
set_option maxRecDepth 100000
set_option maxHeartbeats 4000000
namespace DQ
open PySem PySem.Spec PyProof.Rows L2
def topS (i : Nat) : Stmt := PySem.Challenge.pw_depthquestions_k04_whole_facts_and_links.main.body.getD i (.Pass ⟨0, 0, 0, 0⟩)
abbrev sHash : Stmt := topS 37
abbrev sRandom : Stmt := topS 38
abbrev sCell : Stmt := topS 39
abbrev sGenerator : Stmt := topS 40
theorem scHash : FnScope ["seed", "index", "mixed"] ["seed", "index"] (defScope sHash) := ⟨rfl, rfl, rfl, by decide +kernel, rfl, by decide +kernel, by decide +kernel⟩
theorem scRandom : FnScope ["generator", "bound", "drawn", "turn"] ["generator", "bound"] (defScope sRandom) := ⟨rfl, rfl, rfl, by decide +kernel, rfl, by decide +kernel, by decide +kernel⟩
theorem scCell : FnScope ["script", "index"] ["script", "index"] (defScope sCell) := ⟨rfl, rfl, rfl, by decide +kernel, rfl, by decide +kernel, by decide +kernel⟩
theorem scGenerator : FnScope ["script", "index", "seed"] ["script", "index"] (defScope sGenerator) := ⟨rfl, rfl, rfl, by decide +kernel, rfl, by decide +kernel, by decide +kernel⟩
theorem opr_mono {X : Cx} {f : Value → Value → Sem Value} {r r' : R2} (h : OpR X f r) (m : ∀ x y H Q, r' x y H Q → r x y H Q) : OpR X f r' := fun pins s σ H x y v u Q I rx ry q => h pins s σ H x y v u Q I rx ry (m x y H Q q)
/-- a remainder: a letter in its range -/
def rModL : R2 := fun x y H Q => ∃ i j, x = .int i ∧ y = .int j ∧ 0 < j ∧ ∀ r : Int, 0 ≤ r → r < j → r = i % j → Q (.int r) H
theorem op_modL {X : Cx} : OpR X (binaryOp .Mod) rModL := opr_mono op_mod fun x y H Q ⟨i, j, e1, e2, hj, q⟩ => ⟨i, j, e1, e2, hj, q _ (Int.emod_nonneg _ (by omega)) (Int.emod_lt_of_pos _ hj) rfl⟩
section
variable {P : Program} {w : World} {K : PySem.W.Frag} {mg : Str → Option Value} {base : Heap}
/-- the hash: some number below its modulus -/
def spHash : Sp := fun vs H Q _ => ∃ a b : Int, vs = [.int a, .int b] ∧ 0 ≤ a ∧ a < 2147483648 ∧ 0 ≤ b ∧ b ≤ 1073741824 ∧ ∀ r : Int, 0 ≤ r → r < 2147483647 → Q (.int r) H
theorem ok_hash {f : Addr} {fd : FuncData} (F : Fun K "_law_hash" "_law_hash" sHash f fd) (mi : mg "int" = none) : FnOk P w K mg base CX0 1 f fd ["seed", "index"] spHash := by
  refine F.ok scHash (fun vs H Q E h => ?_) (fun cdv A outer s H vs Q E hr h => ?_)
  · obtain ⟨a, b, rfl, _⟩ := h
    rfl
  · obtain ⟨a, b, rfl, ha, ha2, hb, hb2, q⟩ := h
    refine ⟨_, pss_cons (ps_set (i := 2) scHash.nd rfl (.inl rfl)
        (pe_op op_modL (pe_callTy call_int1 (by rfl) mi (by decide +kernel) (pa_cons
          (pe_op op_add (pe_op op_add (pe_op op_add (pe_op op_mul (pv 0) pe_int) (pe_op op_mul (pe_op op_mul pe_int (pv 1)) (pv 1))) (pe_op op_mul pe_int (pv 1))) pe_int) pa_nil)) pe_int))
      (pss_cons (ps_set (i := 2) scHash.nd rfl (.inl rfl)
        (pe_op op_modL (pe_callTy call_int1 (by rfl) mi (by decide +kernel) (pa_cons
          (pe_op op_add (pe_op op_add (pe_op op_mul (pv 2) (pv 2)) (pe_op op_mul pe_int (pv 1))) pe_int) pa_nil)) pe_int))
      (pss_one (ps_ret (pe_op op_modL (pe_callTy call_int1 (by rfl) mi (by decide +kernel) (pa_cons (pe_op op_mul (pv 2) pe_int) pa_nil)) pe_int)))), ?_⟩
    -- seed * c + c * index * index + c * index + c
    refine ⟨_, rfl, _, _, rfl, rfl, .inl ⟨by omega, by omega⟩, ?_⟩
    refine ⟨_, rfl, _, _, rfl, rfl, .inl ⟨by omega, by omega⟩, ?_⟩
    refine ⟨_, rfl, _, _, rfl, rfl, .inl ⟨by omega, by omega⟩, ?_⟩
    refine ⟨_, _, rfl, rfl, _, rfl, _, _, rfl, rfl, .inl ⟨by omega, by omega⟩, ?_⟩
    refine ⟨_, _, rfl, rfl, _, _, rfl, rfl, .inl ⟨_, rfl, _, _, rfl, rfl, by decide, fun m h0 h1 _ => ?_⟩⟩
    -- mixed * mixed + c * index + c
    refine ⟨_, rfl, _, rfl, _, _, rfl, rfl, .inl ⟨by omega, by omega⟩, ?_⟩
    refine ⟨_, rfl, _, _, rfl, rfl, .inl ⟨by omega, by omega⟩, ?_⟩
    refine ⟨_, _, rfl, rfl, _, _, rfl, rfl, .inl ⟨_, rfl, _, _, rfl, rfl, by decide, fun n h2 h3 _ => ?_⟩⟩
    refine ⟨_, rfl, _, _, rfl, rfl, .inl ⟨by omega, by omega⟩, .inl ⟨_, rfl, _, _, rfl, rfl, by decide, fun r h4 h5 _ => q r h4 h5⟩⟩
/-- the generator at g: three numbers, the count of hashed draws at most n -/
def Gen (H : Hp) (g : Addr) (n : Int) : Prop := ∃ a b c : Int, H g = some (.lst [.int a, .int b, .int c]) ∧ 0 ≤ a ∧ a.natAbs < 2 ^ 2000 ∧ 0 ≤ b ∧ b < 2147483647 ∧ 0 ≤ c ∧ c ≤ n
theorem Gen.mono {H : Hp} {g : Addr} {n m : Int} (h : Gen H g n) (k : n ≤ m) : Gen H g m := by
  obtain ⟨a, b, c, e, h1, h2, h3, h4, h5, h6⟩ := h
  exact ⟨a, b, c, e, h1, h2, h3, h4, h5, by omega⟩
/-- all but what stands at g is as it was -/
def But (g : Addr) (H H' : Hp) : Prop := ∀ b, b ≠ g → H' b = H b
def spRandom : Sp := fun vs H Q _ => ∃ (g : Addr) (m n : Int), vs = [.ref g, .int m] ∧ Gen H g n ∧ 1 ≤ m ∧ m < 618970019642690137449562112 ∧ n + 3 ≤ 1073741824 ∧
  ∀ (r : Int) (H' : Hp), 0 ≤ r → r < m → Gen H' g (n + 3) → But g H H' → Q (.int r) H'
/-- how great the drawn number is after so many turns -/
def top : Nat → Int
  | 0 => 1
  | 1 => 4294967296
  | 2 => 18446744073709551616
  | _ => 79228162514264337593543950336
theorem top_next {d : Int} {i : Nat} (d0 : 0 ≤ d) (h : d < top i) (hi : i < 3) : d < 79228162514264337593543950336 ∧ ∀ r : Int, r < 2147483647 → d * 2147483587 + r < top (i + 1) := by
  match i, hi with
  | 0, _ => simp only [top] at h ⊢; exact ⟨by omega, fun r hr => by omega⟩
  | 1, _ => simp only [top] at h ⊢; exact ⟨by omega, fun r hr => by omega⟩
  | 2, _ => simp only [top] at h ⊢; exact ⟨by omega, fun r hr => by omega⟩
theorem gen_set {H : Hp} {g : Addr} {o : HO} : But g H (upd H g o) := fun _ h => upd_ne h
theorem ok_random {f fh : Addr} {fd fdh : FuncData} (F : Fun K "_law_random" "_law_random" sRandom f fd) (G : FnOk P w K mg base CX0 1 fh fdh ["seed", "index"] spHash) (bh : Binds K fdh ["seed", "index"] []) (kh : PySem.W.keepIn K (.ref fh) = true) (mh : mg "_law_hash" = some (.ref fh))
    (mi : mg "int" = none) (mr : mg "range" = none) : FnOk P w K mg base CX0 2 f fd ["generator", "bound"] spRandom := by
  refine F.ok scRandom (fun vs H Q E h => ?_) (fun cdv A outer s H vs Q E hr h => ?_)
  · obtain ⟨g, m, n, rfl, _⟩ := h
    rfl
  obtain ⟨g, m, n, rfl, ⟨a, b, c, eg, a0, a1, b0, b1, c0, c1⟩, m1, m2, hn, q⟩ := h
  have nd := scRandom.nd
  refine ⟨_, pss_cons (ps_if (pt_cmpR op_gt (pe_ix ix_list (pv 0) pe_int (fun _ _ => rfl)) pe_int (nomark _))
      (pss_cons (ps_set (i := 2) nd rfl (.inl rfl) (pe_op op_modL (pe_callTy call_int1 (by rfl) mi (by decide +kernel) (pa_cons (pe_ix ix_list (pv 0) pe_int (fun _ _ => rfl)) pa_nil)) (pv 1)))
      (pss_cons (ps_asg (pe_op op_fdivW (pe_ix ix_list (pv 0) pe_int (fun _ _ => rfl)) (pv 1)) (pg_sub (pv 0) pe_int set_list))
      (pss_one (ps_ret (pv 2))))) pss_nil)
    (pss_cons (ps_set (i := 2) nd rfl (.inl rfl) pe_int)
    (pss_cons (ps_for PassesOwn.never rfl (pi_range1 (by rfl) mr (pa_cons (pe_op op_add pe_int (pe_op op_fdiv (pe_bits (pv 1)) pe_int)) pa_nil)) (pg_name (i := 3) nd rfl (.inl rfl))
      (pss_cons (ps_asg (pe_op op_add (pe_ix ix_list (pv 0) pe_int (fun _ _ => rfl)) pe_int) (pg_sub (pv 0) pe_int set_list))
      (pss_one (ps_set (i := 2) nd rfl (.inl rfl) (pe_op op_add (pe_op op_mulW (pv 2) pe_int)
        (pe_call G (hr.mono (by decide)) rfl mh kh bh .nil pass0 (pa_cons (pe_ix ix_list (pv 0) pe_int (fun _ _ => rfl)) (pa_cons (pe_ix ix_list (pv 0) pe_int (fun _ _ => rfl)) pa_nil))))))))
    (pss_one (ps_ret (pe_op op_modL (pe_callTy call_int1 (by rfl) mi (by decide +kernel) (pa_cons (pv 2) pa_nil)) (pv 1)))))), ?_⟩
  have L : SqL K H g [.int a, .int b, .int c] := SqL.of eg
  refine ⟨_, rfl, g, _, _, _, rfl, rfl, L, rfl, _, _, rfl, rfl, _, rfl, ite2 (fun ha => ?_) fun ha => ?_⟩
  · -- digits of the seed
    refine ⟨_, rfl, g, _, _, _, rfl, rfl, L, rfl, .inl ⟨_, rfl, _, rfl, _, _, rfl, rfl, by omega, fun r r0 r1 _ => ?_⟩⟩
    refine ⟨_, rfl, g, _, _, _, rfl, rfl, L, rfl, _, rfl, _, _, rfl, rfl, wide_div (b := 90) (by omega) (by omega) (by decide) (by decide), _, rfl, g, _, _, _, rfl, rfl, eg, rfl, ?_⟩
    refine ⟨_, rfl, ?_⟩
    refine q r _ r0 r1 ⟨_, _, _, upd_same, Int.ediv_nonneg a0 (by omega), ?_, b0, b1, c0, by omega⟩ gen_set
    have h1 : a / m ≤ a := Int.ediv_le_self _ a0
    have h2 : 0 ≤ a / m := Int.ediv_nonneg a0 (by omega)
    exact wide_le h2 h1 a1
  · -- hashed
    have hb1 := intBits_le (a := m) (k := 89) (by omega)
    have hb0 : (0 : Int) ≤ ((Builtin.Int.intBits m : Nat) : Int) := Int.natCast_nonneg _
    have hb2 : ((Builtin.Int.intBits m : Nat) : Int) / 30 ≤ 2 := by omega
    have hb3 : 0 ≤ ((Builtin.Int.intBits m : Nat) : Int) / 30 := by omega
    refine ⟨_, rfl, _, rfl, _, _, rfl, rfl, ⟨by decide, by decide⟩, _, _, rfl, rfl, _, rfl, by omega, by omega, ?_⟩
    generalize ((Builtin.Int.intBits m : Nat) : Int) / 30 = z at hb2 hb3
    refine for_range (lo := 0) (n := (1 + z).toNat) (fun i σ H1 => ∃ (d : Int) (y : Option V), σ = [some (.ref g), some (.int m), some (.int d), y] ∧ 0 ≤ d ∧ d < top i ∧ (∃ c' : Int, H1 g = some (.lst [.int a, .int b, .int c']) ∧ 0 ≤ c' ∧ c' ≤ c + i) ∧ But g H H1)
      ⟨0, none, rfl, by decide, by decide, ⟨c, eg, c0, by omega⟩, fun _ _ => rfl⟩ (fun i σ H1 hi hP => ?_) (fun σ H1 hP => ?_)
    · obtain ⟨d, y, rfl, d0, d1, ⟨c', e1, c2, c3⟩, bt⟩ := hP
      have L1 : SqL K H1 g [.int a, .int b, .int c'] := SqL.of e1
      -- generator[2] = generator[2] + 1
      refine ⟨_, rfl, g, _, _, _, rfl, rfl, L1, rfl, _, _, rfl, rfl, _, rfl, g, _, _, _, rfl, rfl, e1, rfl, ?_⟩
      have L2 : SqL K (upd H1 g (.lst [.int a, .int b, .int (c' + 1)])) g [.int a, .int b, .int (c' + 1)] := SqL.of upd_same
      have hd := top_next d0 d1 (show i < 3 by omega)
      refine ⟨_, rfl, d, 2147483587, rfl, rfl, wide_mul (a := 96) (b := 32) (by omega) (by decide) (by decide) (by decide) (by decide), ?_⟩
      refine ⟨_, rfl, g, _, _, _, rfl, rfl, L2, rfl, _, rfl, g, _, _, _, rfl, rfl, L2, rfl, ?_⟩
      refine ⟨_, _, rfl, b0, by omega, by omega, by omega, fun r r0 r1 => ?_⟩
      refine ⟨_, _, rfl, rfl, _, _, rfl, by omega, hd.2 r r1, ⟨c' + 1, upd_same, by omega, by omega⟩, fun x hx => ?_⟩
      · rw [upd_ne hx]
        exact bt x hx
    · obtain ⟨d, y, rfl, d0, d1, ⟨c', e1, c2, c3⟩, bt⟩ := hP
      refine ⟨_, rfl, .inl ⟨_, rfl, _, rfl, _, _, rfl, rfl, by omega, fun r r0 r1 _ => ?_⟩⟩
      exact q r _ r0 r1 ⟨a, b, c', e1, a0, a1, b0, b1, c2, by omega⟩ bt
theorem same_new {H : Hp} {p : Addr} {o : HO} (h : H p = none) : Same H (upd H p o) := fun b x e => by
  rw [upd_ne (ne_of_none e h)]
  exact e
def spCell (K : PySem.W.Frag) : Sp := fun vs H Q _ => ∃ (a : Addr) (ns : List Int) (i : Nat), vs = [.ref a, .int i] ∧ SqL K H a (ns.map V.int) ∧ ∀ (r : Int) (H' : Hp), Same H H' → Q (.int r) H'
theorem ok_cell {f : Addr} {fd : FuncData} (F : Fun K "_law_cell" "_law_cell" sCell f fd) (ml : mg "len" = none) (ms : mg "sum" = none) : FnOk P w K mg base CX0 1 f fd ["script", "index"] (spCell K) := by
  refine F.ok scCell (fun vs H Q E h => ?_) (fun cdv A outer s H vs Q E hr h => ?_)
  · obtain ⟨a, ns, i, rfl, _⟩ := h
    rfl
  obtain ⟨a, ns, i, rfl, L, q⟩ := h
  refine ⟨_, pss_cons (ps_if (pt_cmpR op_lt (pv 1) (pe_callB call_len_seq (by rfl) ml PySem.boot_len (pa_cons (pv 0) pa_nil)) (nomark _)) (pss_one (ps_ret (pe_ix ix_list (pv 0) (pv 1) (fun _ _ => rfl)))) pss_nil)
    (pss_one (ps_ret (pe_op op_modL (pe_callB (cr_sum rfl) (by rfl) ms (by decide +kernel) (pa_cons (pe_slice sl_list (pv 0) po_none (po_some pe_int)) pa_nil)) pe_int))), ?_⟩
  refine ⟨_, rfl, _, rfl, a, _, rfl, .inl L, _, _, rfl, rfl, _, rfl, ite2 (fun hi => ?_) fun _ => ?_⟩
  · have hl : i < ns.length := by
      have e := of_decide_eq_true hi
      rw [List.length_map] at e
      omega
    refine ⟨_, rfl, _, rfl, a, _, _, _, rfl, rfl, L, atI_nat (v := .int ns[i]) ?_, q _ _ (Same.refl _)⟩
    rw [List.getElem?_map, List.getElem?_eq_getElem hl]
    rfl
  · refine ⟨_, rfl, 1, rfl, a, _, rfl, L, fun p hp => ?_⟩
    have e : cutV (ns.map V.int) none (some 1) = (ns.take (HT.sIx (ns.map V.int).length (ns.map V.int).length (some 1) - HT.sIx (ns.map V.int).length 0 none) |>.map V.int) := by
      unfold cutV
      rw [HT.sIx_none, List.drop_zero, List.map_take]
    rw [e]
    exact ⟨p, _, rfl, SqL.of upd_same, _, _, rfl, rfl, by decide, fun r _ _ _ => q r _ (same_new hp)⟩
theorem op_powW {X : Cx} : OpR X (binaryOp .Pow) (rI (fun i j => 0 ≤ j ∧ (Builtin.Int.intBits i : Int) * j ≤ 2 ^ 27) fun i j => .int (i ^ j.toNat)) := opI fun _ _ _ _ _ _ _ hc q => pow_int hc.1 hc.2 q
def spGenerator (K : PySem.W.Frag) : Sp := fun vs H Q _ => ∃ (a : Addr) (ns : List Int) (i : Nat), vs = [.ref a, .int i] ∧ i ≤ 100 ∧ SqL K H a (ns.map V.int) ∧ ∀ (p : Addr) (H' : Hp), Same H H' → H p = none → Gen H' p (1000 * i) → Q (.ref p) H'
theorem ok_generator {f fc : Addr} {fd fdc : FuncData} (F : Fun K "_law_generator" "_law_generator" sGenerator f fd) (G : FnOk P w K mg base CX0 1 fc fdc ["script", "index"] (spCell K)) (bc : Binds K fdc ["script", "index"] []) (kc : PySem.W.keepIn K (.ref fc) = true) (mc : mg "_law_cell" = some (.ref fc))
    (mi : mg "int" = none) (mm : mg "max" = none) : FnOk P w K mg base CX0 2 f fd ["script", "index"] (spGenerator K) := by
  refine F.ok scGenerator (fun vs H Q E h => ?_) (fun cdv A outer s H vs Q E hr h => ?_)
  · obtain ⟨a, ns, i, rfl, _⟩ := h
    rfl
  obtain ⟨a, ns, i, rfl, hi, L, q⟩ := h
  refine ⟨_, pss_cons (ps_set (i := 2) scGenerator.nd rfl (.inl rfl) (pe_call G (hr.mono (by decide)) rfl mc kc bc .nil pass0 (pa_cons (pv 0) (pa_cons (pv 1) pa_nil))))
    (pss_one (ps_ret (pe_lst (pa_cons (pe_op op_modL (pe_callTy call_int1 (by rfl) mi (by decide +kernel) (pa_cons (pe_callB (call_max2 rfl) (by rfl) mm (by decide +kernel) (pa_cons (pe_op op_sub (pv 2) (pe_op op_pow pe_int pe_int)) (pa_cons pe_int pa_nil))) pa_nil)) (pe_op op_powW (pe_op op_pow pe_int pe_int) pe_int))
      (pa_cons (pe_op op_modL (pe_callTy call_int1 (by rfl) mi (by decide +kernel) (pa_cons (pv 2) pa_nil)) pe_int) (pa_cons (pe_op op_mul pe_int (pv 1)) pa_nil)))))), ?_⟩
  refine ⟨_, rfl, _, rfl, a, ns, i, rfl, L, fun seed H1 s1 => ?_⟩
  refine ⟨_, rfl, _, _, rfl, rfl, ⟨by decide, by decide, by decide⟩, _, _, rfl, rfl, _, _, rfl, .inl ⟨_, rfl, ?_⟩⟩
  refine ⟨_, _, rfl, rfl, ⟨by decide, by decide, by decide⟩, _, _, rfl, rfl, ⟨by decide, by decide +kernel⟩, ?_⟩
  refine ⟨_, _, rfl, rfl, by decide +kernel, fun x x0 x1 _ => ?_⟩
  refine ⟨_, rfl, .inl ⟨_, rfl, _, _, rfl, rfl, by decide, fun y y0 y1 _ => ?_⟩⟩
  refine ⟨_, rfl, _, _, rfl, rfl, .inl ⟨by decide, by decide⟩, ?_⟩
  refine ⟨by show 3 ≤ sizeLine; decide, fun p hp => ?_⟩
  refine q p _ (s1.trans (same_new hp)) (s1.free hp) ⟨x, y, _, upd_same, x0, ?_, y0, y1, by omega, by omega⟩
  exact wide_le x0 (Int.le_of_lt x1) (by decide +kernel)
end
end DQ

set_option Elab.async false
set_option linter.all false
set_option maxRecDepth 100000
set_option maxHeartbeats 4000000
namespace DQ
open PySem PySem.Spec PyProof.Rows L2
abbrev sOrder : Stmt := topS 41
theorem scOrder : FnScope ["generator", "things", "left", "found"] ["generator", "things"] (defScope sOrder) := ⟨rfl, rfl, rfl, by decide +kernel, rfl, by decide +kernel, by decide +kernel⟩
/-! ### data read off the heap -/
theorem dp_ints {K : PySem.W.Frag} {H : Hp} : ∀ ns : List Int, DpAll K H (ns.map V.int) (ns.map PyData.int)
  | [] => .nil
  | n :: r => .cons (.int n) (dp_ints r)
theorem flat_ints : ∀ ns : List Int, PyData.canLayAll0 (ns.map PyData.int) = true ∧ PyData.depthAll (ns.map PyData.int) = 0
  | [] => ⟨rfl, rfl⟩
  | n :: r => ⟨by show (true && PyData.canLayAll0 (r.map PyData.int)) = true; rw [(flat_ints r).1]; rfl, by show max 0 (PyData.depthAll (r.map PyData.int)) = 0; rw [(flat_ints r).2]; rfl⟩
theorem shaped_of {d : PyData} (h1 : d.canLay0 = true) (h2 : d.depth ≤ 64) : SeqAt.shaped d = true := by
  unfold SeqAt.shaped
  rw [h1, decide_eq_true h2]
  rfl
theorem shaped_ints (ns : List Int) : SeqAt.shaped (.list (ns.map PyData.int)) = true := shaped_of (flat_ints ns).1 (by show PyData.depthAll (ns.map PyData.int) + 1 ≤ 64; rw [(flat_ints ns).2]; decide)
/-- all but what stands at g stays, new things may come -/
def Keep (g : Addr) (H H' : Hp) : Prop := ∀ b o, b ≠ g → H b = some o → H' b = some o
theorem Keep.refl (g : Addr) (H : Hp) : Keep g H H := fun _ _ _ h => h
theorem Keep.trans {g : Addr} {H H1 H2 : Hp} (a : Keep g H H1) (b : Keep g H1 H2) : Keep g H H2 := fun c o n h => b c o n (a c o n h)
theorem Keep.of_same {g : Addr} {H H' : Hp} (s : Same H H') : Keep g H H' := fun b o _ h => s b o h
theorem Keep.of_but {g : Addr} {H H' : Hp} (s : But g H H') : Keep g H H' := fun b o n h => (s b n).trans h
theorem Keep.seq {K : PySem.W.Frag} {g a : Addr} {H H' : Hp} {xs : List V} (k : Keep g H H') (ne : a ≠ g) (h : SqL K H a xs) : SqL K H' a xs := by
  rcases h with (h | ⟨o, h⟩) | h
  · exact .inl (.inl (k _ _ ne h))
  · exact .inl (.inr ⟨o, k _ _ ne h⟩)
  · exact .inr h
theorem Gen.at {H : Hp} {g : Addr} {n : Int} (h : Gen H g n) : ∃ o, H g = some o := let ⟨_, _, _, e, _⟩ := h; ⟨_, e⟩
theorem Gen.same {H H' : Hp} {g : Addr} {n : Int} (h : Gen H g n) (s : Same H H') : Gen H' g n := by
  obtain ⟨a, b, c, e, r⟩ := h
  exact ⟨a, b, c, s _ _ e, r⟩
theorem Gen.upd {H : Hp} {g b : Addr} {n : Int} {o : HO} (h : Gen H g n) (ne : g ≠ b) : Gen (upd H b o) g n := by
  obtain ⟨x, y, c, e, r⟩ := h
  exact ⟨x, y, c, by rw [upd_ne ne]; exact e, r⟩
theorem Gen.ne {H : Hp} {g p : Addr} {n : Int} (h : Gen H g n) (hp : H p = none) : p ≠ g := fun e => by
  obtain ⟨o, z⟩ := h.at
  rw [← e, hp] at z
  cases z
theorem But.free {g p : Addr} {H H' : Hp} {n : Int} (k : But g H H') (G : Gen H g n) (h : H p = none) : H' p = none := (k p (G.ne h)).trans h
/-- what was free before is free unless something was put there -/
theorem Keep.free {g p : Addr} {H H' : Hp} (k : Keep g H H') (G : ∃ o, H g = some o) (h : H' p = none) (hg : ∃ o, H' g = some o) : H p = none := by
  by_cases e : p = g
  · obtain ⟨o, z⟩ := hg
    rw [e, z] at h
    cases h
  · cases q : H p with
    | none => rfl
    | some o =>
      rw [k p o e q] at h
      cases h
theorem perm_erase {α : Type} : ∀ {l : List α} {k : Nat} {y : α}, l[k]? = some y → (y :: l.eraseIdx k).Perm l
  | [], k, y, h => by simp at h
  | x :: l, 0, y, h => by
    have e : x = y := by simpa using h
    subst e
    exact List.Perm.refl _
  | x :: l, k + 1, y, h => by
    have h' : l[k]? = some y := by simpa using h
    exact (List.Perm.swap x y (l.eraseIdx k)).trans ((perm_erase h').cons x)
theorem seq_at {r : Int} {m : Nat} (h0 : 0 ≤ r) (h1 : r < m) : seqIndex? r m = some r.toNat := by
  show (if (decide (0 ≤ (if r < 0 then r + m else r)) && decide ((if r < 0 then r + m else r) < m)) = true then some (if r < 0 then r + m else r).toNat else none) = _
  rw [if_neg (show ¬ r < 0 by omega), decide_eq_true h0, decide_eq_true h1]
  rfl
/-- how long the list at l is -/
def size (H : Hp) (l : Addr) : Nat := match H l with
  | some (.lst xs) => xs.length
  | _ => 0
theorem size_of {H : Hp} {l : Addr} {xs : List V} (h : H l = some (.lst xs)) : size H l = xs.length := by
  unfold size
  rw [h]
theorem map_erase {α β : Type} (f : α → β) : ∀ (l : List α) (k : Nat), (l.map f).eraseIdx k = (l.eraseIdx k).map f
  | [], _ => rfl
  | _ :: _, 0 => rfl
  | x :: l, k + 1 => congrArg (f x :: ·) (map_erase f l k)
section
variable {P : Program} {w : World} {K : PySem.W.Frag} {mg : Str → Option Value} {base : Heap}
/-- the same numbers in some order, in a new list -/
def spOrder (K : PySem.W.Frag) : Sp := fun vs H Q _ => ∃ (g t : Addr) (ns : List Int) (n : Int), vs = [.ref g, .ref t] ∧ SqL K H t (ns.map V.int) ∧ t ≠ g ∧ Gen H g n ∧ ns.length ≤ 100 ∧ n + 3 * ns.length ≤ 1073741824 ∧
  ∀ (p : Addr) (ms : List Int) (H' : Hp), ms.Perm ns → Keep g H H' → H p = none → H' p = some (.lst (ms.map V.int)) → Gen H' g (n + 3 * ns.length) → Q (.ref p) H'
theorem ok_order {f fr : Addr} {fd fdr : FuncData} (F : Fun K "_law_drawn_order" "_law_drawn_order" sOrder f fd) (G : FnOk P w K mg base CX0 2 fr fdr ["generator", "bound"] spRandom) (br : Binds K fdr ["generator", "bound"] []) (kr : PySem.W.keepIn K (.ref fr) = true) (mr : mg "_law_random" = some (.ref fr))
    (ml : mg "list" = none) (mn : mg "len" = none) : FnOk P w K mg base CX0 3 f fd ["generator", "things"] (spOrder K) := by
  refine F.ok scOrder (fun vs H Q E h => ?_) (fun cdv A outer s H vs Q E hr h => ?_)
  · obtain ⟨g, t, ns, n, rfl, _⟩ := h
    rfl
  obtain ⟨g, t, ns, n, rfl, L, ntg, gen, h100, hn, q⟩ := h
  have nd := scOrder.nd
  refine ⟨_, pss_cons (ps_par (i := 2) (j := 3) rfl nd rfl rfl (by decide) rfl rfl (pa_cons (pe_callTy call_list_of (by rfl) ml (by decide +kernel) (pa_cons (pv 1) pa_nil)) (pa_cons (pe_lst pa_nil) pa_nil)) (by rfl))
    (pss_cons (ps_while PassesOwn.never (pt_cmpR (op_neD hr.units) (pv 2) (pe_lst pa_nil) (nomark _))
      (pss_one (ps_expr (pe_bm PySem.F.plainAttrs_list PySem.F.slot_list_append PySem.F.type_list_append mt_append (pv 3) (pa_cons
        (pe_bm PySem.F.plainAttrs_list PySem.F.slot_list_pop PySem.F.type_list_pop mt_popAt (pv 2) (pa_cons
          (pe_call G (hr.mono (by decide)) rfl mr kr br .nil pass0 (pa_cons (pv 0) (pa_cons (pe_callB call_len_seq (by rfl) mn PySem.boot_len (pa_cons (pv 2) pa_nil)) pa_nil))) pa_nil)) pa_nil)))))
    (pss_one (ps_ret (pv 3)))), ?_⟩
  refine ⟨_, rfl, t, _, rfl, .inl L, fun l nl => ⟨Nat.zero_le _, fun p np => ⟨_, _, rfl, ?_⟩⟩⟩
  have npl : p ≠ l := fun e => by
    rw [e, upd_same] at np
    cases np
  have np0 : H p = none := by
    rw [upd_ne npl] at np
    exact np
  have nlg : l ≠ g := gen.ne nl
  have npg : p ≠ g := gen.ne np0
  refine while_by (fun σ H' => ∃ ls fs : List Int, σ = [some (.ref g), some (.ref t), some (.ref l), some (.ref p)] ∧ (fs ++ ls).Perm ns ∧ Keep g H H' ∧ H' l = some (.lst (ls.map V.int)) ∧ H' p = some (.lst (fs.map V.int)) ∧ Gen H' g (n + 3 * fs.length)) (fun _ H' => size H' l)
    ⟨ns, [], rfl, List.Perm.refl _, Keep.of_same ((same_new nl).trans (same_new np)), by rw [upd_ne npl.symm, upd_same], upd_same, by simpa using (gen.upd nlg.symm).upd npg.symm⟩ (fun σ H' hP => ?_) fun σ H' Q Q' h hc => ?_
  · obtain ⟨ls, fs, rfl, pm, kp, el, ep, gn⟩ := hP
    refine ⟨_, rfl, Nat.zero_le _, fun e ne => ?_⟩
    have nel : l ≠ e := ne_of_none el ne
    have nep : p ≠ e := ne_of_none ep ne
    have me := same_new ne (o := .lst [])
    refine ⟨_, .list [], .lst (SqL.of (me _ _ el)) (dp_ints ls), .lst (SqL.of upd_same) .nil, shaped_ints ls, by decide +kernel, ?_⟩
    cases ls with
    | nil =>
      refine ⟨false, rfl, ?_⟩
      rw [List.append_nil] at pm
      refine ⟨_, rfl, q p fs _ pm (kp.trans (Keep.of_same me)) np0 (me _ _ ep) ?_⟩
      rw [← pm.length_eq]
      exact gn.same me
    | cons y ys =>
      refine ⟨true, rfl, ?_⟩
      have hlen : (fs ++ y :: ys).length = ns.length := pm.length_eq
      rw [List.length_append, List.length_cons] at hlen
      refine ⟨_, rfl, .inl ⟨rfl, _, SqL.of (me _ _ ep)⟩, _, rfl, .inl ⟨rfl, _, SqL.of (me _ _ el)⟩, _, rfl, _, rfl, l, _, rfl, .inl (SqL.of (me _ _ el)), g, _, _, rfl, gn.same me, ?_, ?_, ?_, fun r H2 r0 r1 gn2 bt => ?_⟩
      · rw [List.length_map, List.length_cons]
        omega
      · rw [List.length_map, List.length_cons]
        omega
      · omega
      rw [List.length_map] at r1
      have hc : (y :: ys).length = ys.length + 1 := rfl
      have hk : r.toNat < (y :: ys).length := by omega
      have el2 : H2 l = some (.lst ((y :: ys).map V.int)) := (bt l nlg).trans (me _ _ el)
      have ep2 : H2 p = some (.lst (fs.map V.int)) := (bt p npg).trans (me _ _ ep)
      have eg : ((y :: ys).map V.int)[r.toNat]? = some (.int ((y :: ys)[r.toNat])) := by
        rw [List.getElem?_map, List.getElem?_eq_getElem hk]
        rfl
      refine ⟨l, _, r, r.toNat, _, rfl, rfl, el2, by omega, by omega, seq_at r0 (by rw [List.length_map]; exact r1), eg, ?_⟩
      refine ⟨p, _, _, rfl, rfl, by rw [upd_ne npl]; exact ep2, ?_, ?_⟩
      · rw [List.length_map]
        exact small1000 (by omega)
      have keep2 : Keep g H H2 := (kp.trans (Keep.of_same me)).trans (Keep.of_but bt)
      refine ⟨⟨(y :: ys).eraseIdx r.toNat, fs ++ [(y :: ys)[r.toNat]], rfl, ?_, fun b o nb eb => ?_, ?_, ?_, ?_⟩, ?_⟩
      · rw [List.append_assoc]
        exact (List.Perm.append_left fs (perm_erase (List.getElem?_eq_getElem hk))).trans pm
      · rw [upd_ne (ne_of_none eb np0), upd_ne (ne_of_none eb nl)]
        exact keep2 b o nb eb
      · rw [upd_ne npl.symm, upd_same, map_erase]
      · rw [upd_same, List.map_append]
        rfl
      · rw [List.length_append, List.length_singleton]
        exact ((gn2.upd nlg.symm).upd npg.symm).mono (by omega)
      · show size _ l < size _ l
        rw [size_of (show upd (upd H2 l _) p _ l = some (.lst _) by rw [upd_ne npl.symm, upd_same]), size_of el, List.length_eraseIdx, if_pos (by rw [List.length_map]; exact hk), List.length_map]
        omega
  · obtain ⟨v, e, l0, hp⟩ := hc
    exact ⟨v, e, l0, fun p hp' => let ⟨d, e', a1, a2, a3, a4, k, e5, z⟩ := hp p hp'; ⟨d, e', a1, a2, a3, a4, k, e5, h _ _ z⟩⟩
end
end DQ

namespace DQ
/-- one-to-one: no first twice, no second twice, all among the items -/
def OneToOne (ns : List Int) (ps : List (Int × Int)) : Prop := (ps.map (·.1)).Nodup ∧ (ps.map (·.2)).Nodup ∧ ∀ p ∈ ps, p.1 ∈ ns ∧ p.2 ∈ ns
theorem OneToOne.sub {ns : List Int} {ps qs : List (Int × Int)} (h : OneToOne ns qs) (s : ps.Sublist qs) : OneToOne ns ps :=
  ⟨(s.map (·.1)).nodup h.1, (s.map (·.2)).nodup h.2.1, fun p hp => h.2.2 p (s.subset hp)⟩
theorem zip_fst_sub : ∀ (l m : List Int), ((l.zip m).map (·.1)).Sublist l
  | [], m => by simp
  | x :: l, [] => by simp
  | x :: l, y :: m => by
    show (x :: (l.zip m).map (·.1)).Sublist (x :: l)
    exact (zip_fst_sub l m).cons₂ x
theorem zip_snd_sub : ∀ (l m : List Int), ((l.zip m).map (·.2)).Sublist m
  | [], m => by simp
  | x :: l, [] => by simp
  | x :: l, y :: m => by
    show (y :: (l.zip m).map (·.2)).Sublist (y :: m)
    exact (zip_snd_sub l m).cons₂ y
theorem oneToOne_zip {ns l m : List Int} (hl : l.Nodup) (hm : m.Nodup) (sl : ∀ x ∈ l, x ∈ ns) (sm : ∀ x ∈ m, x ∈ ns) : OneToOne ns (l.zip m) :=
  ⟨(zip_fst_sub l m).nodup hl, (zip_snd_sub l m).nodup hm, fun p hp => ⟨sl _ ((zip_fst_sub l m).subset (List.mem_map.mpr ⟨p, hp, rfl⟩)), sm _ ((zip_snd_sub l m).subset (List.mem_map.mpr ⟨p, hp, rfl⟩))⟩⟩
/-- no item twice, all of them in m -/
def Inj (l m : List Int) : Prop := l.Nodup ∧ ∀ x ∈ l, x ∈ m
theorem Inj.append {l1 l2 m1 m2 : List Int} (a : Inj l1 m1) (b : Inj l2 m2) (h : (m1 ++ m2).Nodup) : Inj (l1 ++ l2) (m1 ++ m2) := by
  refine ⟨List.nodup_append.mpr ⟨a.1, b.1, fun x hx y hy e => ?_⟩, fun x hx => ?_⟩
  · exact (List.nodup_append.mp h).2.2 x (a.2 x hx) y (b.2 y hy) e
  · rcases List.mem_append.mp hx with z | z
    · exact List.mem_append_left _ (a.2 x z)
    · exact List.mem_append_right _ (b.2 x z)
theorem ring_fst : ∀ (x : Int) (r : List Int), (((x :: r).zip r).map (·.1)) ++ [(x :: r).getLast (by simp)] = x :: r
  | x, [] => rfl
  | x, y :: r => by
    have ih := ring_fst y r
    show x :: ((((y :: r).zip r).map (·.1)) ++ [(x :: y :: r).getLast (by simp)]) = x :: y :: r
    rw [List.getLast_cons (by simp)]
    exact congrArg (x :: ·) ih
theorem ring_snd : ∀ (x : Int) (r : List Int), ((x :: r).zip r).map (·.2) = r
  | x, [] => rfl
  | x, y :: r => congrArg (y :: ·) (ring_snd y r)
/-- the links of one ring, open or closed -/
def ringOf (x : Int) (r : List Int) (closed : Bool) : List (Int × Int) := (x :: r).zip r ++ if closed = true then [((x :: r).getLast (by simp), x)] else []
theorem ring_inj {x : Int} {r : List Int} {closed : Bool} (h : (x :: r).Nodup) : Inj ((ringOf x r closed).map (·.1)) (x :: r) ∧ Inj ((ringOf x r closed).map (·.2)) (x :: r) := by
  unfold ringOf
  cases closed with
  | true =>
    rw [if_pos rfl, List.map_append, List.map_append]
    constructor
    · show Inj (((x :: r).zip r).map (·.1) ++ [(x :: r).getLast (by simp)]) (x :: r)
      rw [ring_fst]
      exact ⟨h, fun _ z => z⟩
    · show Inj (((x :: r).zip r).map (·.2) ++ [x]) (x :: r)
      rw [ring_snd]
      have pm : (r ++ [x]).Perm (x :: r) := List.perm_append_comm
      exact ⟨pm.nodup_iff.mpr h, fun y hy => pm.subset hy⟩
  | false =>
    rw [if_neg (by simp), List.append_nil]
    refine ⟨⟨(zip_fst_sub _ _).nodup h, fun y hy => (zip_fst_sub _ _).subset hy⟩, ?_⟩
    rw [ring_snd]
    exact ⟨(List.nodup_cons.mp h).2, fun y hy => List.mem_cons_of_mem _ hy⟩
theorem inj_oneToOne {ns ms : List Int} {ps : List (Int × Int)} (a : Inj (ps.map (·.1)) ms) (b : Inj (ps.map (·.2)) ms) (h : ∀ x ∈ ms, x ∈ ns) : OneToOne ns ps :=
  ⟨a.1, b.1, fun p hp => ⟨h _ (a.2 _ (List.mem_map.mpr ⟨p, hp, rfl⟩)), h _ (b.2 _ (List.mem_map.mpr ⟨p, hp, rfl⟩))⟩⟩
theorem zip_at {l m : List Int} {i : Nat} {a b : Int} (ha : l[i]? = some a) (hb : m[i]? = some b) : (l.zip m)[i]? = some (a, b) := by
  rw [List.getElem?_zip_eq_some]
  exact ⟨ha, hb⟩
theorem take_next {α : Type} {l : List α} {i : Nat} {x : α} (h : l[i]? = some x) : l.take (i + 1) = l.take i ++ [x] := by
  rw [List.take_add_one, h]
  rfl
theorem sub_skip {α : Type} {ps l : List α} {i : Nat} {x : α} (s : ps.Sublist (l.take i)) (h : l[i]? = some x) : ps.Sublist (l.take (i + 1)) := by
  rw [take_next h]
  exact s.trans (List.sublist_append_left _ _)
theorem sub_put {α : Type} {ps l : List α} {i : Nat} {x : α} (s : ps.Sublist (l.take i)) (h : l[i]? = some x) : (ps ++ [x]).Sublist (l.take (i + 1)) := by
  rw [take_next h]
  exact s.append (List.Sublist.refl _)
end DQ

set_option Elab.async false
set_option linter.all false
set_option maxRecDepth 100000
set_option maxHeartbeats 4000000
namespace DQ
open PySem PySem.Spec PyProof.Rows L2
abbrev sPairs : Stmt := topS 42
abbrev NP : List Str := ["generator", "items", "order", "way", "found", "other", "at", "width", "ring", "place"]
theorem scPairs : FnScope NP ["generator", "items"] (defScope sPairs) := ⟨rfl, rfl, rfl, by decide +kernel, rfl, by decide +kernel, by decide +kernel⟩
/-- the tuples that stand at a list's places -/
def Tups (H : Hp) (rs : List V) (ts : List (List V)) : Prop := Paired (fun (r : V) (t : List V) => ∃ a, r = .ref a ∧ H a = some (.tup t)) rs ts
def pairV (p : Int × Int) : List V := [.int p.1, .int p.2]
/-- tuples stay -/
def TupKeep (H H' : Hp) : Prop := ∀ a t, H a = some (.tup t) → H' a = some (.tup t)
theorem TupKeep.trans {H H1 H2 : Hp} (a : TupKeep H H1) (b : TupKeep H1 H2) : TupKeep H H2 := fun c t h => b c t (a c t h)
theorem tk_same {H H' : Hp} (s : Same H H') : TupKeep H H' := fun a t h => s a _ h
theorem tk_keep {g : Addr} {H H' : Hp} {n : Int} (k : Keep g H H') (G : Gen H g n) : TupKeep H H' := fun a t h => k a _ (fun e => by
  obtain ⟨x, y, z, eg, _⟩ := G
  rw [e, eg] at h
  cases h) h
theorem tk_lst {H : Hp} {D : Addr} {xs ys : List V} (h : H D = some (.lst xs)) : TupKeep H (upd H D (.lst ys)) := fun a t e => by
  rw [upd_ne (ne_of e h (by intro z; cases z))]
  exact e
theorem Tups.keep {H H' : Hp} (k : TupKeep H H') : ∀ {rs : List V} {ts : List (List V)}, Tups H rs ts → Tups H' rs ts
  | _, _, .nil => .nil
  | _, _, .cons ⟨a, e, h⟩ r => .cons ⟨a, e, k _ _ h⟩ (Tups.keep k r)
theorem Tups.put {H : Hp} {a : Addr} {t : List V} (e : H a = some (.tup t)) : ∀ {rs : List V} {ts : List (List V)}, Tups H rs ts → Tups H (rs ++ [.ref a]) (ts ++ [t])
  | _, _, .nil => .cons ⟨a, rfl, e⟩ .nil
  | _, _, .cons h r => .cons h (Tups.put e r)
theorem Tups.append {H : Hp} : ∀ {rs : List V} {ts : List (List V)} {rs' : List V} {ts' : List (List V)}, Tups H rs ts → Tups H rs' ts' → Tups H (rs ++ rs') (ts ++ ts')
  | _, _, _, _, .nil, s => s
  | _, _, _, _, .cons h r, s => .cons h (Tups.append r s)
theorem Keep.upd_new {g b : Addr} {H H' : Hp} {o : HO} (k : Keep g H H') (h : H b = none) : Keep g H (upd H' b o) := fun a x n e => by
  rw [upd_ne (ne_of_none e h)]
  exact k a x n e
theorem at_ints {ms : List Int} {i : Nat} {v : Int} (h : ms[i]? = some v) : atI (ms.map V.int) (0 + (i : Int)) = some (.int v) := by
  rw [Int.zero_add]
  refine atI_nat ?_
  rw [List.getElem?_map, h]
  rfl
theorem at_intsW {ms : List Int} {i w : Nat} {v x : Int} (hw : (w : Int) = x) (h : ms[i + w]? = some v) : atI (ms.map V.int) (0 + (i : Int) + x) = some (.int v) := by
  rw [Int.zero_add, ← hw, show (i : Int) + (w : Int) = ((i + w : Nat) : Int) by omega]
  refine atI_nat ?_
  rw [List.getElem?_map, h]
  rfl
theorem at_ints1 {ms : List Int} {i : Nat} {v : Int} (h : ms[i + 1]? = some v) : atI (ms.map V.int) (0 + (i : Int) + 1) = some (.int v) := at_intsW (w := 1) rfl h
theorem at_last {x : Int} {rr : List Int} : atI ((x :: rr).map V.int) (-1) = some (.int ((x :: rr).getLast (by simp))) := by
  have hl : ((x :: rr).map V.int).length = rr.length + 1 := by rw [List.length_map]; rfl
  have h1 : ixN (rr.length + 1) (-1) = some rr.length := by
    unfold ixN
    rw [if_neg (by decide), if_pos (by omega)]
    exact congrArg some (by omega)
  unfold atI
  rw [hl, h1]
  show ((x :: rr).map V.int)[rr.length]? = _
  rw [List.getElem?_map, List.getElem?_eq_getElem (show rr.length < (x :: rr).length from Nat.lt_succ_self _), List.getLast_eq_getElem]
  rfl
/-- where the walk over the order stands -/
def atOf (σ : L2.St) : Nat := match σ[6]? with
  | some (some (V.int k)) => k.toNat
  | _ => 0
/-- the next ring: at least one item -/
theorem cut_ring {ms : List Int} {k : Nat} {r : Int} (hk : k < ms.length) (h0 : 0 ≤ r) : ∃ x rr, cutV (ms.map V.int) (some (k : Int)) (some ((k : Int) + 1 + r)) = (x :: rr).map V.int ∧ k + (x :: rr).length ≤ ms.length ∧ ms.take k ++ (x :: rr) = ms.take (k + (x :: rr).length) := by
  have e1 : (k : Int) + 1 + r = ((k + 1 + r.toNat : Nat) : Int) := by omega
  have e2 : cutV (ms.map V.int) (some (k : Int)) (some ((k : Int) + 1 + r)) = ((ms.drop k).take (min (k + 1 + r.toNat) ms.length - k)).map V.int := by
    unfold cutV
    rw [e1, show HT.sIx (ms.map V.int).length 0 (some (k : Int)) = min k (ms.map V.int).length from HT.sIx_nat _ 0 k, show HT.sIx (ms.map V.int).length (ms.map V.int).length (some ((k + 1 + r.toNat : Nat) : Int)) = min (k + 1 + r.toNat) (ms.map V.int).length from HT.sIx_nat _ _ _, List.length_map, Nat.min_eq_left (Nat.le_of_lt hk), ← List.map_drop, ← List.map_take]
  rw [e2]
  cases q : (ms.drop k).take (min (k + 1 + r.toNat) ms.length - k) with
  | nil =>
    have z := congrArg List.length q
    rw [List.length_take, List.length_drop, List.length_nil] at z
    omega
  | cons x rr =>
    have z := congrArg List.length q
    rw [List.length_take, List.length_drop] at z
    have z2 : (x :: rr).length = min (k + 1 + r.toNat) ms.length - k := by omega
    refine ⟨x, rr, rfl, by omega, ?_⟩
    rw [List.take_add, z2, q]
section
variable {P : Program} {w : World} {K : PySem.W.Frag} {mg : Str → Option Value} {base : Heap}
def spPairs (K : PySem.W.Frag) : Sp := fun vs H Q _ => ∃ (g t : Addr) (ns : List Int) (n : Int), vs = [.ref g, .ref t] ∧ SqL K H t (ns.map V.int) ∧ t ≠ g ∧ ns.Nodup ∧ Gen H g n ∧ ns.length ≤ 100 ∧ n + 20 * ns.length + 100 ≤ 1073741824 ∧
  ∀ (p : Addr) (rs : List V) (ps : List (Int × Int)) (H' : Hp), OneToOne ns ps → Keep g H H' → H p = none → H' p = some (.lst rs) → Tups H' rs (ps.map pairV) → Gen H' g (n + 20 * ns.length + 100) → Q (.ref p) H'
theorem ok_pairs {f fo fr : Addr} {fd fdo fdr : FuncData} (F : Fun K "_law_drawn_pairs" "_law_drawn_pairs" sPairs f fd)
    (GO : FnOk P w K mg base CX0 3 fo fdo ["generator", "things"] (spOrder K)) (bO : Binds K fdo ["generator", "things"] []) (kO : PySem.W.keepIn K (.ref fo) = true) (mO : mg "_law_drawn_order" = some (.ref fo))
    (GR : FnOk P w K mg base CX0 2 fr fdr ["generator", "bound"] spRandom) (bR : Binds K fdr ["generator", "bound"] []) (kR : PySem.W.keepIn K (.ref fr) = true) (mR : mg "_law_random" = some (.ref fr))
    (mLen : mg "len" = none) (mRange : mg "range" = none) : FnOk P w K mg base CX0 4 f fd ["generator", "items"] (spPairs K) := by
  refine F.ok scPairs (fun vs H Q E h => ?_) (fun cdv A outer s H vs Q E hr h => ?_)
  · obtain ⟨g, t, ns, n, rfl, _⟩ := h
    rfl
  obtain ⟨g, t, ns, n, rfl, L, ntg, nod, gen, h100, hn, q⟩ := h
  have nd := scPairs.nd
  refine ⟨_, (pss_cons (ps_asg (pe_tup (pa_cons (pe_call GO (hr.mono (by decide)) rfl mO kO bO .nil pass0 (pa_cons (pv 0) (pa_cons (pv 1) pa_nil))) (pa_cons (pe_call GR (hr.mono (by decide)) rfl mR kR bR .nil pass0 (pa_cons (pv 0) (pa_cons pe_int pa_nil))) (pa_cons (pe_lst pa_nil) pa_nil)))) (pg_tup rfl (pgs_cons (pg_name (i := 2) nd rfl (.inr rfl)) (pgs_cons (pg_name (i := 3) nd rfl (.inl rfl)) (pgs_cons (pg_name (i := 4) nd rfl (.inl rfl)) pgs_nil)))))
    (pss_cons (ps_if (pt_cmpR op_eq (pv 3) pe_int (nomark _)) (pss_cons (ps_set (i := 5) nd rfl (.inr rfl) (pe_call GO (hr.mono (by decide)) rfl mO kO bO .nil pass0 (pa_cons (pv 0) (pa_cons (pv 1) pa_nil)))) (pss_one (ps_ret (pe_lc (own := [("at", 6)]) (g := gName 6) rfl nd (pi_range1 (by rfl) mRange (pa_cons (pe_callB call_len_seq (by rfl) mLen PySem.boot_len (pa_cons (pv 2) pa_nil)) pa_nil)) (blkOk_by (own := [("at", 6)]) (N := NP) (sc := defScope sPairs) (by decide +kernel)) (fun _ _ _ _ _ => pg_name (i := 6) nd rfl (Or.inl rfl)) (fun _ _ _ _ _ => pts_one (pt_cmpR op_gt (pe_call GR (hr.mono (by decide)) rfl mR kR bR .nil pass0 (pa_cons (pv 0) (pa_cons pe_int pa_nil))) pe_int (nomark _))) (fun _ _ _ _ _ => (pe_tup (pa_cons (pe_ix (r := rIxL K) ix_list (pv 2) (pv 6) (fun _ _ => rfl)) (pa_cons (pe_ix (r := rIxL K) ix_list (pv 5) (pv 6) (fun _ _ => rfl)) pa_nil)))))))) pss_nil)
    (pss_cons (ps_if (pt_cmpR op_eq (pv 3) pe_int (nomark _)) (pss_one (ps_ret (pe_lc (own := [("at", 6)]) (g := gName 6) rfl nd (pi_range1 (by rfl) mRange (pa_cons (pe_op op_sub (pe_callB call_len_seq (by rfl) mLen PySem.boot_len (pa_cons (pv 2) pa_nil)) pe_int) pa_nil)) (blkOk_by (own := [("at", 6)]) (N := NP) (sc := defScope sPairs) (by decide +kernel)) (fun _ _ _ _ _ => pg_name (i := 6) nd rfl (Or.inl rfl)) (fun _ _ _ _ _ => pts_one (pt_cmpR op_gt (pe_call GR (hr.mono (by decide)) rfl mR kR bR .nil pass0 (pa_cons (pv 0) (pa_cons pe_int pa_nil))) pe_int (nomark _))) (fun _ _ _ _ _ => (pe_tup (pa_cons (pe_ix (r := rIxL K) ix_list (pv 2) (pv 6) (fun _ _ => rfl)) (pa_cons (pe_ix (r := rIxL K) ix_list (pv 2) (pe_op op_add (pv 6) pe_int) (fun _ _ => rfl)) pa_nil))))))) pss_nil)
    (pss_cons (ps_if (pt_cmpR op_eq (pv 3) pe_int (nomark _)) (pss_cons (ps_set (i := 7) nd rfl (.inr rfl) (pe_op op_add pe_int (pe_call GR (hr.mono (by decide)) rfl mR kR bR .nil pass0 (pa_cons (pv 0) (pa_cons pe_int pa_nil))))) (pss_one (ps_ret (pe_lc (own := [("at", 6)]) (g := gName 6) (tt := tYes) rfl nd (pi_range1 (by rfl) mRange (pa_cons (pe_op op_sub (pe_callB call_len_seq (by rfl) mLen PySem.boot_len (pa_cons (pv 1) pa_nil)) (pv 7)) pa_nil)) (blkOk_by (own := [("at", 6)]) (N := NP) (sc := defScope sPairs) (by decide +kernel)) (fun _ _ _ _ _ => pg_name (i := 6) nd rfl (Or.inl rfl)) (fun _ _ _ _ _ => pts_nil) (fun _ _ _ _ _ => (pe_tup (pa_cons (pe_ix (r := rIxL K) ix_list (pv 1) (pv 6) (fun _ _ => rfl)) (pa_cons (pe_ix (r := rIxL K) ix_list (pv 1) (pe_op op_add (pv 6) (pv 7)) (fun _ _ => rfl)) pa_nil)))))))) pss_nil)
    (pss_cons (ps_set (i := 6) nd rfl (.inl rfl) pe_int)
    (pss_cons (ps_while PassesOwn.never (pt_cmpR op_lt (pv 6) (pe_callB call_len_seq (by rfl) mLen PySem.boot_len (pa_cons (pv 2) pa_nil)) (nomark _)) (pss_cons (ps_set (i := 8) nd rfl (.inr rfl) (pe_slice sl_list (pv 2) (po_some (pv 6)) (po_some (pe_op op_add (pe_op op_add (pv 6) pe_int) (pe_call GR (hr.mono (by decide)) rfl mR kR bR .nil pass0 (pa_cons (pv 0) (pa_cons pe_int pa_nil)))))))
      (pss_cons (ps_set (i := 4) nd rfl (.inl rfl) (pe_op op_cat (pv 4) (pe_lc (own := [("place", 9)]) (g := gName 9) (tt := tYes) rfl nd (pi_range1 (by rfl) mRange (pa_cons (pe_op op_sub (pe_callB call_len_seq (by rfl) mLen PySem.boot_len (pa_cons (pv 8) pa_nil)) pe_int) pa_nil)) (blkOk_by (own := [("place", 9)]) (N := NP) (sc := defScope sPairs) (by decide +kernel)) (fun _ _ _ _ _ => pg_name (i := 9) nd rfl (Or.inl rfl)) (fun _ _ _ _ _ => pts_nil) (fun _ _ _ _ _ => (pe_tup (pa_cons (pe_ix (r := rIxL K) ix_list (pv 8) (pv 9) (fun _ _ => rfl)) (pa_cons (pe_ix (r := rIxL K) ix_list (pv 8) (pe_op op_add (pv 9) pe_int) (fun _ _ => rfl)) pa_nil)))))))
      (pss_cons (ps_if (PW.pt (pw_or (pt_cmpR op_eq (pv 3) pe_int (nomark _)) (pw_or1 (pt_cmpR op_eq (pe_call GR (hr.mono (by decide)) rfl mR kR bR .nil pass0 (pa_cons (pv 0) (pa_cons pe_int pa_nil))) pe_int (nomark _))))) (pss_one (ps_expr (pe_bm PySem.F.plainAttrs_list PySem.F.slot_list_append PySem.F.type_list_append mt_append (pv 4) (pa_cons (pe_tup (pa_cons (pe_ix (r := rIxL K) ix_list (pv 8) (pe_un un_neg pe_int) (fun _ _ => rfl)) (pa_cons (pe_ix (r := rIxL K) ix_list (pv 8) pe_int (fun _ _ => rfl)) pa_nil))) pa_nil)))) pss_nil)
      (pss_one (ps_set (i := 6) nd rfl (.inl rfl) (pe_op op_add (pv 6) (pe_callB call_len_seq (by rfl) mLen PySem.boot_len (pa_cons (pv 8) pa_nil)))))))))
    (pss_one (ps_ret (pv 4))))))))), ?_⟩
  refine ⟨_, rfl, _, rfl, g, t, ns, n, rfl, L, ntg, gen, h100, by omega, fun p0 ms H1 pm k1 n0 e0 gen1 => ?_⟩
  refine ⟨_, rfl, g, 5, _, rfl, gen1, by decide, by decide, by omega, fun way H2 w0 w1 gen2 b2 => ?_⟩
  refine ⟨Nat.zero_le _, fun p1 n1 => ⟨by show 3 ≤ sizeLine; decide, fun p2 n2 => ?_⟩⟩
  have m1 := same_new n1 (o := .lst [])
  have e1 : upd H2 p1 (.lst []) p1 = some (.lst []) := upd_same
  generalize upd H2 p1 (.lst []) = H3 at m1 e1 n2 ⊢
  have m2 := same_new n2 (o := .tup [.ref p0, .int way, .ref p1])
  have e2 : upd H3 p2 (.tup [.ref p0, .int way, .ref p1]) p2 = some (.tup [.ref p0, .int way, .ref p1]) := upd_same
  generalize upd H3 p2 (.tup [.ref p0, .int way, .ref p1]) = H4 at m2 e2 ⊢
  refine ⟨p2, [.ref p0, .int way, .ref p1], rfl, .inl (.inl e2), rfl, _, _, rfl, _, _, rfl, _, _, rfl, rfl, ?_⟩
  have np0g : p0 ≠ g := gen.ne n0
  have k4 : Keep g H H4 := (k1.trans (Keep.of_but b2)).trans (Keep.of_same (m1.trans m2))
  have gen4 := (gen2.same m1).same m2
  have o4 : H4 p0 = some (.lst (ms.map V.int)) := m2 _ _ (m1 _ _ ((b2 p0 np0g).trans e0))
  have f4 := m2 _ _ e1
  have L4 : SqL K H4 t (ns.map V.int) := k4.seq ntg L
  have nodm : ms.Nodup := pm.nodup_iff.mpr nod
  have subm : ∀ x ∈ ms, x ∈ ns := fun x hx => pm.subset hx
  have lenm : ms.length = ns.length := pm.length_eq
  have p1free : H p1 = none := by
    refine Keep.free (k1.trans (Keep.of_but b2)) gen.at n1 gen2.at
  -- way == 0
  refine ⟨_, rfl, rfl, _, rfl, ite2 (fun c => ?_) fun c => ?_⟩
  · refine ⟨_, rfl, _, rfl, g, t, ns, _, rfl, L4, ntg, gen4, h100, by omega, fun p5 os H5 pm5 k5 n5 e5 gen5 => ?_⟩
    have o5 : H5 p0 = some (.lst (ms.map V.int)) := k5 _ _ np0g o4
    have np5g : p5 ≠ g := gen4.ne n5
    have leno : os.length = ns.length := pm5.length_eq
    have hm : (((ms.map V.int).length : Nat) : Int).toNat = ms.length := by rw [List.length_map]; omega
    refine ⟨_, rfl, p0, _, rfl, .inl (SqL.of o5), _, rfl, by rw [List.length_map]; omega, by rw [List.length_map]; omega, fun D nD => lc_range (lo := 0) (n := (((ms.map V.int).length : Nat) : Int).toNat) (fun k H' => ∃ (ps : List (Int × Int)) (rs : List V), H' D = some (.lst rs) ∧ rs.length ≤ k ∧ Tups H' rs (ps.map pairV) ∧ ps.Sublist ((ms.zip os).take k) ∧ Keep g H5 H' ∧ Gen H' g (n + 3 * ns.length + 3 + 3 * ns.length + 3 * k))
      ⟨[], [], upd_same, Nat.le_refl _, .nil, List.nil_sublist _, Keep.of_same (same_new nD), (gen5.same (same_new nD)).mono (by omega)⟩ (fun k H' hk hP => ?_) fun H' hP => ?_⟩
    · obtain ⟨ps, rs, eD, hl, tp, sb, kp, gn⟩ := hP
      rw [hm] at hk
      have nDg : D ≠ g := gen5.ne nD
      have ga : ms[k]? = some ms[k] := List.getElem?_eq_getElem hk
      have gb : os[k]? = some (os[k]'(by omega)) := List.getElem?_eq_getElem (by omega)
      have gz := zip_at ga gb
      refine ⟨rfl, _, rfl, g, 3, _, rfl, gn, by decide, by decide, by omega, fun r H6 r0 r1 gn6 bt => ⟨_, _, rfl, rfl, _, rfl, ite2 (fun c2 => ?_) fun c2 => ?_⟩⟩
      · have kp6 : Keep g H5 H6 := kp.trans (Keep.of_but bt)
        have eD6 : H6 D = some (.lst rs) := (bt D nDg).trans eD
        refine ⟨_, rfl, _, rfl, p0, _, _, _, rfl, rfl, SqL.of (kp6 _ _ np0g o5), at_ints ga, _, rfl, _, rfl, p5, _, _, _, rfl, rfl, SqL.of (kp6 _ _ np5g e5), at_ints gb, by show 2 ≤ sizeLine; decide, fun T nT => ?_⟩
        have mT := same_new nT (o := .tup [.int ms[k], .int (os[k]'(by omega))])
        have eT : upd H6 T (.tup [.int ms[k], .int (os[k]'(by omega))]) T = some (.tup [.int ms[k], .int (os[k]'(by omega))]) := upd_same
        generalize upd H6 T (.tup [.int ms[k], .int (os[k]'(by omega))]) = H7 at mT eT ⊢
        have eD7 := mT _ _ eD6
        refine ⟨rs, eD7, small1000 (by omega), ps ++ [(ms[k], os[k]'(by omega))], rs ++ [.ref T], upd_same, ?_, ?_, sub_put sb gz, ?_, ?_⟩
        · rw [List.length_append, List.length_singleton]
          omega
        · rw [List.map_append]
          exact (Tups.put eT ((tp.keep (tk_keep (Keep.of_but bt) gn)).keep (tk_same mT))).keep (tk_lst eD7)
        · exact (kp6.trans (Keep.of_same mT)).upd_new nD
        · exact ((gn6.same mT).upd nDg.symm).mono (by omega)
      · exact ⟨ps, rs, (bt D nDg).trans eD, by omega, tp.keep (tk_keep (Keep.of_but bt) gn), sub_skip sb gz, kp.trans (Keep.of_but bt), gn6.mono (by omega)⟩
    · obtain ⟨ps, rs, eD, hl, tp, sb, kp, gn⟩ := hP
      rw [hm] at sb gn
      have nD4 : H4 D = none := Keep.free k5 gen4.at nD gen5.at
      have nD0 : H D = none := Keep.free k4 gen.at nD4 gen4.at
      exact q D rs ps H' ((oneToOne_zip nodm (pm5.nodup_iff.mpr nod) subm (fun x hx => pm5.subset hx)).sub (sb.trans (List.take_sublist _ _))) ((k4.trans k5).trans kp) nD0 eD tp (gn.mono (by omega))
  -- way == 1
  refine ⟨_, rfl, rfl, _, rfl, ite2 (fun c => ?_) fun c => ?_⟩
  · have hm : ((((ms.map V.int).length : Nat) : Int) - 1).toNat = ms.length - 1 := by rw [List.length_map]; omega
    refine ⟨_, rfl, p0, _, rfl, .inl (SqL.of o4), _, _, rfl, rfl, _, rfl, by rw [List.length_map]; omega, by rw [List.length_map]; omega, fun D nD => lc_range (lo := 0) (n := ((((ms.map V.int).length : Nat) : Int) - 1).toNat) (fun k H' => ∃ (ps : List (Int × Int)) (rs : List V), H' D = some (.lst rs) ∧ rs.length ≤ k ∧ Tups H' rs (ps.map pairV) ∧ ps.Sublist ((ms.zip (ms.drop 1)).take k) ∧ Keep g H4 H' ∧ Gen H' g (n + 3 * ns.length + 3 + 3 * k))
      ⟨[], [], upd_same, Nat.le_refl _, .nil, List.nil_sublist _, Keep.of_same (same_new nD), (gen4.same (same_new nD)).mono (by omega)⟩ (fun k H' hk hP => ?_) fun H' hP => ?_⟩
    · obtain ⟨ps, rs, eD, hl, tp, sb, kp, gn⟩ := hP
      rw [hm] at hk
      have nDg : D ≠ g := gen4.ne nD
      have ga : ms[k]? = some (ms[k]'(by omega)) := List.getElem?_eq_getElem (by omega)
      have gb : ms[k + 1]? = some (ms[k + 1]'(by omega)) := List.getElem?_eq_getElem (by omega)
      have gb' : (ms.drop 1)[k]? = some (ms[k + 1]'(by omega)) := by rw [List.getElem?_drop, Nat.add_comm]; exact gb
      have gz := zip_at ga gb'
      refine ⟨rfl, _, rfl, g, 6, _, rfl, gn, by decide, by decide, by omega, fun r H6 r0 r1 gn6 bt => ⟨_, _, rfl, rfl, _, rfl, ite2 (fun c2 => ?_) fun c2 => ?_⟩⟩
      · have kp6 : Keep g H4 H6 := kp.trans (Keep.of_but bt)
        have eD6 : H6 D = some (.lst rs) := (bt D nDg).trans eD
        refine ⟨_, rfl, _, rfl, p0, _, _, _, rfl, rfl, SqL.of (kp6 _ _ np0g o4), at_ints ga, _, rfl, _, rfl, _, _, rfl, rfl, p0, _, _, _, rfl, rfl, SqL.of (kp6 _ _ np0g o4), at_ints1 gb, by show 2 ≤ sizeLine; decide, fun T nT => ?_⟩
        have mT := same_new nT (o := .tup [.int (ms[k]'(by omega)), .int (ms[k + 1]'(by omega))])
        have eT : upd H6 T (.tup [.int (ms[k]'(by omega)), .int (ms[k + 1]'(by omega))]) T = some (.tup [.int (ms[k]'(by omega)), .int (ms[k + 1]'(by omega))]) := upd_same
        generalize upd H6 T (.tup [.int (ms[k]'(by omega)), .int (ms[k + 1]'(by omega))]) = H7 at mT eT ⊢
        have eD7 := mT _ _ eD6
        refine ⟨rs, eD7, small1000 (by omega), ps ++ [(ms[k]'(by omega), ms[k + 1]'(by omega))], rs ++ [.ref T], upd_same, ?_, ?_, sub_put sb gz, ?_, ?_⟩
        · rw [List.length_append, List.length_singleton]
          omega
        · rw [List.map_append]
          exact (Tups.put eT ((tp.keep (tk_keep (Keep.of_but bt) gn)).keep (tk_same mT))).keep (tk_lst eD7)
        · exact (kp6.trans (Keep.of_same mT)).upd_new nD
        · exact ((gn6.same mT).upd nDg.symm).mono (by omega)
      · exact ⟨ps, rs, (bt D nDg).trans eD, by omega, tp.keep (tk_keep (Keep.of_but bt) gn), sub_skip sb gz, kp.trans (Keep.of_but bt), gn6.mono (by omega)⟩
    · obtain ⟨ps, rs, eD, hl, tp, sb, kp, gn⟩ := hP
      rw [hm] at sb gn
      have nD0 : H D = none := Keep.free k4 gen.at nD gen4.at
      exact q D rs ps H' ((oneToOne_zip nodm ((List.drop_sublist 1 ms).nodup nodm) subm (fun x hx => subm x ((List.drop_sublist 1 ms).subset hx))).sub (sb.trans (List.take_sublist _ _))) (k4.trans kp) nD0 eD tp (gn.mono (by omega))
  -- way == 2
  refine ⟨_, rfl, rfl, _, rfl, ite2 (fun c => ?_) fun c => ?_⟩
  · refine ⟨_, rfl, g, 4, _, rfl, gen4, by decide, by decide, by omega, fun r H5 r0 r1 gen5 b5 => ⟨_, _, rfl, rfl, ?_⟩⟩
    have k5 : Keep g H4 H5 := Keep.of_but b5
    have L5 : SqL K H5 t (ns.map V.int) := k5.seq ntg L4
    have hm : ((((ns.map V.int).length : Nat) : Int) - (1 + r)).toNat = ns.length - (1 + r).toNat := by rw [List.length_map]; omega
    refine ⟨_, rfl, t, _, rfl, .inl L5, _, rfl, _, _, rfl, rfl, _, rfl, by rw [List.length_map]; omega, by rw [List.length_map]; omega, fun D nD => lc_range (lo := 0) (n := ((((ns.map V.int).length : Nat) : Int) - (1 + r)).toNat) (fun k H' => ∃ (ps : List (Int × Int)) (rs : List V), H' D = some (.lst rs) ∧ rs.length ≤ k ∧ Tups H' rs (ps.map pairV) ∧ ps.Sublist ((ns.zip (ns.drop (1 + r).toNat)).take k) ∧ Keep g H5 H' ∧ Gen H' g (n + 3 * ns.length + 6))
      ⟨[], [], upd_same, Nat.le_refl _, .nil, List.nil_sublist _, Keep.of_same (same_new nD), (gen5.same (same_new nD)).mono (by omega)⟩ (fun k H' hk hP => ?_) fun H' hP => ?_⟩
    · obtain ⟨ps, rs, eD, hl, tp, sb, kp, gn⟩ := hP
      rw [hm] at hk
      have nDg : D ≠ g := gen5.ne nD
      have hw : (((1 + r).toNat : Nat) : Int) = 1 + r := by omega
      have ga : ns[k]? = some (ns[k]'(by omega)) := List.getElem?_eq_getElem (by omega)
      have gb : ns[k + (1 + r).toNat]? = some (ns[k + (1 + r).toNat]'(by omega)) := List.getElem?_eq_getElem (by omega)
      have gb' : (ns.drop (1 + r).toNat)[k]? = some (ns[k + (1 + r).toNat]'(by omega)) := by rw [List.getElem?_drop, Nat.add_comm]; exact gb
      have gz := zip_at ga gb'
      refine ⟨rfl, _, rfl, _, rfl, t, _, _, _, rfl, rfl, kp.seq ntg L5, at_ints ga, _, rfl, _, rfl, _, rfl, _, _, rfl, rfl, t, _, _, _, rfl, rfl, kp.seq ntg L5, at_intsW hw gb, by show 2 ≤ sizeLine; decide, fun T nT => ?_⟩
      have mT := same_new nT (o := .tup [.int (ns[k]'(by omega)), .int (ns[k + (1 + r).toNat]'(by omega))])
      have eT : upd H' T (.tup [.int (ns[k]'(by omega)), .int (ns[k + (1 + r).toNat]'(by omega))]) T = some (.tup [.int (ns[k]'(by omega)), .int (ns[k + (1 + r).toNat]'(by omega))]) := upd_same
      generalize upd H' T (.tup [.int (ns[k]'(by omega)), .int (ns[k + (1 + r).toNat]'(by omega))]) = H7 at mT eT ⊢
      have eD7 := mT _ _ eD
      refine ⟨rs, eD7, small1000 (by omega), ps ++ [(ns[k]'(by omega), ns[k + (1 + r).toNat]'(by omega))], rs ++ [.ref T], upd_same, ?_, ?_, sub_put sb gz, ?_, ?_⟩
      · rw [List.length_append, List.length_singleton]
        omega
      · rw [List.map_append]
        exact (Tups.put eT (tp.keep (tk_same mT))).keep (tk_lst eD7)
      · exact (kp.trans (Keep.of_same mT)).upd_new nD
      · exact (gn.same mT).upd nDg.symm
    · obtain ⟨ps, rs, eD, hl, tp, sb, kp, gn⟩ := hP
      have nD4 : H4 D = none := Keep.free k5 gen4.at nD gen5.at
      have nD0 : H D = none := Keep.free k4 gen.at nD4 gen4.at
      exact q D rs ps H' ((oneToOne_zip nod ((List.drop_sublist _ ns).nodup nod) (fun _ z => z) (fun x hx => (List.drop_sublist _ ns).subset hx)).sub (sb.trans (List.take_sublist _ _))) ((k4.trans k5).trans kp) nD0 eD tp (gn.mono (by omega))
  -- at = 0
  refine while_by (fun σ H' => ∃ (k : Nat) (pf : Addr) (ps : List (Int × Int)) (rs : List V) (y : Option V), σ = [some (.ref g), some (.ref t), some (.ref p0), some (.int way), some (.ref pf), none, some (.int k), none, y, none] ∧ k ≤ ms.length ∧ H pf = none ∧ H' pf = some (.lst rs) ∧ rs.length ≤ 2 * k ∧ Tups H' rs (ps.map pairV) ∧ Inj (ps.map (·.1)) (ms.take k) ∧ Inj (ps.map (·.2)) (ms.take k) ∧ Keep g H4 H' ∧ Gen H' g (n + 3 * ns.length + 3 + 6 * k)) (fun σ _ => ms.length - atOf σ)
    ⟨0, p1, [], [], none, rfl, Nat.zero_le _, p1free, f4, Nat.le_refl _, .nil, ⟨List.nodup_nil, fun _ h => by cases h⟩, ⟨List.nodup_nil, fun _ h => by cases h⟩, Keep.refl g H4, gen4.mono (by omega)⟩ (fun σ H' hP => ?_) fun σ H' Q Q' h hc => ?_
  · obtain ⟨k, pf, ps, rs, y, rfl, hk, npf, ef, hl, tp, j1, j2, kp, gn⟩ := hP
    have o5 : H' p0 = some (.lst (ms.map V.int)) := kp _ _ np0g o4
    refine ⟨_, rfl, _, rfl, p0, _, rfl, .inl (SqL.of o5), _, _, rfl, rfl, _, rfl, ite2 (fun c => ?_) fun c => ?_⟩
    · have hk' : k < ms.length := by
        have z := of_decide_eq_true c
        rw [List.length_map] at z
        omega
      refine ⟨_, rfl, _, rfl, _, rfl, _, rfl, _, _, rfl, rfl, _, rfl, g, 5, _, rfl, gn, by decide, by decide, by omega, fun r H6 r0 r1 gn6 b6 => ⟨_, _, rfl, rfl, _, rfl, p0, _, rfl, SqL.of ((b6 p0 np0g).trans o5), fun pr nr => ?_⟩⟩
      obtain ⟨x, rr, er, hr2, htk⟩ := cut_ring (r := r) hk' r0
      have k6 : Keep g H4 H6 := kp.trans (Keep.of_but b6)
      rw [er]
      have npr0 : pr ≠ g := gn6.ne nr
      have mr := same_new nr (o := .lst ((x :: rr).map V.int))
      have er7 : upd H6 pr (.lst ((x :: rr).map V.int)) pr = some (.lst ((x :: rr).map V.int)) := upd_same
      generalize upd H6 pr (.lst ((x :: rr).map V.int)) = H7 at mr er7 ⊢
      have k7 : Keep g H4 H7 := k6.trans (Keep.of_same mr)
      have gn7 := gn6.same mr
      have pfg : pf ≠ g := gen.ne npf
      have ef7 : H7 pf = some (.lst rs) := mr _ _ ((b6 pf pfg).trans ef)
      have tp7 := (tp.keep (tk_keep (Keep.of_but b6) gn)).keep (tk_same mr)
      have hlr : (x :: rr).length = rr.length + 1 := rfl
      have hm : (((((x :: rr).map V.int).length : Nat) : Int) - 1).toNat = rr.length := by rw [List.length_map]; omega
      -- found = found + [..]
      refine ⟨_, rfl, _, rfl, pr, _, rfl, .inl (SqL.of er7), _, _, rfl, rfl, _, rfl, by rw [List.length_map]; omega, by rw [List.length_map]; omega, fun D nD => lc_range (lo := 0) (n := (((((x :: rr).map V.int).length : Nat) : Int) - 1).toNat) (fun j H' => ∃ (rs' : List V), H' D = some (.lst rs') ∧ rs'.length ≤ j ∧ Tups H' rs' ((((x :: rr).zip rr).take j).map pairV) ∧ Keep g H7 H' ∧ Gen H' g (n + 3 * ns.length + 3 + 6 * k + 3))
        ⟨[], upd_same, Nat.le_refl _, .nil, Keep.of_same (same_new nD), gn7.same (same_new nD)⟩ (fun j H' hj hP => ?_) fun H8 hP => ?_⟩
      · obtain ⟨rs', eD, hl', tp', kp', gn'⟩ := hP
        rw [hm] at hj
        have nDg : D ≠ g := gn7.ne nD
        have ga : (x :: rr)[j]? = some ((x :: rr)[j]'(by omega)) := List.getElem?_eq_getElem (by omega)
        have gb : (x :: rr)[j + 1]? = some (rr[j]'hj) := by rw [List.getElem?_cons_succ]; exact List.getElem?_eq_getElem hj
        have gz := zip_at ga (List.getElem?_eq_getElem hj)
        refine ⟨rfl, _, rfl, _, rfl, pr, _, _, _, rfl, rfl, SqL.of (kp' _ _ npr0 er7), at_ints ga, _, rfl, _, rfl, _, _, rfl, rfl, pr, _, _, _, rfl, rfl, SqL.of (kp' _ _ npr0 er7), at_ints1 gb, by show 2 ≤ sizeLine; decide, fun T nT => ?_⟩
        have mT := same_new nT (o := .tup [.int ((x :: rr)[j]'(by omega)), .int (rr[j]'hj)])
        have eT : upd H' T (.tup [.int ((x :: rr)[j]'(by omega)), .int (rr[j]'hj)]) T = some (.tup [.int ((x :: rr)[j]'(by omega)), .int (rr[j]'hj)]) := upd_same
        generalize upd H' T (.tup [.int ((x :: rr)[j]'(by omega)), .int (rr[j]'hj)]) = H9 at mT eT ⊢
        have eD9 := mT _ _ eD
        refine ⟨rs', eD9, small1000 (by omega), rs' ++ [.ref T], upd_same, ?_, ?_, (kp'.trans (Keep.of_same mT)).upd_new nD, (gn'.same mT).upd nDg.symm⟩
        · rw [List.length_append, List.length_singleton]
          omega
        · rw [take_next gz, List.map_append]
          exact (Tups.put eT (tp'.keep (tk_same mT))).keep (tk_lst eD9)
      obtain ⟨rs', eD, hl', tp', kp', gn'⟩ := hP
      rw [hm] at hl' tp'
      rw [List.take_of_length_le (by rw [List.length_zip]; omega)] at tp'
      have npD : pf ≠ D := ne_of_none ef7 nD
      have ef8 := kp' _ _ pfg ef7
      refine ⟨pf, D, _, _, rfl, rfl, ef8, eD, Nat.le_trans (show rs.length + rs'.length ≤ 1000 by omega) (by decide), fun p7 n7 => ?_⟩
      have m7 := same_new n7 (o := .lst (rs ++ rs'))
      have e7 : upd H8 p7 (.lst (rs ++ rs')) p7 = some (.lst (rs ++ rs')) := upd_same
      generalize upd H8 p7 (.lst (rs ++ rs')) = H9 at m7 e7 ⊢
      have k9 : Keep g H4 H9 := (k7.trans kp').trans (Keep.of_same m7)
      have gn9 := gn'.same m7
      have tp9 : Tups H9 (rs ++ rs') ((ps ++ (x :: rr).zip rr).map pairV) := by
        rw [List.map_append]
        exact (Tups.append (tp7.keep (tk_keep kp' gn7)) tp').keep (tk_same m7)
      have er9 : H9 pr = some (.lst ((x :: rr).map V.int)) := m7 _ _ (kp' _ _ npr0 er7)
      have n74 : H4 p7 = none := Keep.free (k7.trans kp') gen4.at n7 gn'.at
      have n70 : H p7 = none := Keep.free k4 gen.at n74 gen4.at
      have n7g : p7 ≠ g := gen.ne n70
      have nodx : (ms.take k ++ (x :: rr)).Nodup := by
        rw [htk]
        exact (List.take_sublist _ _).nodup nodm
      have nodr : (x :: rr).Nodup := (List.nodup_append.mp nodx).2.1
      -- the turn's end
      have fin : ∀ (cl : Bool) (rs8 : List V) (H8 : Hp), H8 p7 = some (.lst rs8) → rs8.length ≤ 2 * (k + (x :: rr).length) → Tups H8 rs8 ((ps ++ ringOf x rr cl).map pairV) → Keep g H4 H8 → Gen H8 g (n + 3 * ns.length + 3 + 6 * k + 6) →
          ∃ (k' : Nat) (pf : Addr) (ps : List (Int × Int)) (rs : List V) (y : Option V), [some (V.ref g), some (.ref t), some (.ref p0), some (.int way), some (.ref p7), none, some (.int ((k : Int) + (((x :: rr).map V.int).length : Nat))), none, some (.ref pr), none] = [some (.ref g), some (.ref t), some (.ref p0), some (.int way), some (.ref pf), none, some (.int k'), none, y, none] ∧ k' ≤ ms.length ∧ H pf = none ∧ H8 pf = some (.lst rs) ∧ rs.length ≤ 2 * k' ∧ Tups H8 rs (ps.map pairV) ∧ Inj (ps.map (·.1)) (ms.take k') ∧ Inj (ps.map (·.2)) (ms.take k') ∧ Keep g H4 H8 ∧ Gen H8 g (n + 3 * ns.length + 3 + 6 * k') := by
        intro cl rs8 H8 e8 l8 t8 kk8 g8
        have ri := ring_inj (closed := cl) nodr
        refine ⟨k + (x :: rr).length, p7, ps ++ ringOf x rr cl, rs8, some (.ref pr), by rw [List.length_map]; rfl, hr2, n70, e8, l8, t8, ?_, ?_, kk8, g8.mono (by omega)⟩
        · rw [List.map_append, ← htk]
          exact j1.append ri.1 nodx
        · rw [List.map_append, ← htk]
          exact j2.append ri.2 nodx
      have less : ms.length - atOf [some (V.ref g), some (.ref t), some (.ref p0), some (.int way), some (.ref p7), none, some (.int ((k : Int) + (((x :: rr).map V.int).length : Nat))), none, some (.ref pr), none] < ms.length - atOf [some (V.ref g), some (.ref t), some (.ref p0), some (.int way), some (.ref pf), none, some (.int (k : Int)), none, y, none] := by
        show ms.length - ((k : Int) + (((x :: rr).map V.int).length : Nat)).toNat < ms.length - (k : Int).toNat
        rw [List.length_map]
        omega
      have l9 : (rs ++ rs').length + 1 ≤ 2 * (k + (x :: rr).length) := by
        rw [List.length_append]
        omega
      have lst0 : atI ((x :: rr).map V.int) (-1) = some (.int ((x :: rr).getLast (by simp))) := at_last
      refine ⟨_, rfl, rfl, _, rfl, ite2 (fun c3 => ?_) fun c3 => ?_⟩
      · refine ⟨_, rfl, .inl ⟨rfl, _, SqL.of e7⟩, _, rfl, _, rfl, pr, _, _, _, rfl, rfl, SqL.of er9, lst0, _, rfl, pr, _, 0, .int x, rfl, rfl, SqL.of er9, atI_nat (j := 0) rfl, by show 2 ≤ sizeLine; decide, fun T nT => ?_⟩
        have mT := same_new nT (o := .tup [.int ((x :: rr).getLast (by simp)), .int x])
        have eT : upd H9 T (.tup [.int ((x :: rr).getLast (by simp)), .int x]) T = some (.tup [.int ((x :: rr).getLast (by simp)), .int x]) := upd_same
        generalize upd H9 T (.tup [.int ((x :: rr).getLast (by simp)), .int x]) = H11 at mT eT ⊢
        have e11 := mT _ _ e7
        refine ⟨p7, _, _, rfl, rfl, e11, small1000 (by omega), ?_⟩
        have npp : pr ≠ p7 := ne_of_none (kp' _ _ npr0 er7) n7
        refine ⟨_, rfl, _, rfl, pr, _, rfl, .inl (SqL.of (by rw [upd_ne npp]; exact mT _ _ er9)), _, _, rfl, rfl, fin true (rs ++ rs' ++ [.ref T]) _ upd_same ?_ ?_ ((k9.trans (Keep.of_same mT)).upd_new n74) (((gn9.mono (show n + 3 * ns.length + 3 + 6 * k + 3 ≤ n + 3 * ns.length + 3 + 6 * k + 6 by omega)).same mT).upd n7g.symm), less⟩
        · rw [List.length_append, List.length_singleton]
          omega
        · have z := (Tups.put eT (tp9.keep (tk_same mT))).keep (tk_lst (ys := rs ++ rs' ++ [.ref T]) e11)
          show Tups _ _ ((ps ++ ((x :: rr).zip rr ++ [((x :: rr).getLast (by simp), x)])).map pairV)
          rw [← List.append_assoc, List.map_append]
          exact z
      · refine ⟨_, rfl, g, 2, _, rfl, gn9, by decide, by decide, by omega, fun r2 H10 r20 r21 gn10 b10 => ⟨rfl, _, rfl, ?_⟩⟩
        have e710 := (b10 p7 n7g).trans e7
        have er10 := (b10 pr npr0).trans er9
        have tp10 := tp9.keep (tk_keep (Keep.of_but b10) gn9)
        have k10 := k9.trans (Keep.of_but b10)
        refine ite2 (fun c4 => ?_) fun c4 => ?_
        · refine ⟨_, rfl, .inl ⟨rfl, _, SqL.of e710⟩, _, rfl, _, rfl, pr, _, _, _, rfl, rfl, SqL.of er10, lst0, _, rfl, pr, _, 0, .int x, rfl, rfl, SqL.of er10, atI_nat (j := 0) rfl, by show 2 ≤ sizeLine; decide, fun T nT => ?_⟩
          have mT := same_new nT (o := .tup [.int ((x :: rr).getLast (by simp)), .int x])
          have eT : upd H10 T (.tup [.int ((x :: rr).getLast (by simp)), .int x]) T = some (.tup [.int ((x :: rr).getLast (by simp)), .int x]) := upd_same
          generalize upd H10 T (.tup [.int ((x :: rr).getLast (by simp)), .int x]) = H11 at mT eT ⊢
          have e11 := mT _ _ e710
          refine ⟨p7, _, _, rfl, rfl, e11, small1000 (by omega), ?_⟩
          have npp : pr ≠ p7 := ne_of_none (kp' _ _ npr0 er7) n7
          refine ⟨_, rfl, _, rfl, pr, _, rfl, .inl (SqL.of (by rw [upd_ne npp]; exact mT _ _ er10)), _, _, rfl, rfl, fin true (rs ++ rs' ++ [.ref T]) _ upd_same ?_ ?_ ((k10.trans (Keep.of_same mT)).upd_new n74) (((gn10.mono (show n + 3 * ns.length + 3 + 6 * k + 3 + 3 ≤ n + 3 * ns.length + 3 + 6 * k + 6 by omega)).same mT).upd n7g.symm), less⟩
          · rw [List.length_append, List.length_singleton]
            omega
          · have z := (Tups.put eT (tp10.keep (tk_same mT))).keep (tk_lst (ys := rs ++ rs' ++ [.ref T]) e11)
            show Tups _ _ ((ps ++ ((x :: rr).zip rr ++ [((x :: rr).getLast (by simp), x)])).map pairV)
            rw [← List.append_assoc, List.map_append]
            exact z
        · refine ⟨_, rfl, _, rfl, pr, _, rfl, .inl (SqL.of er10), _, _, rfl, rfl, fin false (rs ++ rs') _ e710 (by omega) ?_ k10 (gn10.mono (by omega)), less⟩
          show Tups _ _ ((ps ++ ((x :: rr).zip rr ++ [])).map pairV)
          rw [List.append_nil]
          exact tp10
    · -- the end
      have hk2 : k = ms.length := by
        have z := of_decide_eq_false (Bool.eq_false_iff.mpr c)
        rw [List.length_map] at z
        omega
      rw [hk2, List.take_length] at j1 j2
      exact ⟨_, rfl, q pf rs ps H' (inj_oneToOne j1 j2 subm) (k4.trans kp) npf ef tp (gn.mono (by omega))⟩
  · obtain ⟨v, e, v2, e2, p, ys, e3, o, i, j, ei, ej, kk, ek, z⟩ := hc
    exact ⟨v, e, v2, e2, p, ys, e3, o, i, j, ei, ej, kk, ek, h _ _ z⟩
end
end DQ

set_option Elab.async false
set_option linter.all false
set_option maxRecDepth 100000
set_option maxHeartbeats 4000000
namespace DQ
open PySem PySem.Spec PyProof.Rows L2
abbrev sItems : Stmt := topS 43
theorem scItems : FnScope ["generator", "most", "item", "found", "turn"] ["generator", "most"] (defScope sItems) := ⟨rfl, rfl, rfl, by decide +kernel, rfl, by decide +kernel, by decide +kernel⟩
/-- rising items -/
def Rising (ns : List Int) : Prop := ns.Pairwise (· < ·) ∧ ∀ x ∈ ns, 0 ≤ x ∧ x ≤ 1000000000
theorem Rising.nodup {ns : List Int} (h : Rising ns) : ns.Nodup := h.1.imp fun h e => by omega
theorem rising_put {ns : List Int} {v : Int} (h : Rising ns) (hv : ∀ x ∈ ns, x < v) (v0 : 0 ≤ v) (v1 : v ≤ 1000000000) : Rising (ns ++ [v]) := by
  refine ⟨List.pairwise_append.mpr ⟨h.1, List.pairwise_singleton _ _, fun x hx y hy => ?_⟩, fun x hx => ?_⟩
  · rw [List.mem_singleton] at hy
    rw [hy]
    exact hv x hx
  · rcases List.mem_append.mp hx with z | z
    · exact h.2 x z
    · rw [List.mem_singleton] at z
      rw [z]
      exact ⟨v0, v1⟩
section
variable {P : Program} {w : World} {K : PySem.W.Frag} {mg : Str → Option Value} {base : Heap}
def spItems : Sp := fun vs H Q _ => ∃ (g : Addr) (m : Nat) (n : Int), vs = [.ref g, .int m] ∧ m ≤ 100 ∧ Gen H g n ∧ n + 3 * m + 6 ≤ 1073741824 ∧
  ∀ (p : Addr) (ns : List Int) (H' : Hp), Rising ns → ns.length ≤ m → Keep g H H' → H p = none → H' p = some (.lst (ns.map V.int)) → Gen H' g (n + 3 * m + 6) → Q (.ref p) H'
theorem ok_items {f fr : Addr} {fd fdr : FuncData} (F : Fun K "_law_drawn_items" "_law_drawn_items" sItems f fd)
    (GR : FnOk P w K mg base CX0 2 fr fdr ["generator", "bound"] spRandom) (bR : Binds K fdr ["generator", "bound"] []) (kR : PySem.W.keepIn K (.ref fr) = true) (mR : mg "_law_random" = some (.ref fr)) (mRange : mg "range" = none) : FnOk P w K mg base CX0 3 f fd ["generator", "most"] spItems := by
  refine F.ok scItems (fun vs H Q E h => ?_) (fun cdv A outer s H vs Q E hr h => ?_)
  · obtain ⟨g, m, n, rfl, _⟩ := h
    rfl
  obtain ⟨g, m, n, rfl, hm, gen, hn, q⟩ := h
  have nd := scItems.nd
  refine ⟨_, (pss_cons (ps_par (i := 2) (j := 3) rfl nd rfl rfl (by decide) rfl rfl (pa_cons (pe_ix ix_list (pe_lst (pa_cons pe_int (pa_cons pe_int (pa_cons pe_int (pa_cons (pe_op op_sub (pe_op op_pow pe_int pe_int) (pe_op op_mul pe_int (pv 1))) pa_nil))))) (pe_call GR (hr.mono (by decide)) rfl mR kR bR .nil pass0 (pa_cons (pv 0) (pa_cons pe_int pa_nil))) (fun _ _ => rfl)) (pa_cons (pe_lst pa_nil) pa_nil)) (by rfl))
    (pss_cons (ps_for PassesOwn.never rfl (pi_range1 (by rfl) mRange (pa_cons (pe_call GR (hr.mono (by decide)) rfl mR kR bR .nil pass0 (pa_cons (pv 0) (pa_cons (pe_op op_add (pv 1) pe_int) pa_nil))) pa_nil)) (pg_name (i := 4) nd rfl (.inl rfl))
      (pss_cons (ps_expr (pe_bm PySem.F.plainAttrs_list PySem.F.slot_list_append PySem.F.type_list_append mt_append (pv 3) (pa_cons (pv 2) pa_nil)))
      (pss_one (ps_set (i := 2) nd rfl (.inl rfl) (pe_op op_add (pe_op op_add (pv 2) pe_int) (pe_call GR (hr.mono (by decide)) rfl mR kR bR .nil pass0 (pa_cons (pv 0) (pa_cons pe_int pa_nil))))))))
    (pss_one (ps_ret (pv 3))))), ?_⟩
  refine ⟨_, _, rfl, rfl, ⟨by decide, by decide, by decide⟩, _, rfl, _, _, rfl, rfl, .inl ⟨by decide, by decide⟩, _, _, rfl, rfl, by show 4 ≤ sizeLine; decide, fun p0 n0 => ?_⟩
  have pw : (10 : Int) ^ (9 : Int).toNat = 1000000000 := by decide
  have m0 := same_new n0 (o := .lst [.int 0, .int 0, .int 3, .int ((10 : Int) ^ (9 : Int).toNat - 3 * (m : Int))])
  have e0 : upd H p0 (.lst [.int 0, .int 0, .int 3, .int ((10 : Int) ^ (9 : Int).toNat - 3 * (m : Int))]) p0 = some (.lst [.int 0, .int 0, .int 3, .int ((10 : Int) ^ (9 : Int).toNat - 3 * (m : Int))]) := upd_same
  generalize upd H p0 (.lst [.int 0, .int 0, .int 3, .int ((10 : Int) ^ (9 : Int).toNat - 3 * (m : Int))]) = H1 at m0 e0 ⊢
  refine ⟨_, rfl, g, 4, _, rfl, gen.same m0, by decide, by decide, by omega, fun r H2 r0 r1 gen2 b2 => ?_⟩
  have e2 := (b2 p0 (gen.ne n0)).trans e0
  obtain ⟨v0, ev, h0, h1⟩ : ∃ v0 : Int, atI [V.int 0, .int 0, .int 3, .int ((10 : Int) ^ (9 : Int).toNat - 3 * (m : Int))] r = some (.int v0) ∧ 0 ≤ v0 ∧ v0 ≤ 1000000000 - 3 * m := by
    have c4 : r = 0 ∨ r = 1 ∨ r = 2 ∨ r = 3 := by omega
    rcases c4 with rfl | rfl | rfl | rfl
    · exact ⟨_, rfl, by decide, by omega⟩
    · exact ⟨_, rfl, by decide, by omega⟩
    · exact ⟨_, rfl, by decide, by omega⟩
    · exact ⟨_, rfl, by omega, by omega⟩
  refine ⟨p0, _, r, _, rfl, rfl, SqL.of e2, ev, Nat.zero_le _, fun p1 n1 => ⟨_, _, rfl, ?_⟩⟩
  have k2 : Keep g H H2 := (Keep.of_same m0).trans (Keep.of_but b2)
  have n1H : H p1 = none := Keep.free k2 gen.at n1 gen2.at
  have n1g : p1 ≠ g := gen.ne n1H
  have m1 := same_new n1 (o := .lst [])
  have e1 : upd H2 p1 (.lst []) p1 = some (.lst []) := upd_same
  generalize upd H2 p1 (.lst []) = H3 at m1 e1 ⊢
  have k3 := k2.trans (Keep.of_same m1)
  -- the turns
  refine ⟨_, rfl, _, rfl, _, _, rfl, rfl, g, _, _, rfl, gen2.same m1, by omega, by omega, by omega, fun rt H4 t0 t1 gen4 b4 => ⟨rt, rfl, by omega, by omega, ?_⟩⟩
  refine for_range (lo := 0) (n := rt.toNat) (fun i σ H' => ∃ (v : Int) (ns : List Int) (y : Option V), σ = [some (.ref g), some (.int m), some (.int v), some (.ref p1), y] ∧ H' p1 = some (.lst (ns.map V.int)) ∧ ns.length = i ∧ Rising ns ∧ (∀ x ∈ ns, x < v) ∧ 0 ≤ v ∧ v ≤ 1000000000 - 3 * m + 3 * i ∧ Keep g H H' ∧ Gen H' g (n + 6 + 3 * i))
    ⟨v0, [], none, rfl, (b4 p1 n1g).trans e1, rfl, ⟨List.Pairwise.nil, (fun x h => by cases h)⟩, (fun x h => by cases h), h0, by omega, k3.trans (Keep.of_but b4), gen4.mono (by omega)⟩ (fun i σ H' hi hP => ?_) fun σ H' hP => ?_
  · obtain ⟨v, ns, y, rfl, ep, hl, rs, lt, v0, v1, kp, gn⟩ := hP
    refine ⟨_, rfl, .inl ⟨rfl, _, SqL.of ep⟩, _, rfl, p1, _, _, rfl, rfl, ep, by rw [List.length_map]; exact small1000 (by omega), ?_⟩
    refine ⟨_, rfl, _, _, rfl, rfl, _, rfl, g, 3, _, rfl, gn.upd n1g.symm, by decide, by decide, by omega, fun r3 H5 r30 r31 gn5 b5 => ⟨_, _, rfl, rfl, ?_⟩⟩
    refine ⟨v + 1 + r3, ns ++ [v], _, rfl, ?_, by rw [List.length_append, hl]; rfl, rising_put rs lt v0 (by omega), fun x hx => ?_, by omega, by omega, ?_, gn5.mono (by omega)⟩
    · rw [b5 p1 n1g, upd_same, List.map_append]
      rfl
    · rcases List.mem_append.mp hx with z | z
      · have := lt x z
        omega
      · rw [List.mem_singleton] at z
        omega
    · exact (kp.upd_new n1H).trans (Keep.of_but b5)
  · obtain ⟨v, ns, y, rfl, ep, hl, rs, lt, v0, v1, kp, gn⟩ := hP
    exact ⟨_, rfl, q p1 ns H' rs (by omega) kp n1H ep (gn.mono (by omega))⟩
end
end DQ

set_option Elab.async false
set_option linter.all false
set_option maxRecDepth 100000
set_option maxHeartbeats 4000000
namespace DQ
open PySem PySem.Spec PyProof.Rows L2
/-! ### sorted(xs), the items data of one shape -/
theorem vals_each {β : Type} : ∀ {zs : List (V × β)} {us : List Value}, Vals (zs.map (·.1)) us → PySem.W.EachIs (fun (u : Value) (z : V × β) => RelV z.1 u) us zs
  | [], _, .nil => .nil
  | _ :: _, _, .cons r t => .cons r (vals_each t)
theorem each_vals {β : Type} : ∀ {us : List Value} {zs : List (V × β)}, PySem.W.EachIs (fun (u : Value) (z : V × β) => RelV z.1 u) us zs → Vals (zs.map (·.1)) us
  | _, _, .nil => .nil
  | _, _, .cons r t => .cons r (each_vals t)
def rSortD {β : Type} (enc : β → PyData) (K : PySem.W.Frag) : List V → Hp → VK → Prop := fun vs H Q => ∃ (a : Addr) (zs : List (V × β)), vs = [.ref a] ∧ SqL K H a (zs.map (·.1)) ∧ (∀ z ∈ zs, Dp K H z.1 (enc z.2)) ∧ PySem.W.AllAlike (zs.map fun z => enc z.2) ∧ PySem.W.Sortable (zs.map fun z => enc z.2) ∧
  (∀ z ∈ zs, (enc z.2).depth ≤ 8) ∧ ∀ p, H p = none → Q (.ref p) (upd H p (.lst ((zs.mergeSort (PySem.W.dataLe false fun z => enc z.2)).map (·.1))))
theorem each_reads {X : Cx} {pins : List (Addr × Obj)} {σ : L2.St} {H : Hp} {s : Shared} {β : Type} {enc : β → PyData} (I : Inv X pins σ H s) : ∀ {zs : List (V × β)} {us : List Value}, Vals (zs.map (·.1)) us → (∀ z ∈ zs, Dp X.K H z.1 (enc z.2)) → PySem.W.EachIs (fun (u : Value) (z : V × β) => ∃ as, Reads s.heap u (enc z.2) as) us zs
  | [], _, .nil, _ => .nil
  | z :: _, _, .cons r t, h => .cons (Dp.reads I _ _ _ (h z (List.mem_cons_self ..)) r) (each_reads I t fun y hy => h y (List.mem_cons_of_mem _ hy))
theorem cr_sortD {X : Cx} {β : Type} {enc : β → PyData} (hu : X.A.units + 64 < cLine) : CallR X (.builtin "sorted") (rSortD enc X.K) := by
  intro pins s σ H vs us Q I r h
  obtain ⟨a, zs, rfl, hs, hd, al, so, dep, q⟩ := h
  obtain ⟨its, rv, hl, hz⟩ := I.list hs
  obtain ⟨u, rfl, ru⟩ := vals1 r
  obtain rfl : u = Value.ref a := ru
  have hz' : its.length ≤ sizeLine := by rw [← rv.length]; exact hz
  have hlen : zs.length = its.length := by rw [← rv.length, List.length_map]
  refine PySem.W.sorted_data (enc := fun z : V × β => enc z.2) hl.isList (vals_each rv) (each_reads I rv hd) al so (by rw [hlen]; exact hz') (fun z hz => by have := dep z hz; omega) fun out ho eo => ?_
  obtain ⟨c, hc⟩ := sortedAll_at s.heap its out.toArray
  have ro := each_vals eo
  have hn : H (s.heap.objs.size + 1) = none := I.hok.fresh (Nat.le_succ _)
  refine ⟨.ref (s.heap.objs.size + 1), _, I.laid (t' := s.toks) (o := .lst ((zs.mergeSort (PySem.W.dataLe false fun z => enc z.2)).map (·.1))) (fun _ _ => sortedAll_old) (Nat.le_succ _) ⟨?_, out, c, ro, hc⟩, rfl, q _ hn⟩
  rw [ro.length, ho, hlen]
  exact hz'
end DQ

set_option Elab.async false
set_option linter.all false
set_option maxRecDepth 100000
namespace DQ
open PySem PySem.Spec PyProof.Rows L2
/-- a fact -/
inductive Fact where
  | mark (m : Str) (i : Int)
  | link (c : Str) (a b : Int)
def Fact.v : Fact → List V
  | .mark m i => [.str "mark", .str m, .int i]
  | .link c a b => [.str "link", .str c, .int a, .int b]
def Fact.d : Fact → PyData
  | .mark m i => .tuple [.str "mark", .str m, .int i]
  | .link c a b => .tuple [.str "link", .str c, .int a, .int b]
/-- the links of a column -/
def Fact.on (c : Str) : Fact → Option (Int × Int)
  | .mark _ _ => none
  | .link c' a b => if c' = c then some (a, b) else none
def linksOf (c : Str) (fs : List Fact) : List (Int × Int) := fs.filterMap (Fact.on c)
structure Store where
  marks : List Str
  columns : List Str
  items : List Int
  facts : List Fact
def Fact.of (S : Store) : Fact → Prop
  | .mark m i => m ∈ S.marks ∧ i ∈ S.items
  | .link c a b => c ∈ S.columns ∧ a ∈ S.items ∧ b ∈ S.items
/-- a drawn store of at most so many items -/
structure Drawn (m : Nat) (S : Store) : Prop where
  marks : ∃ k, k ≤ 3 ∧ S.marks = (["red", "blue", "gold"] : List Str).take k
  columns : ∃ k, 1 ≤ k ∧ k ≤ 2 ∧ S.columns = (["next", "below"] : List Str).take k
  items : Rising S.items
  few : S.items.length ≤ m
  short : S.facts.length ≤ 1000
  rise : S.facts.Pairwise fun x y => PySem.W.dataLt x.d y.d = true
  facts : ∀ x ∈ S.facts, x.of S
  links : ∀ c, OneToOne S.items (linksOf c S.facts)
theorem str_inj {x y : Str} (h : x.cps.toList = y.cps.toList) : x = y := PySem.W.str_of_cps h
theorem fact_toks {x y : Fact} (h : PySem.W.keyToks x.d = PySem.W.keyToks y.d) : x = y := by
  cases x with
  | mark m i =>
    cases y with
    | mark m' i' =>
      simp only [Fact.d, PySem.W.keyToks, PySem.W.keyToksAll, List.cons_append, List.nil_append, List.cons.injEq, Sum.inr.injEq, Sum.inl.injEq, true_and, and_true] at h
      rw [str_inj h.1, h.2]
    | link c a b =>
      simp only [Fact.d, PySem.W.keyToks, PySem.W.keyToksAll, List.cons_append, List.nil_append, List.cons.injEq, Sum.inr.injEq, Sum.inl.injEq, true_and, and_true] at h
      exact absurd h.1 (by decide)
  | link c a b =>
    cases y with
    | mark m' i' =>
      simp only [Fact.d, PySem.W.keyToks, PySem.W.keyToksAll, List.cons_append, List.nil_append, List.cons.injEq, Sum.inr.injEq, Sum.inl.injEq, true_and, and_true] at h
      exact absurd h.1 (by decide)
    | link c' a' b' =>
      simp only [Fact.d, PySem.W.keyToks, PySem.W.keyToksAll, List.cons_append, List.nil_append, List.cons.injEq, Sum.inr.injEq, Sum.inl.injEq, true_and, and_true] at h
      rw [str_inj h.1, h.2.1, h.2.2]
theorem fact_lt {x y : Fact} (ne : x ≠ y) (h : PySem.W.dataLt y.d x.d = false) : PySem.W.dataLt x.d y.d = true := by
  cases q : PySem.W.dataLt x.d y.d with
  | true => rfl
  | false => exact absurd (fact_toks (lex_total _ _ q h)) ne
theorem sorted_rise {zs : List (V × Fact)} (nd : (zs.map (·.2)).Nodup) : ((zs.mergeSort (PySem.W.dataLe false fun z => z.2.d)).map (·.2)).Pairwise fun x y => PySem.W.dataLt x.d y.d = true := by
  have pm : (zs.mergeSort (PySem.W.dataLe false fun z => z.2.d)).Perm zs := List.mergeSort_perm _ _
  have nd2 : ((zs.mergeSort (PySem.W.dataLe false fun z => z.2.d)).map (·.2)).Nodup := (pm.map (·.2)).nodup_iff.mpr nd
  have so := PySem.W.sort_pairwise (PySem.W.sortLe_total (listOrd itemOrd) false fun z : V × Fact => PySem.W.keyToks z.2.d) zs
  refine List.pairwise_map.mpr ?_
  have nd3 := List.pairwise_map.mp nd2
  exact (List.pairwise_and_iff.mpr ⟨so, nd3⟩).imp fun {a b} h => fact_lt h.2 (by
    have z : (!PySem.W.dataLt b.2.d a.2.d) = true := h.1
    simpa using z)
theorem OneToOne.perm {ns : List Int} {ps qs : List (Int × Int)} (h : OneToOne ns ps) (p : qs.Perm ps) : OneToOne ns qs :=
  ⟨(p.map (·.1)).nodup_iff.mpr h.1, (p.map (·.2)).nodup_iff.mpr h.2.1, fun x hx => h.2.2 x (p.subset hx)⟩
theorem links_perm {c : Str} {fs gs : List Fact} (p : fs.Perm gs) : (linksOf c fs).Perm (linksOf c gs) := p.filterMap _
theorem links_append {c : Str} {fs gs : List Fact} : linksOf c (fs ++ gs) = linksOf c fs ++ linksOf c gs := List.filterMap_append
end DQ
namespace DQ
open PySem PySem.Spec PyProof.Rows L2
theorem links_marks {c : Str} {fs : List Fact} (h : ∀ x ∈ fs, ∃ m i, x = Fact.mark m i) : linksOf c fs = [] := by
  unfold linksOf
  refine List.filterMap_eq_nil_iff.mpr fun x hx => ?_
  obtain ⟨m, i, rfl⟩ := h x hx
  rfl
theorem links_self {c : Str} : ∀ ps : List (Int × Int), linksOf c (ps.map fun p => Fact.link c p.1 p.2) = ps
  | [] => rfl
  | p :: r => by
    have ih := links_self (c := c) r
    unfold linksOf at ih ⊢
    rw [List.map_cons, List.filterMap_cons_some (b := p) (by show (if c = c then some (p.1, p.2) else none) = some p; rw [if_pos rfl]), ih]
theorem links_other {c c' : Str} (ne : c ≠ c') (ps : List (Int × Int)) : linksOf c' (ps.map fun p => Fact.link c p.1 p.2) = [] := by
  unfold linksOf
  refine List.filterMap_eq_nil_iff.mpr fun x hx => ?_
  obtain ⟨p, _, rfl⟩ := List.mem_map.mp hx
  show (if c = c' then some (p.1, p.2) else none) = none
  rw [if_neg ne]
theorem len_sub : ∀ {l m : List Int}, l.Nodup → (∀ x ∈ l, x ∈ m) → l.length ≤ m.length
  | [], _, _, _ => Nat.zero_le _
  | x :: l, m, nd, h => by
    have hx := h x (List.mem_cons_self ..)
    obtain ⟨h1, h2⟩ := List.nodup_cons.mp nd
    have z := len_sub (l := l) (m := m.erase x) h2 fun y hy => (List.mem_erase_of_ne (fun e => h1 (by rw [← e]; exact hy))).mpr (h y (List.mem_cons_of_mem _ hy))
    rw [List.length_erase_of_mem hx] at z
    have := List.length_pos_of_mem hx
    rw [List.length_cons]
    omega
theorem OneToOne.len {ns : List Int} {ps : List (Int × Int)} (h : OneToOne ns ps) : ps.length ≤ ns.length := by
  have z := len_sub h.1 fun x hx => by
    obtain ⟨p, hp, rfl⟩ := List.mem_map.mp hx
    exact (h.2.2 p hp).1
  rw [List.length_map] at z
  exact z
theorem OneToOne.nodup {ns : List Int} {ps : List (Int × Int)} (h : OneToOne ns ps) : ps.Nodup := (List.pairwise_map.mp h.1).imp fun h e => h (by rw [e])
theorem oneToOne_nil (ns : List Int) : OneToOne ns [] := ⟨List.nodup_nil, List.nodup_nil, fun p h => by cases h⟩
theorem Tups.get {H : Hp} : ∀ {rs : List V} {ts : List (List V)} {k : Nat} {x : V}, Tups H rs ts → rs[k]? = some x → ∃ a t, x = .ref a ∧ H a = some (.tup t) ∧ ts[k]? = some t
  | _, _, k, x, .nil, h => by simp at h
  | _, _, 0, x, .cons ⟨a, e, h1⟩ _, h => by
    cases h
    exact ⟨a, _, e, h1, rfl⟩
  | _, _, k + 1, x, .cons _ r, h => Tups.get r (k := k) (by simpa using h)
theorem Tups.length {H : Hp} {rs : List V} {ts : List (List V)} (h : Tups H rs ts) : rs.length = ts.length := Paired.length h
theorem Tups.zip {H : Hp} : ∀ {rs : List V} {fs : List Fact}, Tups H rs (fs.map Fact.v) → ∀ z ∈ rs.zip fs, ∃ a, z.1 = .ref a ∧ H a = some (.tup z.2.v)
  | [], [], _, z, h => by cases h
  | [], _ :: _, t, _, _ => by cases t
  | _ :: _, [], t, _, _ => by cases t
  | r :: rs, f :: fs, .cons h t, z, hz => by
    rcases List.mem_cons.mp hz with e | e
    · rw [e]
      exact h
    · exact Tups.zip t z e
theorem tups_of {H : Hp} : ∀ zs : List (V × Fact), (∀ z ∈ zs, ∃ a, z.1 = .ref a ∧ H a = some (.tup z.2.v)) → Tups H (zs.map (·.1)) ((zs.map (·.2)).map Fact.v)
  | [], _ => .nil
  | z :: r, h => .cons (h z (List.mem_cons_self ..)) (tups_of r fun y hy => h y (List.mem_cons_of_mem _ hy))
theorem fact_dp {K : PySem.W.Frag} {H : Hp} {a : Addr} {x : Fact} (h : H a = some (.tup x.v)) : Dp K H (.ref a) x.d := by
  cases x with
  | mark m i => exact .tup (.inl (.inl h)) (.cons (.str _) (.cons (.str _) (.cons (.int _) .nil)))
  | link c a b => exact .tup (.inl (.inl h)) (.cons (.str _) (.cons (.str _) (.cons (.int _) (.cons (.int _) .nil))))
theorem fact_alike (x y : Fact) : PySem.W.alike x.d y.d = true := by
  cases x <;> cases y <;> rfl
theorem fact_depth (x : Fact) : x.d.depth ≤ 8 := by
  cases x
  · show 0 + 1 ≤ 8
    decide
  · show 0 + 1 ≤ 8
    decide
theorem fact_tuple (x : Fact) : ∃ y r, x.d = .tuple (y :: r) := by
  cases x
  · exact ⟨_, _, rfl⟩
  · exact ⟨_, _, rfl⟩
theorem links_out {S : Store} {c : Str} {fs : List Fact} (h : ∀ x ∈ fs, x.of S) (nc : c ∉ S.columns) : linksOf c fs = [] := by
  unfold linksOf
  refine List.filterMap_eq_nil_iff.mpr fun x hx => ?_
  cases x with
  | mark m i => rfl
  | link c' a b =>
    have z := (h _ hx).1
    show (if c' = c then some (a, b) else none) = none
    rw [if_neg fun e => nc (by rw [← e]; exact z)]
end DQ

set_option Elab.async false
set_option linter.all false
set_option maxRecDepth 100000
set_option maxHeartbeats 4000000
namespace DQ
open PySem PySem.Spec PyProof.Rows L2
abbrev sStore : Stmt := topS 44
abbrev NS : List Str := ["generator", "most", "marks", "columns", "items", "facts", "mark", "often", "item", "column", "one", "other"]
theorem scStore : FnScope NS ["generator", "most"] (defScope sStore) := ⟨rfl, rfl, rfl, by decide +kernel, rfl, by decide +kernel, by decide +kernel⟩
/-- the store stands at v -/
def StoAt (H : Hp) (v : V) (S : Store) : Prop := ∃ (a m c i f : Addr) (rs : List V), v = .ref a ∧ H a = some (.tup [.str "store", .ref m, .ref c, .ref i, .ref f]) ∧ H m = some (.lst (S.marks.map V.str)) ∧ H c = some (.lst (S.columns.map V.str)) ∧ H i = some (.lst (S.items.map V.int)) ∧ H f = some (.lst rs) ∧ Tups H rs (S.facts.map Fact.v)
theorem cut_take {xs : List V} {r : Int} (h0 : 0 ≤ r) : cutV xs none (some r) = xs.take r.toNat := by
  have e : r = ((r.toNat : Nat) : Int) := by omega
  unfold cutV
  rw [HT.sIx_none, List.drop_zero, e, show HT.sIx xs.length xs.length (some ((r.toNat : Nat) : Int)) = min r.toNat xs.length from HT.sIx_nat _ _ _, Nat.sub_zero, Int.toNat_natCast]
  by_cases h : r.toNat ≤ xs.length
  · rw [Nat.min_eq_left h]
  · rw [Nat.min_eq_right (by omega), List.take_length, List.take_of_length_le (by omega)]
theorem at_map {α β : Type} {f : α → β} {l : List α} {i : Nat} {y : β} (h : (l.map f)[i]? = some y) : ∃ x, l[i]? = some x ∧ y = f x := by
  rw [List.getElem?_map] at h
  obtain ⟨x, hx, e⟩ := Option.map_eq_some_iff.mp h
  exact ⟨x, hx, e.symm⟩
section
variable {P : Program} {w : World} {K : PySem.W.Frag} {mg : Str → Option Value} {base : Heap}
def spStore : Sp := fun vs H Q _ => ∃ (g : Addr) (m : Nat) (n : Int), vs = [.ref g, .int m] ∧ m ≤ 100 ∧ Gen H g n ∧ n + 30000 ≤ 1073741824 ∧
  ∀ (v : V) (S : Store) (H' : Hp), Drawn m S → Keep g H H' → StoAt H' v S → Gen H' g (n + 30000) → Q v H'
theorem ok_store {f fi fp fr : Addr} {fd fdi fdp fdr : FuncData} (F : Fun K "_law_drawn_store" "_law_drawn_store" sStore f fd)
    (GI : FnOk P w K mg base CX0 3 fi fdi ["generator", "most"] spItems) (bI : Binds K fdi ["generator", "most"] []) (kI : PySem.W.keepIn K (.ref fi) = true) (mI : mg "_law_drawn_items" = some (.ref fi))
    (GP : FnOk P w K mg base CX0 4 fp fdp ["generator", "items"] (spPairs K)) (bP : Binds K fdp ["generator", "items"] []) (kP : PySem.W.keepIn K (.ref fp) = true) (mP : mg "_law_drawn_pairs" = some (.ref fp))
    (GR : FnOk P w K mg base CX0 2 fr fdr ["generator", "bound"] spRandom) (bR : Binds K fdr ["generator", "bound"] []) (kR : PySem.W.keepIn K (.ref fr) = true) (mR : mg "_law_random" = some (.ref fr)) (mSorted : mg "sorted" = none) : FnOk P w K mg base CX0 5 f fd ["generator", "most"] spStore := by
  refine F.ok scStore (fun vs H Q E h => ?_) (fun cdv A outer s H vs Q E hr h => ?_)
  · obtain ⟨g, m, n, rfl, _⟩ := h
    rfl
  obtain ⟨g, m, n, rfl, hm, gen, hn, q⟩ := h
  have nd := scStore.nd
  refine ⟨_, (pss_cons (ps_par (i := 2) (j := 3) rfl nd rfl rfl (by decide) rfl rfl (pa_cons (pe_slice sl_list (pe_lst (pa_cons pe_str (pa_cons pe_str (pa_cons pe_str pa_nil)))) po_none (po_some (pe_call GR (hr.mono (by decide)) rfl mR kR bR .nil pass0 (pa_cons (pv 0) (pa_cons pe_int pa_nil))))) (pa_cons (pe_slice sl_list (pe_lst (pa_cons pe_str (pa_cons pe_str pa_nil))) po_none (po_some (pe_op op_add pe_int (pe_call GR (hr.mono (by decide)) rfl mR kR bR .nil pass0 (pa_cons (pv 0) (pa_cons pe_int pa_nil)))))) pa_nil)) (by rfl))
    (pss_cons (ps_par (i := 4) (j := 5) rfl nd rfl rfl (by decide) rfl rfl (pa_cons (pe_call GI (hr.mono (by decide)) rfl mI kI bI .nil pass0 (pa_cons (pv 0) (pa_cons (pv 1) pa_nil))) (pa_cons (pe_lst pa_nil) pa_nil)) (by rfl))
    (pss_cons (ps_for PassesOwn.never rfl (pi_list (pv 2)) (pg_name (i := 6) nd rfl (.inr rfl)) (pss_cons (ps_set (i := 7) nd rfl (.inr rfl) (pe_op op_add pe_int (pe_call GR (hr.mono (by decide)) rfl mR kR bR .nil pass0 (pa_cons (pv 0) (pa_cons pe_int pa_nil))))) (pss_one (ps_set (i := 5) nd rfl (.inl rfl) (pe_op op_cat (pv 5) (pe_lc (own := [("item", 8)]) (g := gName 8) rfl nd (pi_list (pv 4)) (blkOk_by (own := [("item", 8)]) (N := NS) (sc := defScope sStore) (by decide +kernel)) (fun _ _ _ _ _ => pg_name (i := 8) nd rfl (Or.inl rfl)) (fun _ _ _ _ _ => pts_one (pt_cmpR op_eq (pe_call GR (hr.mono (by decide)) rfl mR kR bR .nil pass0 (pa_cons (pv 0) (pa_cons (pv 7) pa_nil))) pe_int (nomark _))) (fun _ _ _ _ _ => (pe_tup (pa_cons pe_str (pa_cons (pv 6) (pa_cons (pv 8) pa_nil)))))))))))
    (pss_cons (ps_for PassesOwn.never rfl (pi_list (pv 3)) (pg_name (i := 9) nd rfl (.inr rfl)) (pss_one (ps_set (i := 5) nd rfl (.inl rfl) (pe_op op_cat (pv 5) (pe_lc (own := [("one", 10), ("other", 11)]) (g := gTup K 2 (gCons (gName 10) (gCons (gName 11) gNil))) (tt := tYes) rfl nd (pi_list (pe_call GP (hr.mono (by decide)) rfl mP kP bP .nil pass0 (pa_cons (pv 0) (pa_cons (pv 4) pa_nil)))) (blkOk_by (own := [("one", 10), ("other", 11)]) (N := NS) (sc := defScope sStore) (by decide +kernel)) (fun _ _ _ _ _ => pg_tup rfl (pgs_cons (pg_name (i := 10) nd rfl (Or.inl rfl) (.inr rfl)) (pgs_cons (pg_name (i := 11) nd rfl (Or.inl rfl) (.inr rfl)) pgs_nil))) (fun _ _ _ _ _ => pts_nil) (fun _ _ _ _ _ => (pe_tup (pa_cons pe_str (pa_cons (pv 9) (pa_cons (pv 10) (pa_cons (pv 11) pa_nil)))))))))))
    (pss_one (ps_ret (pe_tup (pa_cons pe_str (pa_cons (pv 2) (pa_cons (pv 3) (pa_cons (pv 4) (pa_cons (pe_callB (cr_sortD (enc := Fact.d) hr.units) (by rfl) mSorted (by decide +kernel) (pa_cons (pv 5) pa_nil)) pa_nil)))))))))))), ?_⟩
  refine ⟨by show 3 ≤ sizeLine; decide, fun q1 nq1 => ?_⟩
  have mq1 := same_new nq1 (o := .lst [.str "red", .str "blue", .str "gold"])
  have eq1 : upd H q1 (.lst [.str "red", .str "blue", .str "gold"]) q1 = some (.lst [.str "red", .str "blue", .str "gold"]) := upd_same
  generalize upd H q1 (.lst [.str "red", .str "blue", .str "gold"]) = H1 at mq1 eq1 ⊢
  refine ⟨_, rfl, g, 4, _, rfl, gen.same mq1, by decide, by decide, by omega, fun r1 H2 r10 r11 gen2 b2 => ?_⟩
  refine ⟨_, rfl, q1, _, rfl, SqL.of ((b2 q1 (gen.ne nq1)).trans eq1), fun pm nm => ?_⟩
  rw [cut_take r10, show ([V.str "red", .str "blue", .str "gold"].take r1.toNat) = ((["red", "blue", "gold"] : List Str).take r1.toNat).map V.str by rw [List.map_take]; rfl]
  have hMS : ∃ k, k ≤ 3 ∧ (["red", "blue", "gold"] : List Str).take r1.toNat = (["red", "blue", "gold"] : List Str).take k := ⟨r1.toNat, by omega, rfl⟩
  generalize hms : (["red", "blue", "gold"] : List Str).take r1.toNat = MS at hMS ⊢
  have mm := same_new nm (o := .lst (MS.map V.str))
  have em : upd H2 pm (.lst (MS.map V.str)) pm = some (.lst (MS.map V.str)) := upd_same
  generalize upd H2 pm (.lst (MS.map V.str)) = H3 at mm em ⊢
  -- columns
  refine ⟨by show 2 ≤ sizeLine; decide, fun q2 nq2 => ?_⟩
  have mq2 := same_new nq2 (o := .lst [.str "next", .str "below"])
  have eq2 : upd H3 q2 (.lst [.str "next", .str "below"]) q2 = some (.lst [.str "next", .str "below"]) := upd_same
  generalize upd H3 q2 (.lst [.str "next", .str "below"]) = H4 at mq2 eq2 ⊢
  have k3 : Keep g H H3 := ((Keep.of_same mq1).trans (Keep.of_but b2)).trans (Keep.of_same mm)
  have gen3 := gen2.same mm
  refine ⟨_, rfl, g, 2, _, rfl, gen3.same mq2, by decide, by decide, by omega, fun r2 H5 r20 r21 gen5 b5 => ⟨_, _, rfl, rfl, _, rfl, q2, _, rfl, SqL.of ((b5 q2 (gen3.ne nq2)).trans eq2), fun pc nc => ?_⟩⟩
  rw [cut_take (show 0 ≤ 1 + r2 by omega), show ([V.str "next", .str "below"].take (1 + r2).toNat) = ((["next", "below"] : List Str).take (1 + r2).toNat).map V.str by rw [List.map_take]; rfl]
  have hCS : ∃ k, 1 ≤ k ∧ k ≤ 2 ∧ (["next", "below"] : List Str).take (1 + r2).toNat = (["next", "below"] : List Str).take k := ⟨(1 + r2).toNat, by omega, by omega, rfl⟩
  generalize hcs : (["next", "below"] : List Str).take (1 + r2).toNat = CS at hCS ⊢
  have mc := same_new nc (o := .lst (CS.map V.str))
  have ec : upd H5 pc (.lst (CS.map V.str)) pc = some (.lst (CS.map V.str)) := upd_same
  generalize upd H5 pc (.lst (CS.map V.str)) = H6 at mc ec ⊢
  have k6 : Keep g H H6 := ((k3.trans (Keep.of_same mq2)).trans (Keep.of_but b5)).trans (Keep.of_same mc)
  have gen6 := gen5.same mc
  have nmg : pm ≠ g := gen2.ne nm
  have ncg : pc ≠ g := gen5.ne nc
  have em6 : H6 pm = some (.lst (MS.map V.str)) := mc _ _ ((b5 pm nmg).trans (mq2 _ _ em))
  -- items, facts
  refine ⟨_, _, rfl, _, rfl, _, rfl, g, m, _, rfl, hm, gen6, by omega, fun pi ns H7 rise few k7 ni ei gen7 => ⟨Nat.zero_le _, fun pf nf => ⟨_, _, rfl, ?_⟩⟩⟩
  have mf := same_new nf (o := .lst [])
  have ef : upd H7 pf (.lst []) pf = some (.lst []) := upd_same
  generalize upd H7 pf (.lst []) = H8 at mf ef ⊢
  have k8 : Keep g H H8 := (k6.trans k7).trans (Keep.of_same mf)
  have gen8 : Gen H8 g (n + 400) := (gen7.same mf).mono (by omega)
  have nig : pi ≠ g := gen6.ne ni
  have em8 : H8 pm = some (.lst (MS.map V.str)) := mf _ _ (k7 _ _ nmg em6)
  have ec8 : H8 pc = some (.lst (CS.map V.str)) := mf _ _ (k7 _ _ ncg ec)
  have ei8 : H8 pi = some (.lst (ns.map V.int)) := mf _ _ ei
  have nodn := rise.nodup
  have nodM : MS.Nodup := by rw [← hms]; exact (List.take_sublist _ _).nodup (by decide)
  have nodC : CS.Nodup := by rw [← hcs]; exact (List.take_sublist _ _).nodup (by decide)
  have lenM : MS.length ≤ 3 := by rw [← hms, List.length_take]; exact Nat.min_le_right _ _
  have lenC : CS.length ≤ 2 := by rw [← hcs, List.length_take]; exact Nat.min_le_right _ _
  -- the marks
  refine ⟨_, rfl, pm, rfl, ⟨_, SqL.of em8⟩, for_list (K := K) (a := pm) (xs := MS.map V.str) (fun i σ H' => ∃ (pf : Addr) (fs : List Fact) (rs : List V) (y6 y7 : Option V), σ = [some (.ref g), some (.int m), some (.ref pm), some (.ref pc), some (.ref pi), some (.ref pf), y6, y7, none, none, none, none] ∧ pf ≠ g ∧ H' pf = some (.lst rs) ∧ rs.length ≤ 100 * i ∧ Tups H' rs (fs.map Fact.v) ∧ fs.Nodup ∧ (∀ x ∈ fs, ∃ mk it, x = .mark mk it ∧ mk ∈ MS.take i ∧ it ∈ ns) ∧ Keep g H8 H' ∧ Gen H' g (n + 400 + 400 * i))
    ⟨pf, [], [], none, none, rfl, gen7.ne nf, ef, Nat.le_refl _, .nil, List.nodup_nil, (fun x h => by cases h), Keep.refl g H8, gen8.mono (by omega)⟩ (fun i σ H' _ hP => ?_) (fun i x σ H' hx hP => ?_) fun σ H' hP => ?_⟩
  · obtain ⟨pf, fs, rs, y6, y7, rfl, npf, ef, hl, tp, nf, al, kp, gn⟩ := hP
    exact SqL.of (kp _ _ nmg em8)
  · obtain ⟨pf, fs, rs, y6, y7, rfl, npf, ef, hl, tp, nodf, al, kp, gn⟩ := hP
    obtain ⟨mk, hmk, rfl⟩ := at_map hx
    have hi : i < MS.length := (List.getElem?_eq_some_iff.mp hmk).1
    refine ⟨_, rfl, g, 3, _, rfl, gn, by decide, by decide, by omega, fun r H9 r0 r1' gn9 b9 => ⟨_, _, rfl, rfl, ?_⟩⟩
    have k9 : Keep g H8 H9 := kp.trans (Keep.of_but b9)
    refine ⟨_, rfl, _, rfl, pi, rfl, ⟨_, SqL.of (k9 _ _ nig ei8)⟩, fun D nD => lc_list (K := K) (a := pi) (xs := ns.map V.int) (fun k H' => ∃ (fs' : List Fact) (rs' : List V), H' D = some (.lst rs') ∧ rs'.length ≤ k ∧ Tups H' rs' (fs'.map Fact.v) ∧ fs'.Sublist ((ns.map (Fact.mark mk)).take k) ∧ Keep g H9 H' ∧ Gen H' g (n + 400 + 400 * i + 3 + 3 * k))
      ⟨[], [], upd_same, Nat.le_refl _, .nil, List.nil_sublist _, Keep.of_same (same_new nD), (gn9.same (same_new nD)).mono (by omega)⟩ (fun k H' _ hP => ?_) (fun k x H' hx hP => ?_) fun H' hP => ?_⟩
    · obtain ⟨fs', rs', eD, hl', tp', sb, kp', gn'⟩ := hP
      exact SqL.of (kp' _ _ nig (k9 _ _ nig ei8))
    · obtain ⟨fs', rs', eD, hl', tp', sb, kp', gn'⟩ := hP
      obtain ⟨it, hit, rfl⟩ := at_map hx
      have nDg : D ≠ g := gn9.ne nD
      have gz : (ns.map (Fact.mark mk))[k]? = some (.mark mk it) := by rw [List.getElem?_map, hit]; rfl
      have hk : k < ns.length := (List.getElem?_eq_some_iff.mp hit).1
      refine ⟨rfl, _, rfl, _, rfl, g, _, _, rfl, gn', by omega, by omega, by omega, fun q H10 q0 q1 gn10 b10 => ⟨rfl, _, rfl, ite2 (fun c2 => ?_) fun c2 => ?_⟩⟩
      · have eD10 : H10 D = some (.lst rs') := (b10 D nDg).trans eD
        refine ⟨_, rfl, _, rfl, by show 3 ≤ sizeLine; decide, fun T nT => ?_⟩
        have mT := same_new nT (o := .tup [.str "mark", .str mk, .int it])
        have eT : upd H10 T (.tup [.str "mark", .str mk, .int it]) T = some (.tup [.str "mark", .str mk, .int it]) := upd_same
        generalize upd H10 T (.tup [.str "mark", .str mk, .int it]) = H11 at mT eT ⊢
        have eD11 := mT _ _ eD10
        refine ⟨rs', eD11, small1000 (by omega), fs' ++ [.mark mk it], rs' ++ [.ref T], upd_same, ?_, ?_, sub_put sb gz, ?_, ?_⟩
        · rw [List.length_append, List.length_singleton]
          omega
        · rw [List.map_append]
          exact (Tups.put eT ((tp'.keep (tk_keep (Keep.of_but b10) gn')).keep (tk_same mT))).keep (tk_lst eD11)
        · exact ((kp'.trans (Keep.of_but b10)).trans (Keep.of_same mT)).upd_new nD
        · exact ((gn10.same mT).upd nDg.symm).mono (by omega)
      · exact ⟨fs', rs', (b10 D nDg).trans eD, by omega, tp'.keep (tk_keep (Keep.of_but b10) gn'), sub_skip sb gz, kp'.trans (Keep.of_but b10), gn10.mono (by omega)⟩
    · obtain ⟨fs', rs', eD, hl', tp', sb, kp', gn'⟩ := hP
      rw [List.length_map] at hl' sb gn'
      have npD : pf ≠ D := ne_of_none ((b9 pf npf).trans ef) nD
      have ef9 := kp' _ _ npf ((b9 pf npf).trans ef)
      refine ⟨pf, D, _, _, rfl, rfl, ef9, eD, Nat.le_trans (show rs.length + rs'.length ≤ 1000 by omega) (by decide), fun p7 n7 => ?_⟩
      have m7 := same_new n7 (o := .lst (rs ++ rs'))
      have sub' : fs'.Sublist (ns.map (Fact.mark mk)) := sb.trans (List.take_sublist _ _)
      have tke := take_next hmk
      refine ⟨p7, fs ++ fs', rs ++ rs', _, _, rfl, gn'.ne n7, upd_same, ?_, ?_, ?_, fun x hx => ?_, (k9.trans kp').trans (Keep.of_same m7), (gn'.same m7).mono (by omega)⟩
      · rw [List.length_append]
        omega
      · rw [List.map_append]
        exact (Tups.append ((tp.keep (tk_keep (Keep.of_but b9) gn)).keep (tk_keep kp' gn9)) tp').keep (tk_same m7)
      · refine List.nodup_append.mpr ⟨nodf, sub'.nodup (List.pairwise_map.mpr (nodn.imp fun h e => h (by cases e; rfl))), fun x hx y hy e => ?_⟩
        obtain ⟨mk', it', rfl, hm', _⟩ := al x hx
        obtain ⟨it2, _, e2⟩ := List.mem_map.mp (sub'.subset hy)
        rw [← e2] at e
        cases e
        have z : (MS.take i ++ [mk]).Nodup := by
          rw [← tke]
          exact (List.take_sublist _ _).nodup nodM
        exact (List.nodup_append.mp z).2.2 mk hm' mk (List.mem_singleton.mpr rfl) rfl
      · rcases List.mem_append.mp hx with z | z
        · obtain ⟨mk', it', e, hm', hi'⟩ := al x z
          exact ⟨mk', it', e, by rw [tke]; exact List.mem_append_left _ hm', hi'⟩
        · obtain ⟨it2, h2, e2⟩ := List.mem_map.mp (sub'.subset z)
          exact ⟨mk, it2, e2.symm, by rw [tke]; exact List.mem_append_right _ (List.mem_singleton.mpr rfl), h2⟩
  obtain ⟨pf', fs0, rs0, y6, y7, rfl, npf0, ef0, hl0, tp0, nod0, al0, kp0, gn0⟩ := hP
  rw [List.length_map] at hl0 gn0 al0
  refine ⟨_, rfl, pc, rfl, ⟨_, SqL.of (kp0 _ _ ncg ec8)⟩, for_list (K := K) (a := pc) (xs := CS.map V.str) (fun i σ H' => ∃ (pf : Addr) (fs : List Fact) (rs : List V) (y9 : Option V), σ = [some (.ref g), some (.int m), some (.ref pm), some (.ref pc), some (.ref pi), some (.ref pf), y6, y7, none, y9, none, none] ∧ pf ≠ g ∧ H' pf = some (.lst rs) ∧ rs.length ≤ 400 + 100 * i ∧ Tups H' rs (fs.map Fact.v) ∧ fs.Nodup ∧ (∀ x ∈ fs, Fact.of ⟨MS, CS.take i, ns, []⟩ x) ∧ (∀ c, OneToOne ns (linksOf c fs)) ∧ Keep g H8 H' ∧ Gen H' g (n + 2000 + 2200 * i))
    ⟨pf', fs0, rs0, none, rfl, npf0, ef0, by omega, tp0, nod0, (fun x h => by
      obtain ⟨mk, it, rfl, h1, h2⟩ := al0 x h
      exact ⟨List.mem_of_mem_take h1, h2⟩), (fun c => by
      rw [links_marks fun x h => let ⟨mk, it, e, _⟩ := al0 x h; ⟨mk, it, e⟩]
      exact oneToOne_nil ns), kp0, gn0.mono (by omega)⟩ (fun i σ H' _ hP => ?_) (fun i x σ H' hx hP => ?_) fun σ H' hP => ?_⟩
  · obtain ⟨pf, fs, rs, y9, rfl, npf, ef, hl, tp, nf, al, oo, kp, gn⟩ := hP
    exact SqL.of (kp _ _ ncg ec8)
  · obtain ⟨pf, fs, rs, y9, rfl, npf, ef, hl, tp, nodf, al, oo, kp, gn⟩ := hP
    obtain ⟨cc, hcc, rfl⟩ := at_map hx
    have hi : i < CS.length := (List.getElem?_eq_some_iff.mp hcc).1
    refine ⟨_, rfl, _, rfl, _, rfl, g, pi, ns, _, rfl, SqL.of (kp _ _ nig ei8), nig, nodn, gn, by omega, by omega, fun pp rsP ps H9 o9 k9 nP eP tpP gn9 => ?_⟩
    have npp : pp ≠ g := gn.ne nP
    have lenP : rsP.length = ps.length := by rw [tpP.length, List.length_map]
    have lenPs := o9.len
    have nodps := o9.nodup
    refine ⟨_, rfl, ⟨_, SqL.of eP⟩, fun D nD => lc_list (K := K) (a := pp) (xs := rsP) (fun k H' => ∃ (rs' : List V), H' D = some (.lst rs') ∧ rs'.length ≤ k ∧ Tups H' rs' (((ps.take k).map fun p => Fact.link cc p.1 p.2).map Fact.v) ∧ Keep g H9 H' ∧ Gen H' g (n + 2000 + 2200 * i + 20 * ns.length + 100))
      ⟨[], upd_same, Nat.le_refl _, .nil, Keep.of_same (same_new nD), gn9.same (same_new nD)⟩ (fun k H' _ hP => ?_) (fun k x H' hx hP => ?_) fun H' hP => ?_⟩
    · obtain ⟨rs', eD, hl', tp', kp', gn'⟩ := hP
      exact SqL.of (kp' _ _ npp eP)
    · obtain ⟨rs', eD, hl', tp', kp', gn'⟩ := hP
      obtain ⟨a, t, rfl, ha, ht⟩ := tpP.get hx
      obtain ⟨p, hp, rfl⟩ := at_map ht
      have nDg : D ≠ g := gn9.ne nD
      have hk : k < ps.length := (List.getElem?_eq_some_iff.mp hp).1
      have ha' : H' a = some (.tup (pairV p)) := tk_keep kp' gn9 _ _ ha
      refine ⟨a, pairV p, rfl, .inl (.inl ha'), rfl, ?_⟩
      refine ⟨.int p.1, [.int p.2], rfl, .int p.2, [], rfl, rfl, rfl, _, rfl, _, rfl, _, rfl, by show 4 ≤ sizeLine; decide, fun T nT => ?_⟩
      have mT := same_new nT (o := .tup [.str "link", .str cc, .int p.1, .int p.2])
      have eT : upd H' T (.tup [.str "link", .str cc, .int p.1, .int p.2]) T = some (.tup [.str "link", .str cc, .int p.1, .int p.2]) := upd_same
      generalize upd H' T (.tup [.str "link", .str cc, .int p.1, .int p.2]) = H11 at mT eT ⊢
      have eD11 := mT _ _ eD
      refine ⟨rs', eD11, small1000 (by omega), rs' ++ [.ref T], upd_same, ?_, ?_, ?_, ?_⟩
      · rw [List.length_append, List.length_singleton]
        omega
      · rw [take_next hp, List.map_append, List.map_append]
        exact (Tups.put eT (tp'.keep (tk_same mT))).keep (tk_lst eD11)
      · exact (kp'.trans (Keep.of_same mT)).upd_new nD
      · exact (gn'.same mT).upd nDg.symm
    · obtain ⟨rs', eD, hl', tp', kp', gn'⟩ := hP
      rw [lenP] at hl' tp'
      rw [List.take_length] at tp'
      have npD : pf ≠ D := ne_of_none (k9 _ _ npf ef) nD
      have ef9 := kp' _ _ npf (k9 _ _ npf ef)
      refine ⟨pf, D, _, _, rfl, rfl, ef9, eD, Nat.le_trans (show rs.length + rs'.length ≤ 1000 by omega) (by decide), fun p7 n7 => ?_⟩
      have m7 := same_new n7 (o := .lst (rs ++ rs'))
      have tke := take_next hcc
      have ncc : cc ∉ CS.take i := fun h => by
        have z : (CS.take i ++ [cc]).Nodup := by
          rw [← tke]
          exact (List.take_sublist _ _).nodup nodC
        exact (List.nodup_append.mp z).2.2 cc h cc (List.mem_singleton.mpr rfl) rfl
      have out : linksOf cc fs = [] := links_out al ncc
      refine ⟨p7, fs ++ ps.map (fun p => Fact.link cc p.1 p.2), rs ++ rs', _, rfl, gn'.ne n7, upd_same, ?_, ?_, ?_, fun x hx => ?_, fun c => ?_, ((kp.trans k9).trans kp').trans (Keep.of_same m7), (gn'.same m7).mono (by omega)⟩
      · rw [List.length_append]
        omega
      · rw [List.map_append]
        exact (Tups.append ((tp.keep (tk_keep k9 gn)).keep (tk_keep kp' gn9)) tp').keep (tk_same m7)
      · refine List.nodup_append.mpr ⟨nodf, List.pairwise_map.mpr (nodps.imp fun {x y} h e => h (by injection e with _ e1 e2; exact Prod.ext e1 e2)), fun x hx y hy e => ?_⟩
        obtain ⟨p2, _, e2⟩ := List.mem_map.mp hy
        rw [← e] at e2
        have z := al x hx
        rw [← e2] at z
        exact ncc z.1
      · rcases List.mem_append.mp hx with z | z
        · have w0 := al x z
          cases x with
          | mark a b => exact w0
          | link a b c => exact ⟨by rw [tke]; exact List.mem_append_left _ w0.1, w0.2⟩
        · obtain ⟨p2, h2, e2⟩ := List.mem_map.mp z
          rw [← e2]
          exact ⟨by rw [tke]; exact List.mem_append_right _ (List.mem_singleton.mpr rfl), o9.2.2 p2 h2⟩
      · rw [links_append]
        by_cases ec : cc = c
        · rw [← ec, out, List.nil_append, links_self]
          exact o9
        · rw [links_other ec, List.append_nil]
          exact oo c
  · obtain ⟨pf, fs, rs, y9, rfl, npf, ef, hl, tp, nodf, al, oo, kp, gn⟩ := hP
    rw [List.length_map] at hl al gn
    rw [List.take_length] at al
    have lenR : rs.length = fs.length := by rw [tp.length, List.length_map]
    have z1 : (rs.zip fs).map (·.1) = rs := List.map_fst_zip (Nat.le_of_eq lenR)
    have z2 : (rs.zip fs).map (·.2) = fs := List.map_snd_zip (Nat.le_of_eq lenR.symm)
    refine ⟨_, rfl, _, rfl, _, rfl, _, rfl, pf, rs.zip fs, rfl, ?_, fun z hz => ?_, ?_, Or.inl fun d hd => ?_, fun z hz => fact_depth _, fun p hp => ?_⟩
    · rw [z1]
      exact SqL.of ef
    · obtain ⟨a, e, h⟩ := tp.zip z hz
      rw [e]
      exact fact_dp h
    · intro d hd d' hd'
      obtain ⟨x, _, rfl⟩ := List.mem_map.mp hd
      obtain ⟨y, _, rfl⟩ := List.mem_map.mp hd'
      exact fact_alike _ _
    · obtain ⟨x, _, rfl⟩ := List.mem_map.mp hd
      exact fact_tuple _
    · refine ⟨by show 5 ≤ sizeLine; decide, fun T nT => ?_⟩
      have pmZ := List.mergeSort_perm (rs.zip fs) (PySem.W.dataLe false fun z => z.2.d)
      have ri := sorted_rise (zs := rs.zip fs) (by rw [z2]; exact nodf)
      have tz : ∀ z ∈ (rs.zip fs).mergeSort (PySem.W.dataLe false fun z => z.2.d), ∃ a, z.1 = .ref a ∧ H' a = some (.tup z.2.v) := fun z hz => tp.zip z (pmZ.subset hz)
      generalize hzs : (rs.zip fs).mergeSort (PySem.W.dataLe false fun z => z.2.d) = zs at pmZ ri tz nT ⊢
      have pf2 : (zs.map (·.2)).Perm fs := by
        have := pmZ.map (·.2)
        rwa [z2] at this
      have mp := same_new hp (o := .lst (zs.map (·.1)))
      have ep : upd H' p (.lst (zs.map (·.1))) p = some (.lst (zs.map (·.1))) := upd_same
      generalize upd H' p (.lst (zs.map (·.1))) = H11 at mp ep nT ⊢
      have mT := same_new nT (o := .tup [.str "store", .ref pm, .ref pc, .ref pi, .ref p])
      have eT : upd H11 T (.tup [.str "store", .ref pm, .ref pc, .ref pi, .ref p]) T = some (.tup [.str "store", .ref pm, .ref pc, .ref pi, .ref p]) := upd_same
      generalize upd H11 T (.tup [.str "store", .ref pm, .ref pc, .ref pi, .ref p]) = H12 at mT eT ⊢
      have kH := kp
      refine q (.ref T) ⟨MS, CS, ns, zs.map (·.2)⟩ _ ⟨hMS, hCS, rise, few, by rw [pf2.length_eq, ← lenR]; omega, ri, fun x hx => ?_, fun c => (oo c).perm (links_perm pf2)⟩ (((k8.trans kp).trans (Keep.of_same mp)).trans (Keep.of_same mT)) ⟨T, pm, pc, pi, p, zs.map (·.1), rfl, eT, mT _ _ (mp _ _ (kp _ _ nmg em8)), mT _ _ (mp _ _ (kp _ _ ncg ec8)), mT _ _ (mp _ _ (kp _ _ nig ei8)), mT _ _ ep, ((tups_of zs tz).keep (tk_same mp)).keep (tk_same mT)⟩ (((gn.same mp).same mT).mono (by omega))
      have w0 := al x (pf2.subset hx)
      cases x with
      | mark a b => exact w0
      | link a b c => exact w0
end
end DQ

set_option Elab.async false
set_option linter.all false
set_option maxRecDepth 100000
set_option maxHeartbeats 4000000
/-! ### len(set(texts)), a list of any length -/
namespace DQ
open PySem PySem.Spec PyProof.Rows L2
/-- how many differ among the first i -/
def differ (xs : List Str) : Nat → Nat
  | 0 => 0
  | i + 1 => if (xs.take i).any (· == xs.getD i Str.empty) = true then differ xs i else differ xs i + 1
theorem differ_le (xs : List Str) : ∀ i, differ xs i ≤ i
  | 0 => Nat.le_refl _
  | i + 1 => by
    have := differ_le xs i
    unfold differ
    split <;> omega
theorem differ_nodup {xs : List Str} (nd : xs.Nodup) : ∀ i, i ≤ xs.length → differ xs i = i
  | 0, _ => rfl
  | i + 1, h => by
    have e : xs[i]? = some (xs.getD i Str.empty) := by
      rw [List.getD_eq_getElem?_getD, List.getElem?_eq_getElem (by omega)]
      rfl
    have no : ¬ (xs.take i).any (· == xs.getD i Str.empty) = true := fun q => by
      obtain ⟨y, hy, ey⟩ := List.any_eq_true.mp q
      have z : (xs.take i ++ [xs.getD i Str.empty]).Nodup := by
        rw [← take_next e]
        exact (List.take_sublist _ _).nodup nd
      exact (List.nodup_append.mp z).2.2 y hy _ (List.mem_singleton.mpr rfl) (eq_of_beq ey)
    unfold differ
    rw [if_neg no, differ_nodup nd i (by omega)]
theorem any_next {xs : List Str} {i : Nat} (h : i < xs.length) (k : Str) : ((xs.take i).any (· == k) || decide (k = xs.getD i Str.empty)) = (xs.take (i + 1)).any (· == k) := by
  have e : xs[i]? = some (xs.getD i Str.empty) := by
    rw [List.getD_eq_getElem?_getD, List.getElem?_eq_getElem h]
    rfl
  rw [take_next e, List.any_append]
  congr 1
  show decide (k = xs.getD i Str.empty) = ((xs.getD i Str.empty == k) || false)
  rw [Bool.or_false]
  by_cases q : k = xs.getD i Str.empty
  · rw [← q]; simp
  · rw [decide_eq_false q]
    exact (beq_eq_false_iff_ne.mpr fun z => q z.symm).symm
section
variable {prog : Program} {w : World} {A : Around} {R : Result → Shared → Prop} {I : Addr} {fp wr : List Addr} {G : Array GenState → Array GenState → Prop} {n : Nat} {P : Nat → Value → Prop} {St : Nat → Shared → Prop}
theorem texts_in (W : WalksS prog w A.in1 I fp wr G n P St) {S : Addr} (out : S ∉ fp) {xs : List Str} (len : xs.length = n) (few : n + 1 < scanBound) (val : ∀ i v, P i v → ∃ t, v = .str (xs.getD i Str.empty) t) :
    ∀ (k i : Nat) (s : Shared), n - i = k → i ≤ n → St i s → s.heap.SetOf (PySem.strKind prog w) S (fun z => (xs.take i).any (· == z)) (differ xs i) →
      (∀ s', Moved (S :: wr) G s s' → s'.heap.SetOf (PySem.strKind prog w) S (fun z => (xs.take n).any (· == z)) (differ xs n) → R (.ok (.ret .none)) s') →
      codeAny (model prog w) A (.builtin "set.update.loop" ⟨[.ref S, .ref I], []⟩) R s := by
  have outw : S ∉ wr := fun h => out (W.sub _ h)
  have more : ∀ b ∈ wr, b ∈ S :: wr := fun b h => List.mem_cons_of_mem _ h
  have kept : ∀ {s s' : Shared} {T : Str → Bool} {c : Nat}, Moved wr G s s' → s.heap.SetOf (PySem.strKind prog w) S T c → s'.heap.SetOf (PySem.strKind prog w) S T c := fun m ⟨o, es, ep, t, ho, r⟩ => ⟨o, es, ep, t, m.heap S _ outw ho, r⟩
  intro k
  induction k with
  | zero =>
    intro i s hk hi st hS done
    obtain rfl : i = n := by omega
    refine codeAny_builtin PyProof.Rows.F.entry_set_update_loop ?_
    rw [Around.under_plainId PyProof.Rows.F.plain_set_update_loop _]
    show wpAny _ A.in1 (pyNext (.ref I) >>= _) _ _ s
    refine wpAny_bind (W.done s _ _ st fun s' m => ?_)
    show wpAny _ A.in1 (ret Value.none) _ _ s'
    exact wpAny_pure (done s' (m.mono more) (kept m hS))
  | succ k ih =>
    intro i s hk hi st hS done
    have lt : i < n := by omega
    refine codeAny_builtin PyProof.Rows.F.entry_set_update_loop ?_
    rw [Around.under_plainId PyProof.Rows.F.plain_set_update_loop _]
    show wpAny _ A.in1 (pyNext (.ref I) >>= _) _ _ s
    refine wpAny_bind (W.item i s _ _ lt st fun v s' hP st' m => ?_)
    obtain ⟨t, rfl⟩ := val i v hP
    have hS1 := kept m hS
    show wpAny _ A.in1 (holding [Value.str (xs.getD i Str.empty) t] (setAdd S (.str (xs.getD i Str.empty) t)) >>= _) _ _ s'
    refine wpAny_bind (wpAny_holding ?_)
    unfold setAdd
    refine wpAny_holding (wpAny_bind ((PySem.strKind prog w).pyHash (k := xs.getD i Str.empty) (strKind_is _ _ _ _) ?_))
    refine wpAny_setAddHashed_of (knd := PySem.strKind prog w) (s := { s' with toks := s'.toks + 1 }) (strKind_is _ _ _ _) rfl hS1 (by have := differ_le xs i; omega) fun h' same hS2 => ?_
    refine wpAny_pure ⟨plainId_quiet PyProof.Rows.F.plain_set_update_loop _, ih (i + 1) _ (by omega) lt (W.frame _ s' _ _ st' (Nat.le_succ _) fun b hb o e => ?_) (SetOf_congr hS2 (fun z => any_next (by omega) z) rfl) fun s'' m2 hS3 => ?_⟩
    · rw [same.2 b fun z : b = S => out (by rw [← z]; exact hb)]
      exact e
    · refine done s'' (Moved.trans W.gtrans ((m.mono more).then_heap (Nat.le_succ _) fun b o hb e => ?_) m2) hS3
      rw [same.2 b fun z : b = S => hb (by rw [z]; exact List.mem_cons_self)]
      exact e
end
section
variable {prog : Program} {w : World} {A : Around} {E : Value → Shared → Prop} {s : Shared}
theorem set_of_texts {l : Addr} {items : Array Value} {xs : List Str} {Q : Value → Shared → Prop} (hh : A.handled = none) (hl : s.heap.IsList l items) (hi : StrsAre items.toList xs) (few : items.size + 1 < scanBound)
    (done : ∀ (h' : Heap) (tk : Nat), h'.SetOf (PySem.strKind prog w) s.heap.objs.size (fun z => (xs.take items.size).any (· == z)) (differ xs items.size) →
      (∀ b o, b < s.heap.objs.size → s.heap.get? b = some o → h'.get? b = some o) → Q (.ref s.heap.objs.size) { s with heap := h', toks := tk }) :
    wpAny (model prog w) A (call (.type "set") [.ref l]) Q E s := by
  obtain ⟨c, tl, hmro⟩ := PySem.F.called_set.mro
  have made := PySem.F.called_set.made
  have sub := PySem.F.called_set.sub
  refine wpAny_call (codeAny_of_tree ?_)
  show wpAny _ _ (callAny (.type "set") _) _ _ _
  refine wpAny_pure ⟨Code.quiet_builtin _ (by decide +kernel), codeAny_builtin PySem.F.entry_type_call ?_⟩
  rw [Around.under_plain (weight_type_call_type "set" [.ref l] []) rfl]
  have h1 := PySem.F.called_set.notType
  have h2 := PySem.F.called_set.canCreate
  have h3 := PySem.F.typeCall_set_1 (.ref l)
  repeat (any_goals (first | assumption | wp_step))
  refine codeAny_mono (code_set_new_1 (.ref l) (E := E) (Q₁ := fun o s1 => ∃ led : Bool, o = .ref s.heap.objs.size ∧ s1 = { s with heap := s.heap.push { cls := .type "set", dict := none, data := .set #[] 0 (.fresh 0 0 led) } }) fun led => ⟨led, rfl, rfl⟩) fun r s1 hr => ?_
  cases r with
  | error e => exact hr
  | ok fl =>
    cases fl with
    | ret o =>
      obtain ⟨led, rfl, rfl⟩ := hr
      have hS : (s.heap.push { cls := .type "set", dict := none, data := .set #[] 0 (.fresh 0 0 led) }).get? s.heap.objs.size = some { cls := .type "set", dict := none, data := .set #[] 0 (.fresh 0 0 led) } := Heap.get?_push_size _ rfl
      have hT : Shared.TypeIs { s with heap := s.heap.push { cls := .type "set", dict := none, data := .set #[] 0 (.fresh 0 0 led) } } (.ref s.heap.objs.size) "set" := ⟨_, hS, rfl⟩
      have i1 := PySem.F.called_set.init.lookup
      have i2 := PySem.F.called_set.init.bind (.ref s.heap.objs.size)
      repeat (any_goals (first | assumption | wp_step))
      refine codeAny_mono (codeAny_call_builtin (R := wants (fun r s2 => r = .none ∧ ∃ h' tk, s2 = { s with heap := h', toks := tk } ∧ h'.SetOf (PySem.strKind prog w) s.heap.objs.size (fun z => (xs.take items.size).any (· == z)) (differ xs items.size) ∧
          (∀ b o, b < s.heap.objs.size → s.heap.get? b = some o → h'.get? b = some o)) E) PySem.F.called_set.init.plain PySem.F.entry_set_init (check_set_init_1 hT ?_)) fun r s2 hr => ?_
      · obtain ⟨⟨cls, dd, dt, sl⟩, ho, hc, nl, hd⟩ := hl
        simp only at hc hd
        subst hc hd
        have ho1 : (s.heap.push { cls := .type "set", dict := none, data := .set #[] 0 (.fresh 0 0 led) }).get? l = some { cls := .type "list", dict := dd, data := .seq items nl, slots := sl } := Heap.get?_push_of_some _ ho
        have l1 : (s.heap.push { cls := .type "set", dict := none, data := .set #[] 0 (.fresh 0 0 led) }).IsList l items := ⟨_, ho1, rfl, nl, rfl⟩
        have n1 := PySem.F.sub_list_set
        have n2 := PySem.F.sub_list_frozenset
        have n3 : (Value.type "list" == Value.type "dict") = false := by decide
        unfold Builtin.«set.__init__» noKeywords Builtin.Frozenset.updateFrom
        generalize hit : pyIter = it
        wp_walk
        subst hit
        refine wpAny_pyIter_list l1 (wpAny_bind (wpAny_runValue ?_))
        have hlt : l < s.heap.objs.size := Heap.lt_size ho
        have sz := Heap.size_push s.heap { cls := .type "set", dict := none, data := .set #[] 0 (.fresh 0 0 led) }
        have n4 : l ≠ (s.heap.push { cls := .type "set", dict := none, data := .set #[] 0 (.fresh 0 0 led) }).objs.size := by
          rw [sz]
          exact Nat.ne_of_lt (Nat.lt_succ_of_lt hlt)
        have n5 : s.heap.objs.size ∉ [(s.heap.push { cls := .type "set", dict := none, data := .set #[] 0 (.fresh 0 0 led) }).objs.size, l] := fun q => by
          rw [sz] at q
          rcases List.mem_cons.mp q with e | q
          · exact absurd e (Nat.ne_of_lt (Nat.lt_succ_self _))
          · exact absurd (List.mem_singleton.mp q) (Nat.ne_of_gt hlt)
        have val : ∀ (i : Nat) (v : Value), items[i]? = some v → ∃ t, v = .str (xs.getD i Str.empty) t := fun i v hv => SS.strs_at hi i v (by rw [Array.getElem?_toList]; exact hv)
        refine texts_in ((Walks.list (by simp [hh]) _ l n4 items).toS) n5 (by rw [← StrsAre.len_eq hi, Array.length_toList]) few val items.size 0 _ (Nat.sub_zero _) (Nat.zero_le _) ⟨⟨_, Heap.get?_push_size _ rfl, rfl, rfl⟩, l1.push _⟩ ?_ ?_
        · exact SetOf_congr ((setObjOf_fresh (knd := PySem.strKind prog w) led).setOf (Heap.get?_push_of_some _ hS) (by unfold scanBound; omega)) (fun _ => rfl) rfl
        · intro s' m hS'
          obtain ⟨h', g', d', tk', os'⟩ := s'
          obtain rfl : g' = s.gens := m.gens
          obtain rfl : d' = s.drawn := m.drawn
          obtain rfl : os' = s.os := m.os
          show wpAny _ _ _ _ _ _
          refine wpAny_pure ?_
          show wpAny _ _ (ret Value.none) _ _ _
          refine wpAny_pure ⟨rfl, h', tk', rfl, hS', fun b o hb e => m.heap b o (fun q => ?_) (Heap.get?_push_of_some _ (Heap.get?_push_of_some _ e))⟩
          rw [sz] at q
          rcases List.mem_cons.mp q with e | q
          · exact absurd e (Nat.ne_of_lt hb)
          · exact absurd (List.mem_singleton.mp q) (Nat.ne_of_lt (Nat.lt_succ_of_lt hb))
      · cases r with
        | error e => exact hr
        | ok fl2 =>
          cases fl2 with
          | ret r =>
            obtain ⟨rfl, h', tk, rfl, hS', k⟩ := hr
            repeat (any_goals (first | assumption | wp_step))
            exact done _ _ hS' k
          | _ => exact hr.elim
    | _ => exact hr.elim
end
section
variable {X : Cx}
/-- len(set(xs)), xs a list of texts -/
def tLenSetT (K : PySem.W.Frag) (ta : TE) : TE := fun σ H Q => ta σ H fun x H1 => ∃ (l : Addr) (xs : List Str), x = .ref l ∧ SqL K H1 l (xs.map V.str) ∧ xs.length ≤ 1000 ∧ Q (.int (differ xs xs.length : Nat)) H1
theorem pe_lenSetT {a : Expr} {ta : TE} {p p2 q pos : Pos} (hc : X.calm = true) (hg : Gl X "len") (hm : X.mg "len" = none) (hg2 : Gl X "set") (hm2 : X.mg "set" = none) (ha : PE X a ta)
    (na : starEach [a] X.env = (false, eval a X.env) :: starEach [] X.env := by rfl) : PE X (.Call (.Name "len" p) [.Call (.Name "set" p2) [a] [] q] [] pos) (tLenSetT X.K ta) := by
  refine ⟨fun pins s σ H Q I h => ?_⟩
  refine Call_ (ld_blt I hg hm boot_len ?_)
  refine callWith_builtin1 (args_cons ?_ rfl) rfl rfl
  refine Call_ (ld_blt I hg2 hm2 boot_set ?_)
  refine callWith_type1 (args_cons (thn (ha.run pins s σ H _ I h) fun v s1 ⟨x, H1, I1, r1, q1⟩ => args_nil ?_) na) na rfl
  obtain ⟨l, xs, rfl, hq, h1, q1⟩ := q1
  cases r1
  obtain ⟨its, r, pl, hz⟩ := I1.list hq
  have hl : its.toArray.size = xs.length := by rw [List.size_toArray, ← r.length, List.length_map]
  refine set_of_texts (I1.ok.hd hc) pl.isList (by simpa using strsAre_of r) (by unfold scanBound; omega) fun h' tk hS hk => args_nil ?_
  rw [hl] at hS
  obtain ⟨o, es, ep, t, ho, hex, hd, _, _, _, hf, hn⟩ := hS
  have I2 : Inv X pins σ H1 { s1 with heap := h', toks := tk } := I1.kept fun b o e => hk b o (Heap.lt_size e) e
  have dl := differ_le xs xs.length
  exact call_len_set ho hex hd hf (by rw [hn] <;> omega) ⟨.int (differ xs xs.length : Nat), H1, I2.tok _, ⟨_, by rw [hn]⟩, q1⟩
end
end DQ

set_option Elab.async false
set_option linter.all false
set_option maxRecDepth 100000
set_option maxHeartbeats 4000000
namespace DQ
open PySem PySem.Spec PyProof.Rows L2
/-! ### a comprehension whose items are flags, without an if -/
theorem same_upd {H H' : Hp} {D : Addr} {o : HO} (s : Same H H') (nD : H D = none) : Same H (upd H' D o) := fun b u e => by
  rw [upd_ne (ne_of_none e nD)]
  exact s b u e
theorem yes_if {A B : Prop} (h : A) : if (true : Bool) = true then A else B := (if_pos rfl : (if (true : Bool) = true then A else B) = A).mpr h
theorem lc_bools {J : It} {n : Nat} {G : Hp → Prop} {Y : Nat → Hp → V → Hp → Prop} (w : Walk J n G Y) {g : TG} {te : TE} {vs : List Nat} {σ : L2.St} {H1 : Hp} {D : Addr} {Qd : Hp → Prop} (bs : List Bool) (hn : bs.length = n) (few : n < sizeLine) (nD : H1 D = none)
    (hG : ∀ H, Same H1 H → G H) (hY : ∀ i H x H', Y i H x H' → Same H H')
    (hs : ∀ i x H H' b, i < n → bs[i]? = some b → Same H1 H → Y i H x H' → ∀ R : V → Hp → Prop, (∀ H4, Same H' H4 → R (.bl b) H4) → g x (wipe σ vs) H' fun σ2 H2 => wipe σ2 vs = wipe σ vs ∧ te σ2 H2 R)
    (hd : ∀ H, Same H1 H → H D = some (.lst (bs.map V.bl)) → Qd H) (gm : ∀ x σ H (Q Q' : L2.St → Hp → Prop), (∀ σ H, Q σ H → Q' σ H) → g x σ H Q → g x σ H Q') :
    ∃ W : Nat → Nat → Hp → Prop, (∃ m, W 0 m (upd H1 D (.lst []))) ∧ ∀ i m H, W i m H →
      (J.stop i H ∧ Qd H) ∨ (J.go i H ∧ ∃ Nx : Hp → Prop, (∀ H', Nx H' → ∃ m', m' < m ∧ W (i + 1) m' H') ∧ ∀ x H', J.yld i H x H' → g x (wipe σ vs) H' fun σ2 H2 => wipe σ2 vs = wipe σ vs ∧ tYes σ2 H2 fun b H3 =>
        if b = true then te σ2 H3 fun y H4 => ∃ acc, H4 D = some (.lst acc) ∧ acc.length < sizeLine ∧ Nx (upd H4 D (.lst (acc ++ [y]))) else Nx H3) := by
  refine lc_it w (fun i H => H D = some (.lst ((bs.take i).map V.bl)) ∧ Same H1 H) ⟨upd_same, same_new nD⟩ (fun i H _ p => hG H p.2) (fun i x H H' hi p y => ?_) fun H p => hd H p.2 (by rw [← hn, List.take_length] at p; exact p.1)
  obtain ⟨e, s⟩ := p
  have hb : bs[i]? = some bs[i] := List.getElem?_eq_getElem (by omega)
  refine (fun z => gm x _ _ _ _ (fun σ2 H2 z => ⟨z.1, z.2⟩) z) (hs i x H H' _ hi hb s y (fun y H4 => ∃ acc, H4 D = some (.lst acc) ∧ acc.length < sizeLine ∧ upd H4 D (.lst (acc ++ [y])) D = some (.lst ((bs.take (i + 1)).map V.bl)) ∧ Same H1 (upd H4 D (.lst (acc ++ [y])))) fun H4 s4 => ?_)
  have e4 := s4 _ _ (hY _ _ _ _ y _ _ e)
  refine ⟨_, e4, ?_, ?_, ?_⟩
  · rw [List.length_map, List.length_take]
    omega
  · rw [take_next hb, List.map_append]
    exact upd_same
  · exact same_upd ((s.trans (hY _ _ _ _ y)).trans s4) nD
end DQ

set_option Elab.async false
set_option linter.all false
set_option maxRecDepth 100000
set_option maxHeartbeats 4000000
namespace DQ
open PySem PySem.Spec PyProof.Rows L2
abbrev sIsWord : Stmt := topS 10
abbrev sSpelled : Stmt := topS 11
def letters : Str := "abcdefghijklmnopqrstuvwxyz"
def wordSigns : Str := "abcdefghijklmnopqrstuvwxyz0123456789"
def reserved : List Str := ["all", "and", "false", "in", "link", "mark", "not", "or", "same", "some", "true"]
/-- a text of 1 to 30 signs that are small letters or digits, the first a letter -/
def spelled (x : Str) : Bool := decide (1 ≤ x.length) && decide (x.length ≤ 30) && (x.cps.toList.head?.any fun c => decide (c ∈ letters.cps.toList)) && x.cps.toList.all fun c => decide (c ∈ wordSigns.cps.toList)
def wordB (x : Str) : Bool := spelled x && !inV (.str x) (reserved.map V.str)
theorem scIsWord : FnScope ["value"] ["value"] (defScope sIsWord) := ⟨rfl, rfl, rfl, by decide +kernel, rfl, by decide +kernel, by decide +kernel⟩
theorem scSpelled : FnScope ["text", "sign"] ["text"] (defScope sSpelled) := ⟨rfl, rfl, rfl, by decide +kernel, rfl, by decide +kernel, by decide +kernel⟩
section
variable {P : Program} {w : World} {K : PySem.W.Frag} {mg : Str → Option Value} {base : Heap}
def spSpelled : Sp := fun vs H Q _ => ∃ x : Str, vs = [.str x] ∧ x.length ≤ 1000 ∧ ∀ H', Same H H' → Q (.bl (spelled x)) H'
theorem ok_spelled {f : Addr} {fd : FuncData} {t1 t2 t3 : Tok} (F : Fun K "is_spelled" "is_spelled" sSpelled f fd) (mL : mg "LETTERS" = some (.str letters t1)) (mW : mg "WORD_SIGNS" = some (.str wordSigns t2)) (mM : mg "MOST_SIGNS" = some (.int 30 t3))
    (mLen : mg "len" = none) (mAll : mg "all" = none) : FnOk P w K mg base CX0 1 f fd ["text"] spSpelled := by
  refine F.ok scSpelled (fun vs H Q E h => ?_) (fun cdv A outer s H vs Q E hr h => ?_)
  · obtain ⟨x, rfl, _⟩ := h
    rfl
  obtain ⟨x, rfl, few, q⟩ := h
  have nd := scSpelled.nd
  refine ⟨_, (pss_cons (ps_if (PW.pt (pw_or (pt_not (pt_chain op_le op_le pe_int (pe_callB call_len_str (by rfl) mLen PySem.boot_len (pa_cons (pv 0) pa_nil)) (pe_glob (v := .int 30) (by rfl) mM ⟨_, rfl⟩))) (pw_or1 (pt_cmpR op_notIn_sign (pe_ix (r := rIxS) ix_str (pv 0) pe_int (fun _ _ => rfl)) (pe_glob (v := .str letters) (by rfl) mL ⟨_, rfl⟩) (by rfl))))) (pss_one (ps_ret pe_bl)) pss_nil)
    (pss_one (ps_ret (pe_callB (cr_all rfl) (by rfl) mAll (by decide +kernel) (pa_cons (pe_lc (own := [("sign", 1)]) (g := gName 1) (tt := tYes) rfl nd (pi_str (pv 0)) (blkOk_by (own := [("sign", 1)]) (N := ["text", "sign"]) (sc := defScope sSpelled) (by decide +kernel)) (fun _ _ _ _ _ => pg_name (i := 1) nd rfl (Or.inl rfl)) (fun _ _ _ _ _ => pts_nil) (fun _ _ _ _ _ => pe_cmpR op_in_sign (pv 1) (pe_glob (v := .str wordSigns) (by rfl) mW ⟨_, rfl⟩) (by rfl))) pa_nil))))), ?_⟩
  have end0 : spelled x = false → Q (.bl false) H := fun e => by
    have := q H (fun _ _ h => h)
    rwa [e] at this
  refine ⟨_, rfl, x, rfl, Nat.le_trans few (by decide), _, _, rfl, rfl, _, rfl, ite2 (fun c1 => ⟨_, _, rfl, rfl, _, rfl, ite2 (fun c2 => ?_) fun c2 => ?_⟩) fun c1 => ⟨_, rfl, ?_⟩⟩
  · -- too long
    refine end0 ?_
    have z : ¬ x.length ≤ 30 := fun z => by
      rw [decide_eq_true (show (x.length : Int) ≤ 30 by omega)] at c2
      exact absurd c2 (by decide)
    unfold spelled
    rw [decide_eq_false z, Bool.and_false, Bool.false_and, Bool.false_and]
  · have l1 : 1 ≤ x.length := by
      have := of_decide_eq_true c1
      omega
    have l2 : x.length ≤ 30 := by
      by_cases z : (x.length : Int) ≤ 30
      · omega
      · rw [decide_eq_false z] at c2
        exact absurd rfl c2
    obtain ⟨c, r, hx⟩ : ∃ c r, x.cps.toList = c :: r := by
      cases e : x.cps.toList with
      | nil =>
        have : x.length = 0 := by
          show x.cps.size = 0
          rw [← Array.length_toList, e]
          rfl
        omega
      | cons c r => exact ⟨c, r, rfl⟩
    have sp : spelled x = (decide (c ∈ letters.cps.toList) && x.cps.toList.all fun c => decide (c ∈ wordSigns.cps.toList)) := by
      unfold spelled
      rw [decide_eq_true l1, decide_eq_true l2, hx]
      rfl
    refine ⟨_, rfl, x, 0, c, rfl, rfl, Nat.le_trans few (by decide), by rw [hx]; exact atI_nat (j := 0) rfl, c, letters, rfl, rfl, _, rfl, ite2 (fun c3 => ?_) fun c3 => ?_⟩
    · refine end0 ?_
      rw [sp]
      cases h : decide (c ∈ letters.cps.toList) with
      | true =>
        rw [h] at c3
        exact absurd c3 (by decide)
      | false => rfl
    · have h : decide (c ∈ letters.cps.toList) = true := by
        cases h : decide (c ∈ letters.cps.toList) with
        | true => rfl
        | false =>
          rw [h] at c3
          exact absurd rfl c3
      rw [h, Bool.true_and] at sp
      refine ⟨_, rfl, x, rfl, fun D nD => lc_bools (walk_str (z := x)) (x.cps.toList.map fun c => decide (c ∈ wordSigns.cps.toList)) (by rw [List.length_map, Array.length_toList]) (Nat.lt_of_le_of_lt (show x.cps.size ≤ 1000 from few) (by decide)) nD (fun _ _ => trivial) (fun _ _ _ _ y => by rw [y.1]; exact fun _ _ h => h)
        (fun i v H2 H3 b hi hb s1 y R hR => ?_) (fun H2 s2 e2 => ?_) (fun _ _ _ _ _ m h => m _ _ h)⟩
      · obtain ⟨rfl, d, hd, rfl⟩ := y
        rw [List.getElem?_map, Array.getElem?_toList, hd] at hb
        cases hb
        exact ⟨rfl, _, rfl, d, wordSigns, rfl, rfl, hR _ fun _ _ h => h⟩
      · refine ⟨D, _, rfl, SqL.of e2, ?_⟩
        have e : (List.map (fun c => decide (c ∈ wordSigns.cps.toList)) x.cps.toList).any id = true ∨ True := .inr trivial
        rw [List.all_map]
        have := q H2 s2
        rw [sp] at this
        exact this
  · -- empty
    refine end0 ?_
    have z : ¬ 1 ≤ x.length := fun z => c1 (decide_eq_true (by omega))
    unfold spelled
    rw [decide_eq_false z]
    rfl
def spIsWord (K : PySem.W.Frag) : Sp := fun vs H Q _ => ∃ v, vs = [v] ∧ ((∃ x : Str, v = .str x ∧ x.length ≤ 1000 ∧ ∀ H', Same H H' → Q (.bl (wordB x)) H') ∨ ((∃ t, TyX K H v t ∧ PySem.W.kitOne K t (.type "str") = some false) ∧ Q (.bl false) H))
theorem ok_isWord {f fs r : Addr} {fd fds : FuncData} (F : Fun K "is_word" "is_word" sIsWord f fd) (GS : FnOk P w K mg base CX0 1 fs fds ["text"] spSpelled) (bS : Binds K fds ["text"] []) (kS : PySem.W.keepIn K (.ref fs) = true) (mS : mg "is_spelled" = some (.ref fs))
    (mI : mg "isinstance" = none) (mStr : mg "str" = none) (mR : mg "RESERVED" = some (.ref r)) (eR : ∀ H, SqT K H r (reserved.map V.str)) : FnOk P w K mg base CX0 2 f fd ["value"] (spIsWord K) := by
  refine F.ok scIsWord (fun vs H Q E h => ?_) (fun cdv A outer s H vs Q E hr h => ?_)
  · obtain ⟨x, rfl, _⟩ := h
    rfl
  obtain ⟨v, rfl, h⟩ := h
  refine ⟨_, pss_one (ps_ret (pe_and (pe_callB call_isi (by rfl) mI (by decide +kernel) (pa_cons (pv 0) (pa_cons (pe_bltn (v := .ty "str") (by rfl) mStr (by decide +kernel) rfl) pa_nil))) (pe_and (pe_call GS (hr.mono (by decide)) rfl mS kS bS .nil pass0 (pa_cons (pv 0) pa_nil)) (pe_one (pe_cmpR op_notIn_seq (pv 0) (pe_glob (v := .ref r) (by rfl) mR rfl) (by rfl)))))), ?_⟩
  rcases h with ⟨x, rfl, few, q⟩ | ⟨⟨t, ty, kt⟩, q⟩
  · refine ⟨_, rfl, .str x, .ty "str", _, _, true, rfl, .ty "str", .base (.str x), kit_ty (by decide +kernel), true, rfl, ?_⟩
    refine ⟨_, rfl, x, rfl, few, fun H' sm => ⟨_, rfl, ite2 (fun c => ?_) fun c => ?_⟩⟩
    · refine ⟨_, rfl, r, _, rfl, .inr (eR _), rfl, ?_, ?_⟩
      · decide
      · have := q H' sm
        unfold wordB at this
        rw [c, Bool.true_and] at this
        exact this
    · have := q H' sm
      unfold wordB at this
      rw [Bool.eq_false_iff.mpr c, Bool.false_and] at this
      exact this
  · exact ⟨_, rfl, v, .ty "str", _, _, false, rfl, .ty "str", ty, kt, false, rfl, q⟩
end
end DQ

set_option Elab.async false
set_option linter.all false
set_option maxRecDepth 100000
set_option maxHeartbeats 4000000
namespace DQ
open PySem PySem.Spec PyProof.Rows L2
/-! ### data on the heap -/
theorem Same.seqT {K : PySem.W.Frag} {H H' : Hp} {a : Addr} {xs : List V} (e : Same H H') (h : SqT K H a xs) : SqT K H' a xs := by
  rcases h with (h | ⟨o, h⟩) | h
  · exact .inl (.inl (e _ _ h))
  · exact .inl (.inr ⟨o, e _ _ h⟩)
  · exact .inr h
mutual
theorem dp_same {K : PySem.W.Frag} {H H' : Hp} (e : Same H H') : ∀ (d : PyData) (v : V), Dp K H v d → Dp K H' v d
  | .none, _, h => by cases h; exact .non
  | .bool b, _, h => by cases h; exact .bl b
  | .int i, _, h => by cases h; exact .int i
  | .str x, _, h => by cases h; exact .str x
  | .list ds, _, h => by
    cases h with
    | lst h a => exact .lst (L2.Same.seq e h) (dpAll_same e ds _ a)
  | .tuple ds, _, h => by
    cases h with
    | tup h a => exact .tup (DQ.Same.seqT e h) (dpAll_same e ds _ a)
  | .dict _, _, h => by cases h
theorem dpAll_same {K : PySem.W.Frag} {H H' : Hp} (e : Same H H') : ∀ (ds : List PyData) (vs : List V), DpAll K H vs ds → DpAll K H' vs ds
  | [], _, h => by cases h; exact .nil
  | d :: ds, _, h => by
    cases h with
    | cons a b => exact .cons (dp_same e d _ a) (dpAll_same e ds _ b)
end
theorem dpAll_len {K : PySem.W.Frag} {H : Hp} : ∀ {vs : List V} {ds : List PyData}, DpAll K H vs ds → vs.length = ds.length
  | _, _, .nil => rfl
  | _, _, .cons _ t => congrArg Nat.succ (dpAll_len t)
theorem dpAll_at {K : PySem.W.Frag} {H : Hp} : ∀ {vs : List V} {ds : List PyData} {i : Nat} {v : V}, DpAll K H vs ds → vs[i]? = some v → ∃ d, ds[i]? = some d ∧ Dp K H v d
  | _, _, _, _, .nil, h => by simp at h
  | _, _, 0, _, .cons a _, h => by
    cases h
    exact ⟨_, rfl, a⟩
  | _, _, i + 1, _, .cons _ t, h => dpAll_at (i := i) t (by simpa using h)
theorem dpAll_get {K : PySem.W.Frag} {H : Hp} {vs : List V} {ds : List PyData} {i : Nat} {v : V} {d : PyData} (a : DpAll K H vs ds) (h : vs[i]? = some v) (hd : ds[i]? = some d) : Dp K H v d := by
  obtain ⟨e, he, q⟩ := dpAll_at a h
  rw [hd] at he
  cases he
  exact q
/-- the name of its type -/
def tyN : PyData → String
  | .none => "NoneType"
  | .bool _ => "bool"
  | .int _ => "int"
  | .str _ => "str"
  | .list _ => "list"
  | .tuple _ => "tuple"
  | .dict _ => "dict"
theorem dp_ty {K : PySem.W.Frag} {H : Hp} {v : V} {d : PyData} (h : Dp K H v d) : TyX K H v (.type (tyN d)) := by
  cases h with
  | non => exact .base .non
  | bl b => exact .base (.bl b)
  | int i => exact .base (.int i)
  | str x => exact .base (.str x)
  | lst h _ =>
    rcases h with (h | ⟨o, h⟩) | ⟨o, _, _, h, c, _⟩
    · exact .base (.lst h)
    · exact .base (.frz h)
    · exact .kList h c
  | tup h _ =>
    rcases h with (h | ⟨o, h⟩) | ⟨o, _, _, h, c, _⟩
    · exact .base (.tup h)
    · exact .fTuple h
    · exact .kTuple h c
/-- isinstance(d, T) -/
def isTN (T n : String) : Bool := n == T || (n == "bool" && T == "int")
def isT (T : String) (d : PyData) : Bool := isTN T (tyN d)
def tyNames : List String := ["NoneType", "bool", "int", "str", "list", "tuple", "dict"]
theorem kit_names : ∀ T ∈ ["int", "bool", "str", "list", "tuple"], ∀ n ∈ tyNames, kitB n T = some (isTN T n) := by decide +kernel
theorem tyN_mem : ∀ d : PyData, tyN d ∈ tyNames
  | .none => by unfold tyN tyNames; simp
  | .bool _ => by unfold tyN tyNames; simp
  | .int _ => by unfold tyN tyNames; simp
  | .str _ => by unfold tyN tyNames; simp
  | .list _ => by unfold tyN tyNames; simp
  | .tuple _ => by unfold tyN tyNames; simp
  | .dict _ => by unfold tyN tyNames; simp
theorem kit_data {K : PySem.W.Frag} {T : String} (hT : T ∈ ["int", "bool", "str", "list", "tuple"]) (d : PyData) : PySem.W.kitOne K (.type (tyN d)) (.type T) = some (isT T d) :=
  kit_ty (kit_names T hT _ (tyN_mem d))
/-- x < y of alike data -/
def rLtD (K : PySem.W.Frag) : R2 := fun x y H Q => ∃ d e, Dp K H x d ∧ Dp K H y e ∧ PySem.W.alike d e = true ∧ d ≠ .none ∧ d.depth ≤ 8 ∧ Q (.bl (PySem.W.dataLt d e)) H
theorem op_ltD {X : Cx} (hu : X.A.units + 64 < cLine) : OpR X (compareOp .Lt) (rLtD X.K) := by
  intro pins s σ H x y v u Q I rx ry h
  obtain ⟨d, e, hd, he, al, nn, dep, q⟩ := h
  obtain ⟨as, r1⟩ := Dp.reads I d x v hd rx
  obtain ⟨bs, r2⟩ := Dp.reads I e y u he ry
  exact PySem.W.rcLt_alike d e X.A s v u as bs r1 r2 al nn (by have := Nat.min_le_left d.depth e.depth; omega) X.prog X.w _ _ ⟨.bl _, H, I, rfl, q⟩
end DQ

set_option Elab.async false
set_option linter.all false
set_option maxRecDepth 100000
set_option maxHeartbeats 4000000
namespace DQ
open PySem PySem.Spec PyProof.Rows L2
abbrev sWhole : Stmt := topS 17
abbrev sBetween : Stmt := topS 18
abbrev sNumber : Stmt := topS 19
abbrev sWords : Stmt := topS 20
abbrev sMarks : Stmt := topS 21
abbrev sColumns : Stmt := topS 22
abbrev sNumbers : Stmt := topS 23
abbrev sAscending : Stmt := topS 24
theorem scWhole : FnScope ["value"] ["value"] (defScope sWhole) := ⟨rfl, rfl, rfl, by decide +kernel, rfl, by decide +kernel, by decide +kernel⟩
theorem scBetween : FnScope ["value", "least", "most"] ["value", "least", "most"] (defScope sBetween) := ⟨rfl, rfl, rfl, by decide +kernel, rfl, by decide +kernel, by decide +kernel⟩
theorem scNumber : FnScope ["value"] ["value"] (defScope sNumber) := ⟨rfl, rfl, rfl, by decide +kernel, rfl, by decide +kernel, by decide +kernel⟩
theorem scWords : FnScope ["value", "most", "word"] ["value", "most"] (defScope sWords) := ⟨rfl, rfl, rfl, by decide +kernel, rfl, by decide +kernel, by decide +kernel⟩
theorem scMarks : FnScope ["value"] ["value"] (defScope sMarks) := ⟨rfl, rfl, rfl, by decide +kernel, rfl, by decide +kernel, by decide +kernel⟩
theorem scColumns : FnScope ["marks", "value", "word"] ["marks", "value"] (defScope sColumns) := ⟨rfl, rfl, rfl, by decide +kernel, rfl, by decide +kernel, by decide +kernel⟩
theorem scNumbers : FnScope ["value", "item"] ["value"] (defScope sNumbers) := ⟨rfl, rfl, rfl, by decide +kernel, rfl, by decide +kernel, by decide +kernel⟩
theorem scAscending : FnScope ["rows", "one", "other"] ["rows"] (defScope sAscending) := ⟨rfl, rfl, rfl, by decide +kernel, rfl, by decide +kernel, by decide +kernel⟩
def numD : PyData → Bool
  | .int i => decide (0 ≤ i) && decide (i ≤ 1000000000)
  | _ => false
def numsD : PyData → Bool
  | .list ds => ds.all numD
  | _ => false
def wordD : PyData → Bool
  | .str x => wordB x
  | _ => false
def textD : PyData → Option Str
  | .str x => some x
  | _ => none
def texts (ds : List PyData) : List Str := ds.filterMap textD
def wordsD (m : Nat) : PyData → Bool
  | .list ds => decide (ds.length ≤ m) && (ds.all wordD && decide (differ (texts ds) ds.length = ds.length))
  | _ => false
/-- no text of more than 1000 signs -/
def Short (d : PyData) : Prop := ∀ x, d = .str x → x.length ≤ 1000
/-- a list is of at most 10000 items, no text among them of more than 1000 signs -/
def Fits (d : PyData) : Prop := ∀ ds, d = .list ds → ds.length ≤ 10000 ∧ ∀ e ∈ ds, Short e
theorem texts_all {K : PySem.W.Frag} {H : Hp} : ∀ {vs : List V} {ds : List PyData}, DpAll K H vs ds → ds.all wordD = true → vs = (texts ds).map V.str ∧ (texts ds).length = ds.length
  | _, _, .nil, _ => ⟨rfl, rfl⟩
  | v :: vs, d :: ds, .cons a t, h => by
    rw [List.all_cons, Bool.and_eq_true] at h
    obtain ⟨h1, h2⟩ := h
    obtain ⟨e, l⟩ := texts_all t h2
    cases a with
    | str x =>
      unfold texts at e l ⊢
      rw [List.filterMap_cons_some (f := textD) (a := .str x) (b := x) rfl, List.map_cons, ← e, List.length_cons, l]
      exact ⟨rfl, rfl⟩
    | _ => cases h1
theorem all_at {f : PyData → Bool} {ds : List PyData} {i : Nat} {b : Bool} (h : (ds.map f)[i]? = some b) : ∃ d, ds[i]? = some d ∧ b = f d := by
  rw [List.getElem?_map] at h
  obtain ⟨x, hx, e⟩ := Option.map_eq_some_iff.mp h
  exact ⟨x, hx, e.symm⟩
section
variable {P : Program} {w : World} {K : PySem.W.Frag} {mg : Str → Option Value} {base : Heap}
/-- an int, no flag -/
def wholeD : PyData → Bool
  | .int _ => true
  | _ => false
/-- an int within bounds -/
def betweenD (a b : Int) : PyData → Bool
  | .int i => decide (a ≤ i) && decide (i ≤ b)
  | _ => false
def spWhole (K : PySem.W.Frag) : Sp := fun vs H Q _ => ∃ (v : V) (d : PyData), vs = [v] ∧ Dp K H v d ∧ Q (.bl (wholeD d)) H
theorem ok_whole {f : Addr} {fd : FuncData} (F : Fun K "is_whole" "is_whole" sWhole f fd) (mI : mg "isinstance" = none) (mInt : mg "int" = none) (mBool : mg "bool" = none) :
    FnOk P w K mg base CX0 1 f fd ["value"] (spWhole K) := by
  refine F.ok scWhole (fun vs H Q E h => ?_) (fun cdv A outer s H vs Q E hr h => ?_)
  · obtain ⟨v, d, rfl, _⟩ := h
    rfl
  obtain ⟨v, d, rfl, hd, q⟩ := h
  refine ⟨_, pss_one (ps_ret (pe_and (pe_callB call_isi (by rfl) mI (by decide +kernel) (pa_cons (pv 0) (pa_cons (pe_bltn (v := .ty "int") (by rfl) mInt (by decide +kernel) rfl) pa_nil)))
    (pe_one (pe_not (pe_callB call_isi (by rfl) mI (by decide +kernel) (pa_cons (pv 0) (pa_cons (pe_bltn (v := .ty "bool") (by rfl) mBool (by decide +kernel) rfl) pa_nil))))))), ?_⟩
  have ty := dp_ty hd
  refine ⟨_, rfl, v, .ty "int", _, _, _, rfl, .ty "int", ty, kit_data (by simp) d, _, rfl, ite2 (fun c1 => ⟨_, rfl, v, .ty "bool", _, _, _, rfl, .ty "bool", ty, kit_data (by simp) d, _, rfl, ?_⟩) fun c1 => ?_⟩
  · cases hd with
    | int i => exact q
    | bl b => exact q
    | _ => exact absurd c1 (by simp only [isT, tyN]; decide)
  · have : wholeD d = false := by
      cases hd with
      | int i => exact absurd rfl c1
      | _ => rfl
    rw [this] at q
    exact q
def spBetween (K : PySem.W.Frag) : Sp := fun vs H Q _ => ∃ (v : V) (d : PyData) (a b : Int), vs = [v, .int a, .int b] ∧ Dp K H v d ∧ Q (.bl (betweenD a b d)) H
theorem ok_between {f fw : Addr} {fd fdw : FuncData} (F : Fun K "is_between" "is_between" sBetween f fd) (GW : FnOk P w K mg base CX0 1 fw fdw ["value"] (spWhole K)) (bW : Binds K fdw ["value"] []) (kW : PySem.W.keepIn K (.ref fw) = true) (mW : mg "is_whole" = some (.ref fw)) :
    FnOk P w K mg base CX0 2 f fd ["value", "least", "most"] (spBetween K) := by
  refine F.ok scBetween (fun vs H Q E h => ?_) (fun cdv A outer s H vs Q E hr h => ?_)
  · obtain ⟨v, d, a, b, rfl, _⟩ := h
    rfl
  obtain ⟨v, d, a, b, rfl, hd, q⟩ := h
  refine ⟨_, pss_one (ps_ret (pe_and (pe_call GW (hr.mono (by decide)) rfl mW kW bW .nil pass0 (pa_cons (pv 0) pa_nil)) (pe_one (pe_chain op_le op_le (pv 1) (pv 0) (pv 2))))), ?_⟩
  refine ⟨_, rfl, v, d, rfl, hd, _, rfl, ite2 (fun c2 => ?_) fun c2 => ?_⟩
  · cases hd with
    | int i =>
      refine ⟨_, rfl, _, rfl, _, _, rfl, rfl, _, rfl, ite2 (fun c3 => ⟨_, rfl, _, _, rfl, rfl, ?_⟩) fun c3 => ?_⟩
      · have : betweenD a b (.int i) = decide (i ≤ b) := by
          show (decide (a ≤ i) && decide (i ≤ b)) = _
          rw [c3, Bool.true_and]
        rw [this] at q
        exact q
      · have : betweenD a b (.int i) = false := by
          show (decide (a ≤ i) && decide (i ≤ b)) = _
          rw [Bool.eq_false_iff.mpr c3, Bool.false_and]
        rw [this] at q
        exact q
    | _ => exact absurd c2 (by simp only [wholeD]; decide)
  · have : betweenD a b d = false := by
      cases hd with
      | int i => exact absurd rfl c2
      | _ => rfl
    rw [this] at q
    exact q
theorem num_between (d : PyData) : betweenD 0 1000000000 d = numD d := by cases d <;> rfl
def spNumber (K : PySem.W.Frag) : Sp := fun vs H Q _ => ∃ (v : V) (d : PyData), vs = [v] ∧ Dp K H v d ∧ Q (.bl (numD d)) H
theorem ok_number {f fb : Addr} {fd fdb : FuncData} {t1 : Tok} (F : Fun K "is_number" "is_number" sNumber f fd) (GB : FnOk P w K mg base CX0 2 fb fdb ["value", "least", "most"] (spBetween K)) (bB : Binds K fdb ["value", "least", "most"] []) (kB : PySem.W.keepIn K (.ref fb) = true) (mB : mg "is_between" = some (.ref fb))
    (mM : mg "MOST_NUMBER" = some (.int 1000000000 t1)) : FnOk P w K mg base CX0 3 f fd ["value"] (spNumber K) := by
  refine F.ok scNumber (fun vs H Q E h => ?_) (fun cdv A outer s H vs Q E hr h => ?_)
  · obtain ⟨v, d, rfl, _⟩ := h
    rfl
  obtain ⟨v, d, rfl, hd, q⟩ := h
  refine ⟨_, pss_one (ps_ret (pe_call GB (hr.mono (by decide)) rfl mB kB bB .nil pass0 (pa_cons (pv 0) (pa_cons pe_int (pa_cons (pe_glob (v := .int 1000000000) (by rfl) mM ⟨_, rfl⟩) pa_nil))))), ?_⟩
  refine ⟨_, rfl, v, d, 0, 1000000000, rfl, hd, ?_⟩
  rw [num_between]
  exact q
def spNumbers (K : PySem.W.Frag) : Sp := fun vs H Q _ => ∃ (v : V) (d : PyData), vs = [v] ∧ Dp K H v d ∧ Fits d ∧ ∀ H', Same H H' → Q (.bl (numsD d)) H'
theorem ok_numbers {f fn : Addr} {fd fdn : FuncData} (F : Fun K "are_numbers" "are_numbers" sNumbers f fd) (GN : FnOk P w K mg base CX0 3 fn fdn ["value"] (spNumber K)) (bN : Binds K fdn ["value"] []) (kN : PySem.W.keepIn K (.ref fn) = true) (mN : mg "is_number" = some (.ref fn))
    (mI : mg "isinstance" = none) (mList : mg "list" = none) (mAll : mg "all" = none) : FnOk P w K mg base CX0 4 f fd ["value"] (spNumbers K) := by
  refine F.ok scNumbers (fun vs H Q E h => ?_) (fun cdv A outer s H vs Q E hr h => ?_)
  · obtain ⟨v, d, rfl, _⟩ := h
    rfl
  obtain ⟨v, d, rfl, hd, fit, q⟩ := h
  have nd := scNumbers.nd
  refine ⟨_, pss_one (ps_ret (pe_and (pe_callB call_isi (by rfl) mI (by decide +kernel) (pa_cons (pv 0) (pa_cons (pe_bltn (v := .ty "list") (by rfl) mList (by decide +kernel) rfl) pa_nil)))
    (pe_one (pe_callB (cr_all rfl) (by rfl) mAll (by decide +kernel) (pa_cons (pe_lc (own := [("item", 1)]) (g := gName 1) (tt := tYes) rfl nd (pi_list (pv 0)) (blkOk_by (own := [("item", 1)]) (N := ["value", "item"]) (sc := defScope sNumbers) (by decide +kernel)) (fun _ _ _ _ _ => pg_name (i := 1) nd rfl (Or.inl rfl)) (fun _ _ _ _ _ => pts_nil)
      (fun _ _ _ _ _ => pe_call GN (hr.mono (by decide)) rfl mN kN bN .nil pass0 (pa_cons (pv 1) pa_nil))) pa_nil))))), ?_⟩
  have ty := dp_ty hd
  refine ⟨_, rfl, v, .ty "list", _, _, _, rfl, .ty "list", ty, kit_data (by simp) d, _, rfl, ite2 (fun c1 => ?_) fun c1 => ?_⟩
  · cases hd with
    | @lst a xs ds hs ha =>
      have len := dpAll_len ha
      obtain ⟨few, _⟩ := fit ds rfl
      refine ⟨_, rfl, a, rfl, ⟨_, hs⟩, fun D nD => lc_bools (walk_list (K := K) (a := a) (xs := xs)) (ds.map numD) (by rw [List.length_map, len]) (Nat.lt_of_le_of_lt (show xs.length ≤ 10000 by rw [len]; exact few) (by decide)) nD (fun _ s1 => L2.Same.seq s1 hs) (fun _ _ _ _ y => by rw [y.1]; exact fun _ _ h => h)
        (fun i v H2 H3 b hi hb s1 y R hR => ?_) (fun H2 s2 e2 => ?_) (fun _ _ _ _ _ m h => m _ _ h)⟩
      · obtain ⟨rfl, hv⟩ := y
        obtain ⟨e, he, rfl⟩ := all_at hb
        exact ⟨rfl, _, rfl, v, e, rfl, dp_same s1 _ _ (dpAll_get ha hv he), hR _ fun _ _ h => h⟩
      · refine ⟨D, _, rfl, SqL.of e2, ?_⟩
        rw [List.all_map]
        exact q H2 s2
    | _ => exact absurd c1 (by simp only [isT, tyN]; decide)
  · have : numsD d = false := by
      cases hd with
      | lst hs ha => exact absurd rfl c1
      | _ => rfl
    have q := q H fun _ _ h => h
    rw [this] at q
    exact q
end
end DQ

set_option Elab.async false
set_option linter.all false
set_option maxRecDepth 100000
set_option maxHeartbeats 4000000
namespace DQ
open PySem PySem.Spec PyProof.Rows L2
theorem not_list {d : PyData} (h : isT "list" d = false) : ∀ ds, d ≠ .list ds := fun ds e => by
  rw [e] at h
  exact absurd h (by simp only [isT, tyN]; decide)
section
variable {P : Program} {w : World} {K : PySem.W.Frag} {mg : Str → Option Value} {base : Heap}
def spWords (K : PySem.W.Frag) : Sp := fun vs H Q _ => ∃ (v : V) (d : PyData) (m : Nat), vs = [v, .int m] ∧ m ≤ 100 ∧ Dp K H v d ∧ Fits d ∧ ∀ H', Same H H' → Q (.bl (wordsD m d)) H'
theorem ok_words {f fn : Addr} {fd fdn : FuncData} (F : Fun K "are_words" "are_words" sWords f fd) (GW : FnOk P w K mg base CX0 2 fn fdn ["value"] (spIsWord K)) (bW : Binds K fdn ["value"] []) (kW : PySem.W.keepIn K (.ref fn) = true) (mW : mg "is_word" = some (.ref fn))
    (mI : mg "isinstance" = none) (mList : mg "list" = none) (mLen : mg "len" = none) (mSet : mg "set" = none) (mAll : mg "all" = none) : FnOk P w K mg base CX0 3 f fd ["value", "most"] (spWords K) := by
  refine F.ok scWords (fun vs H Q E h => ?_) (fun cdv A outer s H vs Q E hr h => ?_)
  · obtain ⟨v, d, m, rfl, _⟩ := h
    rfl
  obtain ⟨v, d, m, rfl, hm, hd, fit, q⟩ := h
  have nd := scWords.nd
  refine ⟨_, (pss_cons (ps_if (PW.pt (pw_or (pt_not (pt_val (pe_callB call_isi (by rfl) mI (by decide +kernel) (pa_cons (pv 0) (pa_cons (pe_bltn (v := .ty "list") (by rfl) mList (by decide +kernel) rfl) pa_nil)))))
      (pw_or1 (pt_cmpR op_gt (pe_callB call_len_seq (by rfl) mLen PySem.boot_len (pa_cons (pv 0) pa_nil)) (pv 1) (by rfl))))) (pss_one (ps_ret pe_bl)) pss_nil)
    (pss_one (ps_ret (pe_and (pe_callB (cr_all rfl) (by rfl) mAll (by decide +kernel) (pa_cons (pe_lc (own := [("word", 2)]) (g := gName 2) (tt := tYes) rfl nd (pi_list (pv 0)) (blkOk_by (own := [("word", 2)]) (N := ["value", "most", "word"]) (sc := defScope sWords) (by decide +kernel)) (fun _ _ _ _ _ => pg_name (i := 2) nd rfl (Or.inl rfl)) (fun _ _ _ _ _ => pts_nil)
      (fun _ _ _ _ _ => pe_call GW (hr.mono (by decide)) rfl mW kW bW .nil pass0 (pa_cons (pv 2) pa_nil))) pa_nil))
      (pe_one (pe_cmpR op_eq (pe_lenSetT rfl (by rfl) mLen (by rfl) mSet (pv 0)) (pe_callB call_len_seq (by rfl) mLen PySem.boot_len (pa_cons (pv 0) pa_nil)) (by rfl))))))), ?_⟩
  have ty := dp_ty hd
  refine ⟨_, rfl, v, .ty "list", _, _, _, rfl, .ty "list", ty, kit_data (by simp) d, ?_⟩
  refine ⟨_, rfl, ite2 (fun c1 => ?_) fun c1 => ?_⟩
  · have no : wordsD m d = false := by
      cases hd with
      | lst hs ha => exact absurd c1 (by simp only [isT, tyN]; decide)
      | _ => rfl
    have q := q H fun _ _ h => h
    rw [no] at q
    exact q
  cases hd with
  | @lst a xs ds hs ha =>
    have len := dpAll_len ha
    obtain ⟨few, short⟩ := fit ds rfl
    refine ⟨_, rfl, a, _, rfl, .inl hs, _, rfl, _, _, rfl, rfl, _, rfl, ite2 (fun c2 => ?_) fun c2 => ?_⟩
    · have no : wordsD m (.list ds) = false := by
        have c2 := of_decide_eq_true c2
        show (decide (ds.length ≤ m) && _) = false
        rw [decide_eq_false (by omega), Bool.false_and]
      have q := q H fun _ _ h => h
      rw [no] at q
      exact q
    have le : ds.length ≤ m := by
      have c2 := of_decide_eq_false (Bool.eq_false_iff.mpr c2)
      omega
    have yes : wordsD m (.list ds) = (ds.all wordD && decide (differ (texts ds) ds.length = ds.length)) := by
      show (decide (ds.length ≤ m) && _) = _
      rw [decide_eq_true le, Bool.true_and]
    rw [yes] at q
    refine ⟨_, rfl, a, rfl, ⟨_, hs⟩, fun D nD => lc_bools (walk_list (K := K) (a := a) (xs := xs)) (ds.map wordD) (by rw [List.length_map, len]) (Nat.lt_of_le_of_lt (show xs.length ≤ 10000 by rw [len]; exact few) (by decide)) nD (fun _ s1 => L2.Same.seq s1 hs) (fun _ _ _ _ y => by rw [y.1]; exact fun _ _ h => h)
        (fun i v H2 H3 b hi hb s1 y R hR => ?_) (fun H2 s2 e2 => ?_) (fun _ _ _ _ _ m h => m _ _ h)⟩
    · obtain ⟨rfl, hv⟩ := y
      obtain ⟨e, he, rfl⟩ := all_at hb
      have dv := dp_same s1 _ _ (dpAll_get ha hv he)
      refine ⟨rfl, _, rfl, v, rfl, ?_⟩
      cases dv with
      | str x => exact .inl ⟨x, rfl, short _ (List.mem_of_getElem? he) x rfl, fun H' sm => hR H' sm⟩
      | non => exact .inr ⟨⟨_, dp_ty (K := K) (d := .none) .non, kit_data (by simp) _⟩, hR _ fun _ _ h => h⟩
      | bl b => exact .inr ⟨⟨_, dp_ty (K := K) (d := .bool b) (.bl b), kit_data (by simp) _⟩, hR _ fun _ _ h => h⟩
      | int i => exact .inr ⟨⟨_, dp_ty (K := K) (d := .int i) (.int i), kit_data (by simp) _⟩, hR _ fun _ _ h => h⟩
      | lst h1 h2 => exact .inr ⟨⟨_, dp_ty (Dp.lst h1 h2), kit_data (by simp) _⟩, hR _ fun _ _ h => h⟩
      | tup h1 h2 => exact .inr ⟨⟨_, dp_ty (Dp.tup h1 h2), kit_data (by simp) _⟩, hR _ fun _ _ h => h⟩
    · refine ⟨D, _, rfl, SqL.of e2, _, rfl, ite2 (fun c3 => ?_) fun c3 => ?_⟩
      · rw [List.all_map] at c3
        have c3 : ds.all wordD = true := c3
        obtain ⟨et, lt⟩ := texts_all ha c3
        have hs2 := L2.Same.seq s2 hs
        refine ⟨_, rfl, a, texts ds, rfl, by rw [← et]; exact hs2, by omega, _, rfl, a, xs, rfl, .inl hs2, rfl, ?_⟩
        have q := q H2 s2
        rw [c3, Bool.true_and] at q
        rw [lt, len]
        have ee : decide (V.int ((differ (texts ds) ds.length : Nat) : Int) = V.int (ds.length : Nat)) = decide (differ (texts ds) ds.length = ds.length) := by
          by_cases z : differ (texts ds) ds.length = ds.length
          · rw [z]
            simp
          · rw [decide_eq_false z]
            exact decide_eq_false fun k => z (by injection k with k; omega)
        rw [ee]
        exact q
      · rw [List.all_map] at c3
        have q := q H2 s2
        rw [show ds.all wordD = false from Bool.eq_false_iff.mpr c3, Bool.false_and] at q
        exact q
  | _ => exact absurd rfl c1
def spMarks (K : PySem.W.Frag) (m : Nat) : Sp := fun vs H Q _ => ∃ (v : V) (d : PyData), vs = [v] ∧ Dp K H v d ∧ Fits d ∧ ∀ H', Same H H' → Q (.bl (wordsD m d)) H'
theorem ok_marks {f fn : Addr} {fd fdn : FuncData} {t1 : Tok} (F : Fun K "are_marks" "are_marks" sMarks f fd) (GW : FnOk P w K mg base CX0 3 fn fdn ["value", "most"] (spWords K)) (bW : Binds K fdn ["value", "most"] []) (kW : PySem.W.keepIn K (.ref fn) = true) (mW : mg "are_words" = some (.ref fn))
    (mM : mg "MOST_MARKS" = some (.int 4 t1)) : FnOk P w K mg base CX0 4 f fd ["value"] (spMarks K 4) := by
  refine F.ok scMarks (fun vs H Q E h => ?_) (fun cdv A outer s H vs Q E hr h => ?_)
  · obtain ⟨v, d, rfl, _⟩ := h
    rfl
  obtain ⟨v, d, rfl, hd, fit, q⟩ := h
  refine ⟨_, pss_one (ps_ret (pe_call GW (hr.mono (by decide)) rfl mW kW bW .nil pass0 (pa_cons (pv 0) (pa_cons (pe_glob (v := .int 4) (by rfl) mM ⟨_, rfl⟩) pa_nil)))), ?_⟩
  exact ⟨_, rfl, v, d, 4, rfl, by decide, hd, fit, q⟩
end
end DQ

set_option Elab.async false
set_option linter.all false
set_option maxRecDepth 100000
set_option maxHeartbeats 4000000
namespace DQ
open PySem PySem.Spec PyProof.Rows L2
def columnsD (ms : List Str) : PyData → Bool
  | .list ds => wordsD 2 (.list ds) && !(texts ds).any fun x => inV (.str x) (ms.map V.str)
  | _ => false
theorem columns_no {ms : List Str} {d : PyData} (h : wordsD 2 d = false) : columnsD ms d = false := by
  cases d with
  | list ds =>
    show (wordsD 2 (.list ds) && _) = false
    rw [h, Bool.false_and]
  | _ => rfl
theorem cut_drop {xs : List V} {k : Nat} : cutV xs (some (k : Int)) none = xs.drop k := by
  unfold cutV
  rw [HT.sIx_none, show HT.sIx xs.length 0 (some (k : Int)) = min k xs.length from HT.sIx_nat _ _ _]
  by_cases h : k ≤ xs.length
  · rw [Nat.min_eq_left h, List.take_of_length_le (by rw [List.length_drop]; exact Nat.le_refl _)]
  · rw [Nat.min_eq_right (by omega), Nat.sub_self, List.take_zero, List.drop_eq_nil_of_le (by omega)]
def ascB (ds : List PyData) : Bool := (ds.zip (ds.drop 1)).all fun p => PySem.W.dataLt p.1 p.2
section
variable {P : Program} {w : World} {K : PySem.W.Frag} {mg : Str → Option Value} {base : Heap}
def spColumns (K : PySem.W.Frag) : Sp := fun vs H Q _ => ∃ (ma : Addr) (ms : List Str) (v : V) (d : PyData), vs = [.ref ma, v] ∧ SqL K H ma (ms.map V.str) ∧ Dp K H v d ∧ Fits d ∧ ∀ H', Same H H' → Q (.bl (columnsD ms d)) H'
theorem ok_columns {f fn : Addr} {fd fdn : FuncData} {t1 : Tok} (F : Fun K "are_columns" "are_columns" sColumns f fd) (GW : FnOk P w K mg base CX0 3 fn fdn ["value", "most"] (spWords K)) (bW : Binds K fdn ["value", "most"] []) (kW : PySem.W.keepIn K (.ref fn) = true) (mW : mg "are_words" = some (.ref fn))
    (mM : mg "MOST_COLUMNS" = some (.int 2 t1)) (mAny : mg "any" = none) : FnOk P w K mg base CX0 4 f fd ["marks", "value"] (spColumns K) := by
  refine F.ok scColumns (fun vs H Q E h => ?_) (fun cdv A outer s H vs Q E hr h => ?_)
  · obtain ⟨ma, ms, v, d, rfl, _⟩ := h
    rfl
  obtain ⟨ma, ms, v, d, rfl, hma, hd, fit, q⟩ := h
  have nd := scColumns.nd
  refine ⟨_, pss_one (ps_ret (pe_and (pe_call GW (hr.mono (by decide)) rfl mW kW bW .nil pass0 (pa_cons (pv 1) (pa_cons (pe_glob (v := .int 2) (by rfl) mM ⟨_, rfl⟩) pa_nil)))
    (pe_one (pe_not (pe_callB (cr_any rfl) (by rfl) mAny (by decide +kernel) (pa_cons (pe_lc (own := [("word", 2)]) (g := gName 2) (tt := tYes) rfl nd (pi_list (pv 1)) (blkOk_by (own := [("word", 2)]) (N := ["marks", "value", "word"]) (sc := defScope sColumns) (by decide +kernel)) (fun _ _ _ _ _ => pg_name (i := 2) nd rfl (Or.inl rfl)) (fun _ _ _ _ _ => pts_nil)
      (fun _ _ _ _ _ => pe_cmpR (r := rIn K false) op_in_seq (pv 2) (pv 0) (by rfl))) pa_nil)))))), ?_⟩
  refine ⟨_, rfl, v, d, 2, rfl, by decide, hd, fit, fun H1 s1 => ⟨_, rfl, ite2 (fun c1 => ?_) fun c1 => ?_⟩⟩
  · cases hd with
    | @lst a xs ds hs ha =>
      obtain ⟨few, short⟩ := fit ds rfl
      have c1' : (decide (ds.length ≤ 2) && (ds.all wordD && decide (differ (texts ds) ds.length = ds.length))) = true := c1
      rw [Bool.and_eq_true, Bool.and_eq_true] at c1'
      obtain ⟨et, lt⟩ := texts_all ha c1'.2.1
      have hs1 := L2.Same.seq s1 hs
      rw [et] at hs1
      have yes : columnsD ms (.list ds) = !(texts ds).any fun x => inV (.str x) (ms.map V.str) := by
        show (wordsD 2 (.list ds) && _) = _
        rw [c1, Bool.true_and]
      rw [yes] at q
      refine ⟨_, rfl, a, rfl, ⟨_, hs1⟩, fun D nD => lc_bools (walk_list (K := K) (a := a) (xs := (texts ds).map V.str)) ((texts ds).map fun x => inV (.str x) (ms.map V.str)) (by rw [List.length_map, List.length_map]) (Nat.lt_of_le_of_lt (show ((texts ds).map V.str).length ≤ 10000 by rw [List.length_map, lt]; exact few) (by decide)) nD (fun _ s2 => L2.Same.seq s2 hs1) (fun _ _ _ _ y => by rw [y.1]; exact fun _ _ h => h)
        (fun i v H2 H3 b hi hb s2 y R hR => ?_) (fun H2 s2 e2 => ?_) (fun _ _ _ _ _ m h => m _ _ h)⟩
      · obtain ⟨rfl, hv⟩ := y
        obtain ⟨x, hx, rfl⟩ := at_map hv
        rw [List.getElem?_map, hx] at hb
        cases hb
        exact ⟨rfl, _, rfl, _, rfl, ma, _, rfl, .inl (L2.Same.seq (s1.trans s2) hma), rfl, flat_strs ms, hR _ fun _ _ h => h⟩
      · refine ⟨D, _, rfl, SqL.of e2, _, rfl, ?_⟩
        rw [List.any_map]
        exact q H2 (s1.trans s2)
    | _ => exact absurd c1 (by simp [wordsD])
  · have q := q H1 s1
    rw [columns_no (Bool.eq_false_iff.mpr c1)] at q
    exact q
def spAscending (K : PySem.W.Frag) : Sp := fun vs H Q _ => ∃ (a : Addr) (xs : List V) (ds : List PyData), vs = [.ref a] ∧ SqL K H a xs ∧ DpAll K H xs ds ∧ PySem.W.AllAlike ds ∧ (∀ d ∈ ds, d ≠ .none ∧ d.depth ≤ 8) ∧ ds.length ≤ 10000 ∧ ∀ H', Same H H' → Q (.bl (ascB ds)) H'
theorem ok_ascending {f : Addr} {fd : FuncData} (F : Fun K "is_ascending" "is_ascending" sAscending f fd) (mZip : mg "zip" = none) (mAll : mg "all" = none) : FnOk P w K mg base CX0 1 f fd ["rows"] (spAscending K) := by
  refine F.ok scAscending (fun vs H Q E h => ?_) (fun cdv A outer s H vs Q E hr h => ?_)
  · obtain ⟨a, xs, ds, rfl, _⟩ := h
    rfl
  obtain ⟨a, xs, ds, rfl, hs, ha, al, ok, few, q⟩ := h
  have nd := scAscending.nd
  refine ⟨_, pss_one (ps_ret (pe_callB (cr_all rfl) (by rfl) mAll (by decide +kernel) (pa_cons (pe_lc (own := [("one", 1), ("other", 2)]) (g := gTup K 2 (gCons (gName 1) (gCons (gName 2) gNil))) (tt := tYes) rfl nd (pi_zip (by rfl) mZip (pa_cons (pv 0) (pa_cons (pe_slice sl_list (pv 0) (po_some pe_int) po_none) pa_nil)))
    (blkOk_by (own := [("one", 1), ("other", 2)]) (N := ["rows", "one", "other"]) (sc := defScope sAscending) (by decide +kernel)) (fun _ _ _ _ _ => pg_tup rfl (pgs_cons (pg_name (i := 1) nd rfl (Or.inl rfl) (.inr rfl)) (pgs_cons (pg_name (i := 2) nd rfl (Or.inl rfl) (.inr rfl)) pgs_nil))) (fun _ _ _ _ _ => pts_nil) (fun _ _ _ _ _ => pe_cmpR (r := rLtD K) (op_ltD hr.units) (pv 1) (pv 2) (by rfl))) pa_nil))), ?_⟩
  have len := dpAll_len ha
  refine ⟨_, rfl, _, rfl, _, rfl, a, _, rfl, hs, fun p np => ?_⟩
  rw [show (some (1 : Int)) = some ((1 : Nat) : Int) from rfl, cut_drop]
  have mp := same_new np (o := .lst (xs.drop 1))
  have ep : upd H p (.lst (xs.drop 1)) p = some (.lst (xs.drop 1)) := upd_same
  generalize upd H p (.lst (xs.drop 1)) = H1 at mp ep ⊢
  have hs1 := L2.Same.seq mp hs
  have lz : (ds.zip (ds.drop 1)).length = min xs.length (xs.drop 1).length := by
    rw [List.length_zip, List.length_drop, List.length_drop, len]
  refine ⟨a, p, xs, xs.drop 1, rfl, hs1, SqL.of ep, fun D nD => lc_bools (walk_zip (K := K) (a := a) (b := p) (xs := xs) (ys := xs.drop 1) rfl) ((ds.zip (ds.drop 1)).map fun p => PySem.W.dataLt p.1 p.2) (by rw [List.length_map, lz]) (Nat.lt_of_le_of_lt (show min xs.length (xs.drop 1).length ≤ 10000 by rw [len]; omega) (by decide)) nD (fun _ s2 => ⟨L2.Same.seq s2 hs1, SqL.of (s2 _ _ ep)⟩)
    (fun i H2 v H3 y => ?_) (fun i v H2 H3 b hi hb s2 y R hR => ?_) (fun H2 s2 e2 => ?_) (fun v σ H (R R' : L2.St → Hp → Prop) m h => ?_)⟩
  · obtain ⟨T, x, y, _, nT, rfl, _⟩ := y
    exact same_new nT
  · obtain ⟨T, x, y, rfl, nT, rfl, hx, hy⟩ := y
    obtain ⟨pr, hp, e⟩ : ∃ pr : PyData × PyData, (ds.zip (ds.drop 1))[i]? = some pr ∧ b = PySem.W.dataLt pr.1 pr.2 := by
      rw [List.getElem?_map] at hb
      obtain ⟨pr, hp, e⟩ := Option.map_eq_some_iff.mp hb
      exact ⟨pr, hp, e.symm⟩
    obtain ⟨d, e'⟩ := pr
    rw [List.getElem?_zip_eq_some] at hp
    obtain ⟨h1, h2⟩ := hp
    have hx : xs[i]? = some x := hx
    have hy : (xs.drop 1)[i]? = some y := hy
    rw [List.getElem?_drop] at hy h2
    have sT := same_new nT (o := .tup [x, y])
    have eT : upd H2 T (.tup [x, y]) T = some (.tup [x, y]) := upd_same
    generalize upd H2 T (.tup [x, y]) = H3 at sT eT hR ⊢
    have keep : L2.Same H H3 := (mp.trans s2).trans sT
    refine ⟨T, [x, y], rfl, .inl (.inl eT), rfl, x, [y], rfl, y, [], rfl, rfl, rfl, _, rfl, _, rfl, d, e', dp_same keep _ _ (dpAll_get ha hx h1), dp_same keep _ _ (dpAll_get ha hy h2), al _ (List.mem_of_getElem? h1) _ (List.mem_of_getElem? h2), (ok _ (List.mem_of_getElem? h1)).1, (ok _ (List.mem_of_getElem? h1)).2, ?_⟩
    rw [← e]
    exact hR _ fun _ _ h => h
  · refine ⟨D, _, rfl, SqL.of e2, ?_⟩
    rw [List.all_map]
    exact q H2 (mp.trans s2)
  · obtain ⟨T, ys, e1, e2, e3, z1, r1, e4, z2, r2, e5, e6, h⟩ := h
    exact ⟨T, ys, e1, e2, e3, z1, r1, e4, z2, r2, e5, e6, m _ _ h⟩
end
end DQ

set_option Elab.async false
set_option linter.all false
set_option maxRecDepth 100000
set_option maxHeartbeats 400000
namespace DQ
open PySem PySem.Spec PyProof.Rows L2
abbrev sIsFact : Stmt := topS 25
abbrev NF : List Str := ["marks", "columns", "known", "value", "fits", "item"]
theorem scIsFact : FnScope NF ["marks", "columns", "known", "value"] (defScope sIsFact) := ⟨rfl, rfl, rfl, by decide +kernel, rfl, by decide +kernel, by decide +kernel⟩
def okItem (ns : List Int) (d : PyData) : Bool := numD d && match d with
  | .int i => decide (i ∈ ns)
  | _ => false
def hasD (ms : List Str) (b : PyData) : Bool := (ms.map PyData.str).any fun z => PyData.eqv z b
def isFactD (ms cs : List Str) (ns : List Int) : PyData → Bool
  | .tuple (a :: b :: r) => decide (r.length = 1 ∨ r.length = 2) && ((if r.length = 1 then PyData.eqv a (.str "mark") && hasD ms b else PyData.eqv a (.str "link") && hasD cs b) && r.all (okItem ns))
  | _ => false
/-- the parts of a tuple are of a shape that == takes -/
def Parts (d : PyData) : Prop := ∀ ds, d = .tuple ds → ∀ e ∈ ds, SeqAt.shaped e = true
theorem dp_texts {K : PySem.W.Frag} {H : Hp} : ∀ ms : List Str, DpAll K H (ms.map V.str) (ms.map PyData.str)
  | [] => .nil
  | x :: r => .cons (.str x) (dp_texts r)
theorem room65 {k : Nat} {A : Around} (r : Room k A) : A.units + 65 < cLine := by have := r.un; omega
theorem room1 {k : Nat} {A : Around} (r : Room k A) : A.units + 1 < cLine := by have := r.un; omega
/-- the dict of the items -/
def KnownAt (H : Hp) (ka : Addr) (ns : List Int) : Prop := ∃ kvs : List (Key × V), H ka = some (.dK kvs) ∧ ∀ i : Int, (valV kvs (.inl i)).isSome = decide (i ∈ ns)
theorem dpAll_two {K : PySem.W.Frag} {H : Hp} {xs : List V} {ds : List PyData} (h : DpAll K H xs ds) (l : 2 ≤ ds.length) : ∃ x0 x1 xr d0 d1 dr, xs = x0 :: x1 :: xr ∧ ds = d0 :: d1 :: dr ∧ Dp K H x0 d0 ∧ Dp K H x1 d1 ∧ DpAll K H xr dr := by
  cases h with
  | nil => exact absurd l (by decide)
  | cons a h =>
    cases h with
    | nil => exact absurd l (by simp)
    | cons b h => exact ⟨_, _, _, _, _, _, rfl, rfl, a, b, h⟩
theorem in_34 (n : Nat) : inV (.int (n : Int)) [.int 3, .int 4] = (decide (n = 3) || decide (n = 4)) := by
  show (((3 : Int) == (n : Int)) || (((4 : Int) == (n : Int)) || false)) = _
  rw [Bool.or_false]
  congr 1
  · by_cases h : n = 3
    · rw [h]; rfl
    · rw [decide_eq_false h]
      exact beq_eq_false_iff_ne.mpr fun e => h (by omega)
  · by_cases h : n = 4
    · rw [h]; rfl
    · rw [decide_eq_false h]
      exact beq_eq_false_iff_ne.mpr fun e => h (by omega)
theorem fact_no {ms cs : List Str} {ns : List Int} {ds : List PyData} (h : ¬ (ds.length = 3 ∨ ds.length = 4)) : isFactD ms cs ns (.tuple ds) = false := by
  match ds, h with
  | [], _ => rfl
  | [_], _ => rfl
  | a :: b :: r, h =>
    show (decide (r.length = 1 ∨ r.length = 2) && _) = false
    rw [decide_eq_false (fun z => h (by simp only [List.length_cons]; omega)), Bool.false_and]
section
variable {P : Program} {w : World} {K : PySem.W.Frag} {mg : Str → Option Value} {base : Heap}
def spIsFact (K : PySem.W.Frag) : Sp := fun vs H Q _ => ∃ (ma ca ka : Addr) (ms cs : List Str) (ns : List Int) (v : V) (d : PyData), vs = [.ref ma, .ref ca, .ref ka, v] ∧ SqL K H ma (ms.map V.str) ∧ SqL K H ca (cs.map V.str) ∧ SeqAt.shaped (.list (ms.map PyData.str)) = true ∧ SeqAt.shaped (.list (cs.map PyData.str)) = true ∧
  KnownAt H ka ns ∧ Dp K H v d ∧ Parts d ∧ ∀ H', Same H H' → Q (.bl (isFactD ms cs ns d)) H'
theorem ok_isFact {f fn : Addr} {fd fdn : FuncData} (F : Fun K "is_fact" "is_fact" sIsFact f fd) (GN : FnOk P w K mg base CX0 3 fn fdn ["value"] (spNumber K)) (bN : Binds K fdn ["value"] []) (kN : PySem.W.keepIn K (.ref fn) = true) (mN : mg "is_number" = some (.ref fn))
    (mI : mg "isinstance" = none) (mTuple : mg "tuple" = none) (mLen : mg "len" = none) (mAll : mg "all" = none) : FnOk P w K mg base CX0 4 f fd ["marks", "columns", "known", "value"] (spIsFact K) := by
  refine F.ok scIsFact (fun vs H Q E h => ?_) (fun cdv A outer s H vs Q E hr h => ?_)
  · obtain ⟨_, _, _, _, _, _, _, _, rfl, _⟩ := h
    rfl
  obtain ⟨ma, ca, ka, ms, cs, ns, v, d, rfl, hma, hca, lm, lc, hk, hd, pd, q⟩ := h
  have nd := scIsFact.nd
  refine ⟨_, (pss_cons (ps_if (PW.pt (pw_or (pt_not (pt_val (pe_callB call_isi (by rfl) mI (by decide +kernel) (pa_cons (pv 3) (pa_cons (pe_bltn (v := .ty "tuple") (by rfl) mTuple (by decide +kernel) rfl) pa_nil)))))
      (pw_or1 (pt_cmpR op_notIn_seq (pe_callB call_len_seq (by rfl) mLen PySem.boot_len (pa_cons (pv 3) pa_nil)) (pe_tup (pa_cons pe_int (pa_cons pe_int pa_nil))) (by rfl))))) (pss_one (ps_ret pe_bl)) pss_nil)
    (pss_cons (ps_if (pt_cmpR op_eq (pe_callB call_len_seq (by rfl) mLen PySem.boot_len (pa_cons (pv 3) pa_nil)) pe_int (nomark _))
      (pss_one (ps_set (i := 4) nd rfl (.inl rfl) (pe_and (pe_cmpR (op_eqD hr.units) (pe_ix (r := rIxT K) ix_tup (pv 3) pe_int (fun _ _ => rfl)) pe_str (nomark _)) (pe_one (pe_cmpR (op_inD (room65 hr)) (pe_ix (r := rIxT K) ix_tup (pv 3) pe_int (fun _ _ => rfl)) (pv 0) (by rfl))))))
      (pss_one (ps_set (i := 4) nd rfl (.inl rfl) (pe_and (pe_cmpR (op_eqD hr.units) (pe_ix (r := rIxT K) ix_tup (pv 3) pe_int (fun _ _ => rfl)) pe_str (nomark _)) (pe_one (pe_cmpR (op_inD (room65 hr)) (pe_ix (r := rIxT K) ix_tup (pv 3) pe_int (fun _ _ => rfl)) (pv 1) (by rfl)))))))
    (pss_one (ps_ret (pe_and (pv 4) (pe_one (pe_callB (cr_all rfl) (by rfl) mAll (by decide +kernel) (pa_cons (pe_lc (own := [("item", 5)]) (g := gName 5) (tt := tYes) rfl nd (pi_tup (pe_slice sl_tup (pv 3) (po_some pe_int) po_none)) (blkOk_by (own := [("item", 5)]) (N := NF) (sc := defScope sIsFact) (by decide +kernel)) (fun _ _ _ _ _ => pg_name (i := 5) nd rfl (Or.inl rfl)) (fun _ _ _ _ _ => pts_nil)
      (fun _ _ _ _ _ => pe_and (pe_call GN (hr.mono (by decide)) rfl mN kN bN .nil pass0 (pa_cons (pv 5) pa_nil)) (pe_one (pe_cmp (pc_din (room1 hr) (pv 5) (pv 2)) (by rfl))))) pa_nil)))))))), ?_⟩
  have ty := dp_ty hd
  refine ⟨_, rfl, v, .ty "tuple", _, _, _, rfl, .ty "tuple", ty, kit_data (by simp) d, _, rfl, ite2 (fun c1 => ?_) fun c1 => ?_⟩
  · have no : isFactD ms cs ns d = false := by
      cases hd with
      | tup hs ha => exact absurd c1 (by simp only [isT, tyN]; decide)
      | _ => rfl
    have q := q H fun _ _ h => h
    rw [no] at q
    exact q
  cases hd with
  | @tup a xs ds hs ha =>
    have len := dpAll_len ha
    refine ⟨_, rfl, a, _, rfl, .inr hs, by show 2 ≤ sizeLine; decide, fun T nT => ?_⟩
    have mT := same_new nT (o := .tup [.int 3, .int 4])
    have eT : upd H T (.tup [.int 3, .int 4]) T = some (.tup [.int 3, .int 4]) := upd_same
    generalize upd H T (.tup [.int 3, .int 4]) = H1 at mT eT ⊢
    refine ⟨T, _, rfl, .inr (.inl (.inl eT)), rfl, rfl, _, rfl, ite2 (fun c2 => ?_) fun c2 => ?_⟩
    · have c2 : (!inV (.int (xs.length : Nat)) [.int 3, .int 4]) = true := c2
      rw [in_34, len] at c2
      have q := q H1 mT
      rw [fact_no (fun z => by
        rcases z with z | z
        · rw [z] at c2; exact absurd c2 (by decide)
        · rw [z] at c2; exact absurd c2 (by decide))] at q
      exact q
    have c2 : ¬ (!inV (.int (xs.length : Nat)) [.int 3, .int 4]) = true := c2
    rw [in_34, len] at c2
    have l34 : ds.length = 3 ∨ ds.length = 4 := by
      by_cases h3 : ds.length = 3
      · exact .inl h3
      · by_cases h4 : ds.length = 4
        · exact .inr h4
        · rw [decide_eq_false h3, decide_eq_false h4] at c2
          exact absurd rfl c2
    obtain ⟨x0, x1, xr, d0, d1, dr, ex, ed, a0, a1, ar⟩ := dpAll_two ha (by omega)
    have hs1 := DQ.Same.seqT mT hs
    rw [ex] at hs1
    have s0 : SeqAt.shaped d0 = true := pd _ rfl d0 (by rw [ed]; exact List.mem_cons_self ..)
    have s1 : SeqAt.shaped d1 = true := pd _ rfl d1 (by rw [ed]; exact List.mem_cons_of_mem _ (List.mem_cons_self ..))
    have at0 : atI (x0 :: x1 :: xr) 0 = some x0 := atI_nat (j := 0) rfl
    have at1 : atI (x0 :: x1 :: xr) 1 = some x1 := atI_nat (j := 1) rfl
    have lr : dr.length = 1 ∨ dr.length = 2 := by
      rw [ed] at l34
      simp only [List.length_cons] at l34
      omega
    have lx : xr.length = dr.length := dpAll_len ar
    refine ⟨_, rfl, a, _, rfl, .inr hs1, rfl, _, rfl, ite2 (fun c3 => ?_) fun c3 => ?_⟩
    · have yes : isFactD ms cs ns (.tuple ds) = ((PyData.eqv d0 (.str "mark") && hasD ms d1) && dr.all (okItem ns)) := by
        have e1 : (dr.length = 1) = True := by
          exact eq_true (by have c3 := of_decide_eq_true c3; injection c3 with c3; rw [List.length_cons, List.length_cons, lx] at c3; omega)
        rw [ed]
        show (decide (dr.length = 1 ∨ dr.length = 2) && ((if dr.length = 1 then _ else _) && _)) = _
        rw [decide_eq_true lr, Bool.true_and, if_pos (of_eq_true e1)]
      rw [yes] at q
      refine ⟨_, rfl, a, _, 0, x0, rfl, rfl, hs1, at0, d0, .str "mark", dp_same mT _ _ a0, .str _, s0, by decide +kernel, _, rfl, ite2 (fun c4 => ?_) fun c4 => ?_⟩
      · refine ⟨_, rfl, a, _, 1, x1, rfl, rfl, hs1, at1, _, rfl, d1, ms.map PyData.str, dp_same mT _ _ a1, .lst (L2.Same.seq mT hma) (dp_texts ms), s1, lm, ?_⟩
        rw [c4, Bool.true_and] at q
        refine ⟨_, rfl, hasD ms d1, rfl, ite2 (fun c5 => ?_) fun c5 => ?_⟩
        · rw [c5, Bool.true_and] at q
          refine ⟨_, rfl, _, rfl, a, _, rfl, hs1, fun z => ?_, fun p np => ?_⟩
          · have z := z.1
            rw [show (some (2 : Int)) = some ((2 : Nat) : Int) from rfl, HT.sIx_nat] at z
            simp only [List.length_cons] at z
            omega
          rw [show (some (2 : Int)) = some ((2 : Nat) : Int) from rfl, cut_drop]
          have mp := same_new np (o := .tup ((x0 :: x1 :: xr).drop 2))
          have ep : upd H1 p (.tup ((x0 :: x1 :: xr).drop 2)) p = some (.tup xr) := upd_same
          generalize upd H1 p (.tup ((x0 :: x1 :: xr).drop 2)) = H2 at mp ep ⊢
          have all2 : L2.Same H H2 := mT.trans mp
          refine ⟨p, rfl, ⟨_, .inl (.inl ep)⟩, fun D nD => lc_bools (walk_tup (K := K) (a := p) (xs := xr)) (dr.map (okItem ns)) (by rw [List.length_map, lx]) (Nat.lt_of_le_of_lt (show xr.length ≤ 2 by omega) (by decide)) nD (fun _ s2 => .inl (.inl (s2 _ _ ep))) (fun _ _ _ _ y => by rw [y.1]; exact fun _ _ h => h)
            (fun i v H3 H4 b hi hb s2 y R hR => ?_) (fun H3 s3 e3 => ?_) (fun _ _ _ _ _ m h => m _ _ h)⟩
          · obtain ⟨rfl, hv⟩ := y
            obtain ⟨e, he, rfl⟩ := all_at hb
            have dv := dp_same (all2.trans s2) _ _ (dpAll_get ar hv he)
            refine ⟨rfl, _, rfl, v, e, rfl, dv, _, rfl, ite2 (fun c6 => ?_) fun c6 => ?_⟩
            · cases dv with
              | int i =>
                obtain ⟨kvs, ek, iff⟩ := hk
                refine ⟨_, rfl, _, rfl, ka, _, rfl, .inl ⟨kvs, .inl i, .inl ((all2.trans s2) _ _ ek), rfl, rfl⟩, ?_⟩
                have z := hR _ fun _ _ h => h
                have eo : okItem ns (.int i) = (valV kvs (.inl i)).isSome := by
                  show (numD (.int i) && decide (i ∈ ns)) = _
                  rw [c6, Bool.true_and, iff]
                rw [eo] at z
                exact z
              | _ => exact absurd c6 (by simp [numD])
            · have z := hR _ fun _ _ h => h
              have eo : okItem ns e = false := by
                unfold okItem
                rw [Bool.eq_false_iff.mpr c6, Bool.false_and]
              rw [eo] at z
              exact z
          · refine ⟨D, _, rfl, SqL.of e3, ?_⟩
            rw [List.all_map]
            exact q H3 (all2.trans s3)
        · rw [Bool.eq_false_iff.mpr c5, Bool.false_and] at q
          exact q H1 mT
      · rw [Bool.eq_false_iff.mpr c4, Bool.false_and, Bool.false_and] at q
        exact ⟨_, rfl, false, rfl, q H1 mT⟩
    · have yes : isFactD ms cs ns (.tuple ds) = ((PyData.eqv d0 (.str "link") && hasD cs d1) && dr.all (okItem ns)) := by
        have e1 : (dr.length = 1) = False := by
          exact eq_false fun z => c3 (decide_eq_true (by rw [List.length_cons, List.length_cons, lx, z]; rfl))
        rw [ed]
        show (decide (dr.length = 1 ∨ dr.length = 2) && ((if dr.length = 1 then _ else _) && _)) = _
        rw [decide_eq_true lr, Bool.true_and, if_neg (of_eq_false e1)]
      rw [yes] at q
      refine ⟨_, rfl, a, _, 0, x0, rfl, rfl, hs1, at0, d0, .str "link", dp_same mT _ _ a0, .str _, s0, by decide +kernel, _, rfl, ite2 (fun c4 => ?_) fun c4 => ?_⟩
      · refine ⟨_, rfl, a, _, 1, x1, rfl, rfl, hs1, at1, _, rfl, d1, cs.map PyData.str, dp_same mT _ _ a1, .lst (L2.Same.seq mT hca) (dp_texts cs), s1, lc, ?_⟩
        rw [c4, Bool.true_and] at q
        refine ⟨_, rfl, hasD cs d1, rfl, ite2 (fun c5 => ?_) fun c5 => ?_⟩
        · rw [c5, Bool.true_and] at q
          refine ⟨_, rfl, _, rfl, a, _, rfl, hs1, fun z => ?_, fun p np => ?_⟩
          · have z := z.1
            rw [show (some (2 : Int)) = some ((2 : Nat) : Int) from rfl, HT.sIx_nat] at z
            simp only [List.length_cons] at z
            omega
          rw [show (some (2 : Int)) = some ((2 : Nat) : Int) from rfl, cut_drop]
          have mp := same_new np (o := .tup ((x0 :: x1 :: xr).drop 2))
          have ep : upd H1 p (.tup ((x0 :: x1 :: xr).drop 2)) p = some (.tup xr) := upd_same
          generalize upd H1 p (.tup ((x0 :: x1 :: xr).drop 2)) = H2 at mp ep ⊢
          have all2 : L2.Same H H2 := mT.trans mp
          refine ⟨p, rfl, ⟨_, .inl (.inl ep)⟩, fun D nD => lc_bools (walk_tup (K := K) (a := p) (xs := xr)) (dr.map (okItem ns)) (by rw [List.length_map, lx]) (Nat.lt_of_le_of_lt (show xr.length ≤ 2 by omega) (by decide)) nD (fun _ s2 => .inl (.inl (s2 _ _ ep))) (fun _ _ _ _ y => by rw [y.1]; exact fun _ _ h => h)
            (fun i v H3 H4 b hi hb s2 y R hR => ?_) (fun H3 s3 e3 => ?_) (fun _ _ _ _ _ m h => m _ _ h)⟩
          · obtain ⟨rfl, hv⟩ := y
            obtain ⟨e, he, rfl⟩ := all_at hb
            have dv := dp_same (all2.trans s2) _ _ (dpAll_get ar hv he)
            refine ⟨rfl, _, rfl, v, e, rfl, dv, _, rfl, ite2 (fun c6 => ?_) fun c6 => ?_⟩
            · cases dv with
              | int i =>
                obtain ⟨kvs, ek, iff⟩ := hk
                refine ⟨_, rfl, _, rfl, ka, _, rfl, .inl ⟨kvs, .inl i, .inl ((all2.trans s2) _ _ ek), rfl, rfl⟩, ?_⟩
                have z := hR _ fun _ _ h => h
                have eo : okItem ns (.int i) = (valV kvs (.inl i)).isSome := by
                  show (numD (.int i) && decide (i ∈ ns)) = _
                  rw [c6, Bool.true_and, iff]
                rw [eo] at z
                exact z
              | _ => exact absurd c6 (by simp [numD])
            · have z := hR _ fun _ _ h => h
              have eo : okItem ns e = false := by
                unfold okItem
                rw [Bool.eq_false_iff.mpr c6, Bool.false_and]
              rw [eo] at z
              exact z
          · refine ⟨D, _, rfl, SqL.of e3, ?_⟩
            rw [List.all_map]
            exact q H3 (all2.trans s3)
        · rw [Bool.eq_false_iff.mpr c5, Bool.false_and] at q
          exact q H1 mT
      · rw [Bool.eq_false_iff.mpr c4, Bool.false_and, Bool.false_and] at q
        exact ⟨_, rfl, false, rfl, q H1 mT⟩
  | _ => exact absurd rfl c1
end
end DQ

set_option Elab.async false
set_option linter.all false
set_option maxRecDepth 100000
set_option maxHeartbeats 400000
namespace DQ
open PySem PySem.Spec PyProof.Rows L2
/-! ### d.setdefault((..), x): keys that are tuples -/
section
variable {X : Cx} {pins : List (Addr × Obj)} {σ : L2.St} {H : Hp} {s : Shared} {a b : Addr} {r : Value} {d : V} {k : List Key} {A : Around} {E : Value → Shared → Prop}
theorem d_setdT {kvs : List (List Key × V)} {Q : Value → Shared → Prop} (hu : A.units + 1 < cLine) (I : Inv X pins σ H s) (e : H a = some (.dT kvs)) (eb : H b = some (.tup (k.map kV))) (rd : RelV d r) (hl : kvs.length < sizeLine)
    (h1 : ∀ v, valV kvs k = some v → ∀ (w' : Value) (s' : Shared), Inv X pins σ H s' → RelV v w' → Q w' s') (h2 : valV kvs k = none → ∀ (w' : Value) (s' : Shared), Inv X pins σ (upd H a (.dT (putK kvs k d))) s' → RelV d w' → Q w' s') :
    wpAny (model X.prog X.w) A (call (.builtin "dict.setdefault") [.ref a, .ref b, r]) Q E s := by
  obtain ⟨z, hd, xs, rel, dd⟩ := dt_of I.hok e
  have hz : xs.length ≤ sizeLine := by rw [← Paired.length rel]; exact z
  refine call_setdefault_heap (hsz := hz) (tupleKind_room_in1 hu) (key_of I.hok eb) hd dd (fun p hp => ?_) fun hn h' dd' hs => ?_
  · have q := rel.val k
    rw [hp] at q
    cases q0 : valV kvs k with
    | none =>
      rw [q0] at q
      exact (show False from q).elim
    | some v0 =>
      rw [q0] at q
      exact h1 v0 q0 _ _ (I.tok _) q
  · have q := rel.val k
    rw [hn] at q
    cases q0 : valV kvs k with
    | some v0 =>
      rw [q0] at q
      exact (show False from q).elim
    | none =>
      have hl2 : (putK kvs k d).length ≤ sizeLine := by
        have := length_putK kvs k d
        omega
      obtain ⟨o, es, ep, hq, e2, e3, e4, _, e5⟩ := dd'
      refine h2 q0 _ _ (d_write (t' := _) I (by rw [e]; exact True.intro) hs ⟨o, hq⟩ ⟨hl2, hd, _, (rel.put k eb rd).keeps fun c ys ec => ?_, o, es, ep, hq, e2, e3, e4, e5⟩) rd
      rw [upd_ne (ne_of ec e (fun z => nomatch z))]
      exact ec
end
def tDSetdT (td ty tx : TE) : TE := fun σ H Q => td σ H fun x H1 => ∃ a, x = .ref a ∧ IsD H1 a ∧ ty σ H1 fun y H2 => tx σ H2 fun z H3 => ∃ (kvs : List (List Key × V)) (k : List Key) (b : Addr), H3 a = some (.dT kvs) ∧ y = .ref b ∧ H3 b = some (.tup (k.map kV)) ∧ kvs.length < sizeLine ∧
  (∀ v, valV kvs k = some v → Q v H3) ∧ (valV kvs k = none → Q z (upd H3 a (.dT (putK kvs k z))))
section
variable {X : Cx} {o e f : Expr} {td ty tx : TE} {apos cpos : Pos}
theorem pe_dsetdT (hu : X.A.units + 1 < cLine) (ho : PE X o td) (he : PE X e ty) (hf : PE X f tx) (m : M2 X o "setdefault" apos e f cpos) : PE X (.Call (.Attribute o "setdefault" apos) [e, f] [] cpos) (tDSetdT td ty tx) := by
  refine ⟨fun pins s σ H Q I h => ?_⟩
  refine wpAny_Call_method m.base m.few m.line PySem.F.plainAttrs_dict PySem.F.slot_dict_setdefault PySem.F.type_dict_setdefault (thn (ho.run pins s σ H _ I h) fun u s1 ⟨x, H1, I1, rx, a, ex, d, q1⟩ => ?_)
  subst ex
  obtain rfl : u = Value.ref a := rx
  obtain ⟨t1, t2, _⟩ := isD_at I1 d
  refine ⟨t1, t2, ?_⟩
  rw [m.trees]
  refine Calls.callWith_builtin rfl (Calls.evalArgs_plain (Calls.spliced_cons (thn (he.run pins s1 σ H1 _ I1 q1) fun iv s2 ⟨y, H2, I2, ry, q2⟩ =>
    Calls.spliced_cons (thn (hf.run pins s2 σ H2 _ I2 q2) fun fv s3 ⟨z, H3, I3, rz, kvs, k, b, ea, ey, eb, hl, q3, q4⟩ => Calls.spliced_nil ?_))))
  subst ey
  obtain rfl : iv = Value.ref b := ry
  exact d_setdT hu I3 ea eb rz hl (fun v hv w' s4 I4 rw' => ⟨v, _, I4, rw', q3 v hv⟩) fun hn w' s4 I4 rw' => ⟨z, _, I4, rw', q4 hn⟩
end
end DQ

set_option Elab.async false
set_option linter.all false
set_option maxRecDepth 100000
set_option maxHeartbeats 400000
namespace DQ
open PySem PySem.Spec PyProof.Rows L2
/-! ### links that clash -/
def clashes : Fact → Fact → Bool
  | .link c a b, .link c' a' b' => decide (c = c') && ((decide (a = a') && !decide (b = b')) || (decide (b = b') && !decide (a = a')))
  | _, _ => false
def NoClash (fs : List Fact) : Prop := ∀ x ∈ fs, ∀ y ∈ fs, clashes x y = false
theorem clashes_self (x : Fact) : clashes x x = false := by
  cases x with
  | mark _ _ => rfl
  | link c a b => simp [clashes]
theorem clashes_comm (x y : Fact) : clashes x y = clashes y x := by
  cases x with
  | mark _ _ => cases y <;> rfl
  | link c a b =>
    cases y with
    | mark _ _ => rfl
    | link c' a' b' =>
      show (decide (c = c') && ((decide (a = a') && !decide (b = b')) || (decide (b = b') && !decide (a = a')))) = (decide (c' = c) && ((decide (a' = a) && !decide (b' = b)) || (decide (b' = b) && !decide (a' = a))))
      rw [show decide (c = c') = decide (c' = c) from decide_eq_decide.mpr ⟨Eq.symm, Eq.symm⟩, show decide (a = a') = decide (a' = a) from decide_eq_decide.mpr ⟨Eq.symm, Eq.symm⟩, show decide (b = b') = decide (b' = b) from decide_eq_decide.mpr ⟨Eq.symm, Eq.symm⟩]
theorem noClash_snoc {fs : List Fact} {y : Fact} (h : NoClash fs) (n : ∀ x ∈ fs, clashes x y = false) : NoClash (fs ++ [y]) := fun x hx z hz => by
  rcases List.mem_append.mp hx with hx | hx <;> rcases List.mem_append.mp hz with hz | hz
  · exact h x hx z hz
  · rw [List.mem_singleton.mp hz]
    exact n x hx
  · rw [List.mem_singleton.mp hx, clashes_comm]
    exact n z hz
  · rw [List.mem_singleton.mp hx, List.mem_singleton.mp hz]
    exact clashes_self y
def isFrom (c : Str) (a : Int) : Fact → Bool
  | .link c' a' _ => decide (c' = c) && decide (a' = a)
  | _ => false
def isTo (c : Str) (b : Int) : Fact → Bool
  | .link c' _ b' => decide (c' = c) && decide (b' = b)
  | _ => false
/-- the first whose fact is such a one -/
def firstOf (p : Fact → Bool) (zs : List (V × Fact)) : Option V := (zs.find? fun z => p z.2).map (·.1)
theorem firstOf_snoc (p : Fact → Bool) (zs : List (V × Fact)) (z : V × Fact) : firstOf p (zs ++ [z]) = (firstOf p zs).or (if p z.2 = true then some z.1 else none) := by
  unfold firstOf
  rw [List.find?_append]
  cases zs.find? fun z => p z.2 with
  | some y => rfl
  | none =>
    by_cases h : p z.2 = true
    · rw [List.find?_cons_of_pos (by exact h), if_pos h]
      rfl
    · rw [List.find?_cons_of_neg (by exact h), if_neg h]
      rfl
theorem firstOf_some {p : Fact → Bool} {zs : List (V × Fact)} {v : V} (h : firstOf p zs = some v) : ∃ x, (v, x) ∈ zs ∧ p x = true := by
  unfold firstOf at h
  obtain ⟨z, hz, e⟩ := Option.map_eq_some_iff.mp h
  exact ⟨z.2, by rw [← e]; exact List.mem_of_find?_eq_some hz, by simpa using List.find?_some hz⟩
theorem firstOf_none {p : Fact → Bool} {zs : List (V × Fact)} (h : firstOf p zs = none) : ∀ z ∈ zs, p z.2 = false := by
  unfold firstOf at h
  have h := Option.map_eq_none_iff.mp h
  exact fun z hz => Bool.eq_false_iff.mpr (List.find?_eq_none.mp h z hz)
def kF (c : Str) (a : Int) : List Key := [.inr c, .inr "from", .inl a]
def kT (c : Str) (b : Int) : List Key := [.inr c, .inr "to", .inl b]
theorem kF_inj {c c' : Str} {a a' : Int} : kF c a = kF c' a' ↔ c = c' ∧ a = a' := by
  unfold kF
  constructor
  · intro h
    simp only [List.cons.injEq, Sum.inr.injEq, Sum.inl.injEq, and_true, true_and] at h
    exact h
  · rintro ⟨rfl, rfl⟩
    rfl
theorem kT_inj {c c' : Str} {a a' : Int} : kT c a = kT c' a' ↔ c = c' ∧ a = a' := by
  unfold kT
  constructor
  · intro h
    simp only [List.cons.injEq, Sum.inr.injEq, Sum.inl.injEq, and_true, true_and] at h
    exact h
  · rintro ⟨rfl, rfl⟩
    rfl
theorem kFT {c c' : Str} {a a' : Int} : kF c a ≠ kT c' a' := fun h => by
  unfold kF kT at h
  simp only [List.cons.injEq, Sum.inr.injEq] at h
  exact absurd h.2.1 (by decide)
theorem str_beq {x y : Str} : (x == y) = true ↔ x = y := ⟨fun h => eq_of_beq h, fun h => by rw [h]; exact beq_self_eq_true y⟩
theorem fact_eqv (x y : Fact) : PyData.eqv x.d y.d = true ↔ x = y := by
  cases x with
  | mark m i =>
    cases y with
    | mark m' i' =>
      simp only [Fact.d, PyData.eqv, PyData.eqvAll, Bool.and_true, Fact.mark.injEq, Bool.and_eq_true, str_beq, beq_iff_eq, true_and]
    | link c a b =>
      simp only [Fact.d, PyData.eqv, PyData.eqvAll, Bool.and_eq_true, str_beq]
      exact ⟨fun h => absurd h.1 (by decide), fun h => nomatch h⟩
  | link c a b =>
    cases y with
    | mark m' i' =>
      simp only [Fact.d, PyData.eqv, PyData.eqvAll, Bool.and_eq_true, str_beq]
      exact ⟨fun h => absurd h.1 (by decide), fun h => nomatch h⟩
    | link c' a' b' =>
      simp only [Fact.d, PyData.eqv, PyData.eqvAll, Bool.and_true, Fact.link.injEq, Bool.and_eq_true, str_beq, beq_iff_eq, true_and]
def Fact.word : Fact → Str
  | .mark m _ => m
  | .link c _ _ => c
theorem fact_shaped (x : Fact) (h : PyData.canLay0 (.str x.word) = true) : SeqAt.shaped x.d = true := by
  have e1 : PyData.canLay0 (.str "mark") = true := by decide +kernel
  have e2 : PyData.canLay0 (.str "link") = true := by decide +kernel
  have dep := fact_depth x
  show (PyData.canLay0 x.d && decide (x.d.depth ≤ 64)) = true
  rw [decide_eq_true (by omega), Bool.and_true]
  cases x with
  | mark m i =>
    have h : PyData.canLay0 (.str m) = true := h
    simp only [Fact.d, PyData.canLay0, PyData.canLayAll0, Bool.and_true] at h e1 e2 ⊢
    rw [e1, h]
    rfl
  | link c a b =>
    have h : PyData.canLay0 (.str c) = true := h
    simp only [Fact.d, PyData.canLay0, PyData.canLayAll0, Bool.and_true] at h e1 e2 ⊢
    rw [e2, h]
    rfl
end DQ

set_option Elab.async false
set_option linter.all false
set_option maxRecDepth 100000
set_option maxHeartbeats 400000
namespace DQ
open PySem PySem.Spec PyProof.Rows L2
abbrev sClash : Stmt := topS 26
abbrev NC : List Str := ["facts", "taken", "fact", "_", "column", "one", "other", "from_one", "to_other"]
theorem scClash : FnScope NC ["facts"] (defScope sClash) := ⟨rfl, rfl, rfl, by decide +kernel, rfl, by decide +kernel, by decide +kernel⟩
theorem both {Q : VK} {R : V → Prop} {N : Prop} {H3 H4 : Hp} {z : V} (P7 : V → Hp → Prop) (h1 : ∀ v, R v → P7 v H3) (h2 : N → P7 z H4) (h : ∀ v H, P7 v H → Q v H) : (∀ v, R v → Q v H3) ∧ (N → Q z H4) := ⟨fun v r => h _ _ (h1 v r), fun n => h _ _ (h2 n)⟩
theorem isFrom_iff {c : Str} {p : Int} {x : Fact} : isFrom c p x = true ↔ ∃ q, x = .link c p q := by
  cases x with
  | mark _ _ => exact ⟨fun h => absurd h (by simp [isFrom]), fun ⟨q, e⟩ => nomatch e⟩
  | link c' a b =>
    show (decide (c' = c) && decide (a = p)) = true ↔ _
    rw [Bool.and_eq_true, decide_eq_true_iff, decide_eq_true_iff]
    exact ⟨fun ⟨h1, h2⟩ => ⟨b, by rw [h1, h2]⟩, fun ⟨q, e⟩ => by cases e; exact ⟨rfl, rfl⟩⟩
theorem isTo_iff {c : Str} {p : Int} {x : Fact} : isTo c p x = true ↔ ∃ q, x = .link c q p := by
  cases x with
  | mark _ _ => exact ⟨fun h => absurd h (by simp [isTo]), fun ⟨q, e⟩ => nomatch e⟩
  | link c' a b =>
    show (decide (c' = c) && decide (b = p)) = true ↔ _
    rw [Bool.and_eq_true, decide_eq_true_iff, decide_eq_true_iff]
    exact ⟨fun ⟨h1, h2⟩ => ⟨a, by rw [h1, h2]⟩, fun ⟨q, e⟩ => by cases e; exact ⟨rfl, rfl⟩⟩
theorem clash_from {c : Str} {p q r : Int} (h : q ≠ r) : clashes (.link c p q) (.link c p r) = true := by simp [clashes, h]
theorem clash_to {c : Str} {p q r : Int} (h : q ≠ r) : clashes (.link c q p) (.link c r p) = true := by simp [clashes, h]
theorem no_clash {x y : Fact} (h1 : ∀ c p q r, y = .link c p q → x = .link c p r → x = y) (h2 : ∀ c p q r, y = .link c q p → x = .link c r p → x = y) : clashes x y = false := by
  refine Bool.eq_false_iff.mpr fun h => ?_
  cases x with
  | mark _ _ => exact absurd h (by simp [clashes])
  | link c a b =>
    cases y with
    | mark _ _ => exact absurd h (by simp [clashes])
    | link c' a' b' =>
      simp only [clashes, Bool.and_eq_true, Bool.or_eq_true, decide_eq_true_iff, Bool.not_eq_true', decide_eq_false_iff_not] at h
      obtain ⟨rfl, h⟩ := h
      rcases h with ⟨rfl, h⟩ | ⟨rfl, h⟩
      · have z := h1 _ _ _ _ rfl rfl
        cases z
        exact h rfl
      · have z := h2 _ _ _ _ rfl rfl
        cases z
        exact h rfl
/-- what a key's first fact tells of a fact behind it -/
structure Seen (p : Fact → Bool) (fs : List Fact) (x x7 : Fact) : Prop where
  same : x7 = x → ∀ y ∈ fs, p y = true → y = x
  other : x7 ≠ x → x7 ∈ fs ∧ clashes x7 x = true
theorem zip_take_mem {rs : List V} {fs : List Fact} (l : rs.length = fs.length) {i : Nat} {v : V} {x : Fact} (h : (v, x) ∈ (rs.zip fs).take i) : x ∈ fs.take i := by
  have z : x ∈ ((rs.zip fs).take i).map (·.2) := List.mem_map.mpr ⟨_, h, rfl⟩
  rwa [List.map_take, List.map_snd_zip (Nat.le_of_eq l.symm)] at z
theorem zip_take_of {rs : List V} {fs : List Fact} (l : rs.length = fs.length) {i : Nat} {x : Fact} (h : x ∈ fs.take i) : ∃ v, (v, x) ∈ (rs.zip fs).take i := by
  have z : x ∈ ((rs.zip fs).take i).map (·.2) := by rwa [List.map_take, List.map_snd_zip (Nat.le_of_eq l.symm)]
  obtain ⟨⟨v, y⟩, hz, rfl⟩ := List.mem_map.mp z
  exact ⟨v, hz⟩
theorem seen_some {rs : List V} {fs : List Fact} (l : rs.length = fs.length) {i : Nat} {p : Fact → Bool} {x : Fact} {v : V} (hp : ∀ y, p y = true → y ≠ x → clashes y x = true) (nc : NoClash (fs.take i)) (h : firstOf p ((rs.zip fs).take i) = some v) :
    ∃ x7, (v, x7) ∈ (rs.zip fs).take i ∧ Seen p (fs.take i) x x7 := by
  obtain ⟨x7, h1, h2⟩ := firstOf_some h
  have m := zip_take_mem l h1
  refine ⟨x7, h1, fun e y hy py => ?_, fun ne => ⟨m, hp x7 h2 ne⟩⟩
  by_cases z : y = x
  · exact z
  · have := nc y hy x7 m
    rw [e, hp y py z] at this
    exact nomatch this
theorem seen_none {rs : List V} {fs : List Fact} (l : rs.length = fs.length) {i : Nat} {p : Fact → Bool} {x : Fact} (h : firstOf p ((rs.zip fs).take i) = none) : Seen p (fs.take i) x x := by
  refine ⟨fun _ y hy py => ?_, fun ne => absurd rfl ne⟩
  obtain ⟨v, hv⟩ := zip_take_of l hy
  have := firstOf_none h _ hv
  rw [py] at this
  exact nomatch this
theorem next_some {zs : List (V × Fact)} {i : Nat} {z : V × Fact} {p : Fact → Bool} (hz : zs[i]? = some z) (h : p z.2 = true → (firstOf p (zs.take i)).isSome = true) : firstOf p (zs.take (i + 1)) = firstOf p (zs.take i) := by
  rw [take_next hz, firstOf_snoc]
  by_cases e : p z.2 = true
  · obtain ⟨v, hv⟩ := Option.isSome_iff_exists.mp (h e)
    rw [hv]
    rfl
  · rw [if_neg e, Option.or_none]
theorem next_none {zs : List (V × Fact)} {i : Nat} {z : V × Fact} {p : Fact → Bool} (hz : zs[i]? = some z) (e : p z.2 = true) (h : firstOf p (zs.take i) = none) : firstOf p (zs.take (i + 1)) = some z.1 := by
  rw [take_next hz, firstOf_snoc, h, if_pos e]
  rfl
section
variable {P : Program} {w : World} {K : PySem.W.Frag} {mg : Str → Option Value} {base : Heap}
def spClash (K : PySem.W.Frag) : Sp := fun vs H Q _ => ∃ (a : Addr) (rs : List V) (fs : List Fact), vs = [.ref a] ∧ SqL K H a rs ∧ Tups H rs (fs.map Fact.v) ∧ (∀ x ∈ fs, PyData.canLay0 (.str x.word) = true) ∧ fs.length ≤ 10000 ∧
  (∀ H', Same H H' → NoClash fs → Q .non H') ∧ ∀ i y v H', Same H H' → fs[i]? = some y → rs[i]? = some v → NoClash (fs.take i) → (∃ x ∈ fs.take i, clashes x y = true) → Q v H'
theorem ok_clash {f : Addr} {fd : FuncData} (F : Fun K "first_clash" "first_clash" sClash f fd) : FnOk P w K mg base CX0 1 f fd ["facts"] (spClash K) := by
  refine F.ok scClash (fun vs H Q E h => ?_) (fun cdv A outer s H vs Q E hr h => ?_)
  · obtain ⟨_, _, _, rfl, _⟩ := h
    rfl
  obtain ⟨a, rs, fs, rfl, hs, tp, lay, few, q1, q2⟩ := h
  have nd := scClash.nd
  refine ⟨_, (pss_cons (ps_set (i := 1) nd rfl (.inl rfl) pe_dnewT)
    (pss_cons (ps_for PassesOwn.never rfl (pi_list (pv 0)) (pg_name (i := 2) nd rfl (.inl rfl)) (pss_one (ps_if (pt_cmpR op_eq (pe_ix (r := rIxT K) ix_tup (pv 2) pe_int (fun _ _ => rfl)) pe_str (nomark _))
      (pss_cons (ps_asg (pv 2) (pg_tup rfl (pgs_cons (pg_name (i := 3) nd rfl (.inl rfl)) (pgs_cons (pg_name (i := 4) nd rfl (.inl rfl)) (pgs_cons (pg_name (i := 5) nd rfl (.inl rfl)) (pgs_cons (pg_name (i := 6) nd rfl (.inl rfl)) pgs_nil))))))
      (pss_cons (ps_set (i := 7) nd rfl (.inl rfl) (pe_dsetdT (room1 hr) (pv 1) (pe_tup (pa_cons (pv 4) (pa_cons pe_str (pa_cons (pv 5) pa_nil)))) (pv 2) (by constructor <;> rfl)))
      (pss_cons (ps_set (i := 8) nd rfl (.inl rfl) (pe_dsetdT (room1 hr) (pv 1) (pe_tup (pa_cons (pv 4) (pa_cons pe_str (pa_cons (pv 6) pa_nil)))) (pv 2) (by constructor <;> rfl)))
      (pss_one (ps_if (PW.pt (pw_or (pt_cmpR (op_neD hr.units) (pv 7) (pv 2) (nomark _)) (pw_or1 (pt_cmpR (op_neD hr.units) (pv 8) (pv 2) (nomark _))))) (pss_one (ps_ret (pv 2))) pss_nil)))))
      pss_nil)))
    (pss_one (ps_ret pe_non)))), ?_⟩
  intro D nD
  have sD := same_new nD (o := .dT [])
  have eD0 : upd H D (.dT []) D = some (.dT []) := upd_same
  generalize upd H D (.dT []) = H0 at sD eD0 ⊢
  have lr : rs.length = fs.length := by rw [tp.length, List.length_map]
  refine ⟨_, rfl, a, rfl, ⟨_, L2.Same.seq sD hs⟩, for_list (K := K) (a := a) (xs := rs) (fun i σ H' => ∃ (kvs : List (List Key × V)) (y2 y3 y4 y5 y6 y7 y8 : Option V), σ = [some (.ref a), some (.ref D), y2, y3, y4, y5, y6, y7, y8] ∧ Same H H' ∧ H' D = some (.dT kvs) ∧ kvs.length ≤ 2 * i ∧
      (∀ c x, valV kvs (kF c x) = firstOf (isFrom c x) ((rs.zip fs).take i)) ∧ (∀ c x, valV kvs (kT c x) = firstOf (isTo c x) ((rs.zip fs).take i)) ∧ NoClash (fs.take i))
    ⟨[], none, none, none, none, none, none, none, rfl, sD, eD0, Nat.le_refl _, fun _ _ => rfl, fun _ _ => rfl, fun x h => by cases h⟩ (fun i σ H' _ hP => ?_) (fun i v σ H' hx hP => ?_) fun σ H' hP => ?_⟩
  · obtain ⟨_, _, _, _, _, _, _, _, _, sm, _⟩ := hP
    exact L2.Same.seq sm hs
  · obtain ⟨kvs, y2, y3, y4, y5, y6, y7, y8, rfl, sm, eD, lk, hF, hT, nc⟩ := hP
    obtain ⟨t, tv, rfl, ht, htv⟩ := tp.get hx
    obtain ⟨x, hxf, rfl⟩ := at_map htv
    have hi : i < fs.length := (List.getElem?_eq_some_iff.mp hxf).1
    have hz : (rs.zip fs)[i]? = some (.ref t, x) := List.getElem?_zip_eq_some.mpr ⟨hx, hxf⟩
    have lx := lay x (List.mem_of_getElem? hxf)
    have ht' := sm _ _ ht
    have tk : fs.take (i + 1) = fs.take i ++ [x] := take_next hxf
    cases x with
    | mark m it =>
      refine ⟨_, rfl, t, _, 0, .str "mark", rfl, rfl, .inl (.inl ht'), atI_nat (j := 0) rfl, rfl, _, rfl, ?_⟩
      have ne : decide (V.str "mark" = V.str "link") = false := decide_eq_false (fun e => by injection e with e; exact absurd e (by decide))
      rw [ne]
      refine ⟨kvs, _, y3, y4, y5, y6, y7, y8, rfl, sm, eD, by omega, fun c x => ?_, fun c x => ?_, ?_⟩
      · rw [hF, next_some hz (fun e => absurd e (by simp [isFrom]))]
      · rw [hT, next_some hz (fun e => absurd e (by simp [isTo]))]
      · rw [tk]
        exact noClash_snoc nc fun y _ => by cases y <;> rfl
    | link c p q =>
      refine ⟨_, rfl, t, _, 0, .str "link", rfl, rfl, .inl (.inl ht'), atI_nat (j := 0) rfl, rfl, _, rfl, ?_⟩
      rw [decide_eq_true (rfl : V.str "link" = V.str "link")]
      refine ⟨_, rfl, t, _, rfl, .inl (.inl ht'), rfl, .str "link", _, rfl, .str c, _, rfl, .int p, _, rfl, .int q, _, rfl, rfl, ?_⟩
      refine ⟨_, rfl, D, rfl, .inr ⟨kvs, .inl eD⟩, _, rfl, _, rfl, by show 3 ≤ sizeLine; decide, fun T nT => ⟨_, rfl, ?_⟩⟩
      have mT := same_new nT (o := .tup [.str c, .str "from", .int p])
      have eT : upd H' T (.tup [.str c, .str "from", .int p]) T = some (.tup [.str c, .str "from", .int p]) := upd_same
      generalize upd H' T (.tup [.str c, .str "from", .int p]) = H1 at mT eT ⊢
      have eD1 := mT _ _ eD
      have sm1 : L2.Same H H1 := sm.trans mT
      have mem7 : ∀ (v : V) (x7 : Fact), (v, x7) ∈ (rs.zip fs).take i → (∃ t7, v = .ref t7 ∧ H t7 = some (.tup x7.v)) ∧ PyData.canLay0 (.str x7.word) = true := fun v x7 h =>
        ⟨tp.zip _ (List.mem_of_mem_take h), lay _ (List.mem_of_mem_take (zip_take_mem lr h))⟩
      refine ⟨kvs, kF c p, T, eD1, rfl, eT, Nat.lt_of_le_of_lt (show kvs.length ≤ 20000 by omega) (by decide), both (fun v H2 => ∃ (kvs1 : List (List Key × V)) (t7 : Addr) (x7 : Fact), v = .ref t7 ∧ H2 t7 = some (.tup x7.v) ∧ PyData.canLay0 (.str x7.word) = true ∧ Same H H2 ∧ H2 D = some (.dT kvs1) ∧ kvs1.length ≤ 2 * i + 1 ∧ (∀ c x, valV kvs1 (kF c x) = firstOf (isFrom c x) ((rs.zip fs).take (i + 1))) ∧ (∀ c x, valV kvs1 (kT c x) = firstOf (isTo c x) ((rs.zip fs).take i)) ∧ Seen (isFrom c p) (fs.take i) (.link c p q) x7) (fun v hv => ?_) (fun hn => ?_) fun v7 H2 h7 => ?_⟩
      · have hv' := hv
        rw [hF] at hv'
        obtain ⟨x7, hm, seen⟩ := seen_some (x := .link c p q) lr (fun y py ne => by
          obtain ⟨r, rfl⟩ := isFrom_iff.mp py
          exact clash_from fun e => ne (by rw [e])) nc hv'
        obtain ⟨⟨t7, rfl, e7⟩, l7⟩ := mem7 v x7 hm
        refine ⟨kvs, t7, x7, rfl, sm1 _ _ e7, l7, sm1, eD1, by omega, fun c' p' => ?_, hT, seen⟩
        rw [hF, next_some hz fun e => ?_]
        obtain ⟨r, e⟩ := isFrom_iff.mp e
        cases e
        rw [hv']
        rfl
      · have hn' := hn
        rw [hF] at hn'
        refine ⟨putK kvs (kF c p) (.ref t), t, .link c p q, rfl, same_upd sm1 nD _ _ ht, lx, same_upd sm1 nD, upd_same, by have := length_putK kvs (kF c p) (.ref t); omega, fun c' p' => ?_, fun c' p' => ?_, seen_none lr hn'⟩
        · rw [valV_put]
          by_cases e : kF c' p' = kF c p
          · rw [if_pos e]
            obtain ⟨rfl, rfl⟩ := kF_inj.mp e
            exact (next_none hz (isFrom_iff.mpr ⟨q, rfl⟩) hn').symm
          · rw [if_neg e, hF, next_some hz fun k => ?_]
            obtain ⟨r, k⟩ := isFrom_iff.mp k
            cases k
            exact absurd rfl e
        · rw [valV_put, if_neg (fun e => kFT e.symm), hT]
      obtain ⟨kvs1, t7, x7, rfl, e7, l7, sm2, eD2, lk1, hF1, hT1, seen7⟩ := h7
      refine ⟨_, rfl, D, rfl, .inr ⟨kvs1, .inl eD2⟩, _, rfl, _, rfl, by show 3 ≤ sizeLine; decide, fun T2 nT2 => ⟨_, rfl, ?_⟩⟩
      have mT2 := same_new nT2 (o := .tup [.str c, .str "to", .int q])
      have eT2 : upd H2 T2 (.tup [.str c, .str "to", .int q]) T2 = some (.tup [.str c, .str "to", .int q]) := upd_same
      generalize upd H2 T2 (.tup [.str c, .str "to", .int q]) = H3 at mT2 eT2 ⊢
      have eD3 := mT2 _ _ eD2
      have e73 := mT2 _ _ e7
      have sm3 : L2.Same H H3 := sm2.trans mT2
      refine ⟨kvs1, kT c q, T2, eD3, rfl, eT2, Nat.lt_of_le_of_lt (show kvs1.length ≤ 20001 by omega) (by decide), both (fun v H2 => H2 t7 = some (.tup x7.v) ∧ ∃ (kvs1 : List (List Key × V)) (t8 : Addr) (x8 : Fact), v = .ref t8 ∧ H2 t8 = some (.tup x8.v) ∧ PyData.canLay0 (.str x8.word) = true ∧ Same H H2 ∧ H2 D = some (.dT kvs1) ∧ kvs1.length ≤ 2 * i + 2 ∧ (∀ c x, valV kvs1 (kF c x) = firstOf (isFrom c x) ((rs.zip fs).take (i + 1))) ∧ (∀ c x, valV kvs1 (kT c x) = firstOf (isTo c x) ((rs.zip fs).take (i + 1))) ∧ Seen (isTo c q) (fs.take i) (.link c p q) x8) (fun v hv => ?_) (fun hn => ?_) fun v8 H4 h8 => ?_⟩
      · have hv' := hv
        rw [hT1] at hv'
        obtain ⟨x8, hm, seen⟩ := seen_some (x := .link c p q) lr (fun y py ne => by
          obtain ⟨r, rfl⟩ := isTo_iff.mp py
          exact clash_to fun e => ne (by rw [e])) nc hv'
        obtain ⟨⟨t8, rfl, e8⟩, l8⟩ := mem7 v x8 hm
        refine ⟨e73, kvs1, t8, x8, rfl, sm3 _ _ e8, l8, sm3, eD3, by omega, hF1, fun c' p' => ?_, seen⟩
        rw [hT1, next_some hz fun e => ?_]
        obtain ⟨r, e⟩ := isTo_iff.mp e
        cases e
        rw [hv']
        rfl
      · have hn' := hn
        rw [hT1] at hn'
        have neD : t7 ≠ D := fun e => by
          rw [e, eD3] at e73
          exact nomatch e73
        refine ⟨by rw [upd_ne neD]; exact e73, putK kvs1 (kT c q) (.ref t), t, .link c p q, rfl, same_upd sm3 nD _ _ ht, lx, same_upd sm3 nD, upd_same, by have := length_putK kvs1 (kT c q) (.ref t); omega, fun c' p' => ?_, fun c' p' => ?_, seen_none lr hn'⟩
        · rw [valV_put, if_neg kFT, hF1]
        · rw [valV_put]
          by_cases e : kT c' p' = kT c q
          · rw [if_pos e]
            obtain ⟨rfl, rfl⟩ := kT_inj.mp e
            exact (next_none hz (isTo_iff.mpr ⟨p, rfl⟩) hn').symm
          · rw [if_neg e, hT1, next_some hz fun k => ?_]
            obtain ⟨r, k⟩ := isTo_iff.mp k
            cases k
            exact absurd rfl e
      obtain ⟨e74, kvs2, t8, x8, rfl, e8, l8, sm4, eD4, lk2, hF2, hT2, seen8⟩ := h8
      have ht4 := sm4 _ _ ht
      have shx := fact_shaped (.link c p q) lx
      refine ⟨_, rfl, _, rfl, x7.d, (Fact.link c p q).d, fact_dp e74, fact_dp ht4, fact_shaped _ l7, shx, _, rfl, ite2 (fun n1 => ?_) fun n1 => ⟨_, rfl, _, rfl, x8.d, (Fact.link c p q).d, fact_dp e8, fact_dp ht4, fact_shaped _ l8, shx, _, rfl, ite2 (fun n2 => ?_) fun n2 => ?_⟩⟩
      · have ne : x7 ≠ .link c p q := fun e => by
          rw [(fact_eqv _ _).mpr e] at n1
          exact absurd n1 (by decide)
        exact ⟨_, rfl, q2 i _ _ H4 sm4 hxf hx nc ⟨x7, seen7.other ne⟩⟩
      · have ne : x8 ≠ .link c p q := fun e => by
          rw [(fact_eqv _ _).mpr e] at n2
          exact absurd n2 (by decide)
        exact ⟨_, rfl, q2 i _ _ H4 sm4 hxf hx nc ⟨x8, seen8.other ne⟩⟩
      · have yes : ∀ y : Fact, ¬ (!PyData.eqv y.d (Fact.link c p q).d) = true → y = .link c p q := fun y h => (fact_eqv _ _).mp (by
          cases e : PyData.eqv y.d (Fact.link c p q).d with
          | true => rfl
          | false => rw [e] at h; exact absurd rfl h)
        have s7 := seen7.same (yes _ n1)
        have s8 := seen8.same (yes _ n2)
        refine ⟨kvs2, _, _, _, _, _, _, _, rfl, sm4, eD4, by omega, hF2, hT2, ?_⟩
        rw [tk]
        refine noClash_snoc nc fun y hy => no_clash (fun c' p' q' r' k1 k2 => ?_) fun c' p' q' r' k1 k2 => ?_
        · cases k1
          exact s7 y hy (isFrom_iff.mpr ⟨_, k2⟩)
        · cases k1
          exact s8 y hy (isTo_iff.mpr ⟨_, k2⟩)
  · obtain ⟨kvs, y2, y3, y4, y5, y6, y7, y8, rfl, sm, eD, lk, hF, hT, nc⟩ := hP
    rw [lr, List.take_length] at nc
    exact q1 H' sm nc
end
end DQ

set_option Elab.async false
set_option linter.all false
set_option maxRecDepth 100000
set_option maxHeartbeats 400000
namespace DQ
open PySem PySem.Spec PyProof.Rows L2
abbrev sFacts : Stmt := topS 27
abbrev NFs : List Str := ["marks", "columns", "items", "value", "known", "item", "fact"]
theorem scFacts : FnScope NFs ["marks", "columns", "items", "value"] (defScope sFacts) := ⟨rfl, rfl, rfl, by decide +kernel, rfl, by decide +kernel, by decide +kernel⟩
/-- {item: True for item in items} -/
theorem dc_known {K : PySem.W.Frag} {a : Addr} {ns : List Int} {i : Nat} {vs : List Nat} {σ : L2.St} {H1 : Hp} {D : Addr} {Qd : Hp → Prop} {te : TE} (hs : SqL K H1 a (ns.map V.int)) (few : ns.length ≤ 10000) (nD : H1 D = none)
    (hw : ∀ (x : V), wipe ((wipe σ vs).set i (some x)) vs = wipe σ vs) (ht : ∀ (x : V) H (Q : V → Hp → Prop), Q x H → te ((wipe σ vs).set i (some x)) H Q) (hd : ∀ H, Same H1 H → KnownAt H D ns → Qd H) :
    ∃ W : Nat → Nat → Hp → Prop, (∃ m, W 0 m (upd H1 D (.dK []))) ∧ ∀ k m H, W k m H →
      ((Itl K a).stop k H ∧ Qd H) ∨ ((Itl K a).go k H ∧ ∃ Nx : Hp → Prop, (∀ H', Nx H' → ∃ m', m' < m ∧ W (k + 1) m' H') ∧ ∀ x H', (Itl K a).yld k H x H' → gName i x (wipe σ vs) H' fun σ2 H2 => wipe σ2 vs = wipe σ vs ∧ tYes σ2 H2 fun b H3 =>
        if b = true then te σ2 H3 fun y H4 => tC (.bl true) σ2 H4 fun z H5 => ∃ kvs k, y = kV k ∧ H5 D = some (.dK kvs) ∧ kvs.length < sizeLine ∧ Nx (upd H5 D (.dK (putK kvs k z))) else Nx H3) := by
  refine ⟨fun k m H => m = ns.length - k ∧ k ≤ ns.length ∧ Same H1 H ∧ ∃ kvs, H D = some (.dK kvs) ∧ kvs.length ≤ k ∧ ∀ j : Int, (valV kvs (.inl j)).isSome = decide (j ∈ ns.take k), ⟨ns.length, by simp, Nat.zero_le _, same_new nD, [], upd_same, Nat.le_refl _, fun j => by simp [valV]⟩, ?_⟩
  rintro k m H ⟨rfl, hk, sm, kvs, eD, lk, hv⟩
  have q := L2.Same.seq sm hs
  by_cases hlt : k < ns.length
  · refine .inr ⟨⟨_, _, q, by rw [List.getElem?_eq_getElem (by rw [List.length_map]; exact hlt)]⟩, fun H' => k + 1 ≤ ns.length ∧ Same H1 H' ∧ ∃ kvs, H' D = some (.dK kvs) ∧ kvs.length ≤ k + 1 ∧ ∀ j : Int, (valV kvs (.inl j)).isSome = decide (j ∈ ns.take (k + 1)), fun H' p => ⟨ns.length - (k + 1), by omega, rfl, p⟩, fun x H' y => ?_⟩
    obtain ⟨e, y⟩ := y
    subst e
    obtain ⟨n, hn, rfl⟩ := at_map (y _ q)
    refine ⟨hw _, ?_⟩
    refine ht _ _ _ ⟨kvs, .inl n, rfl, eD, Nat.lt_of_le_of_lt (show kvs.length ≤ 10000 by omega) (by decide), by omega, same_upd sm nD, _, upd_same, by have := length_putK kvs (.inl n) (.bl true); omega, fun j => ?_⟩
    rw [valV_put, take_next hn]
    by_cases e : j = n
    · rw [e, if_pos rfl]
      simp
    · rw [if_neg (fun z => e (by injection z)), hv]
      exact decide_eq_decide.mpr ⟨fun h => List.mem_append_left _ h, fun h => by
        rcases List.mem_append.mp h with h | h
        · exact h
        · exact absurd (List.mem_singleton.mp h) e⟩
  · have e : k = ns.length := by omega
    subst e
    refine .inl ⟨⟨_, q, by rw [List.length_map]; exact Nat.le_refl _⟩, hd H sm ⟨kvs, eD, fun j => ?_⟩⟩
    rw [hv, List.take_length]
def factD : PyData → Option Fact
  | .tuple [.str k, .str m, .int i] => if k = "mark" then some (.mark m i) else none
  | .tuple [.str k, .str c, .int a, .int b] => if k = "link" then some (.link c a b) else none
  | _ => none
def factsD (ds : List PyData) : List Fact := ds.filterMap factD
def noClashB (fs : List Fact) : Bool := fs.all fun x => fs.all fun y => !clashes x y
theorem noClashB_iff {fs : List Fact} : noClashB fs = true ↔ NoClash fs := by
  unfold noClashB NoClash
  simp only [List.all_eq_true, Bool.not_eq_true']
def areFactsD (ms cs : List Str) (ns : List Int) : PyData → Bool
  | .list ds => ds.all (isFactD ms cs ns) && (ascB ds && noClashB (factsD ds))
  | _ => false
theorem eqv_str {d : PyData} {s : Str} (h : PyData.eqv d (.str s) = true) : d = .str s := by
  cases d with
  | str x =>
    have e : (x == s) = true := by simpa only [PyData.eqv] using h
    rw [str_beq.mp e]
  | _ => exact absurd h (by simp [PyData.eqv])
theorem str_eqv {d : PyData} {s : Str} (h : PyData.eqv (.str s) d = true) : d = .str s := by
  cases d with
  | str x =>
    have e : (s == x) = true := by simpa only [PyData.eqv] using h
    rw [str_beq.mp e]
  | _ => exact absurd h (by simp [PyData.eqv])
theorem hasD_str {ms : List Str} {d : PyData} (h : hasD ms d = true) : ∃ m ∈ ms, d = .str m := by
  obtain ⟨z, hz, e⟩ := List.any_eq_true.mp h
  obtain ⟨m, hm, rfl⟩ := List.mem_map.mp hz
  exact ⟨m, hm, str_eqv e⟩
theorem okItem_int {ns : List Int} {d : PyData} (h : okItem ns d = true) : ∃ i ∈ ns, d = .int i := by
  unfold okItem at h
  rw [Bool.and_eq_true] at h
  cases d with
  | int i => exact ⟨i, of_decide_eq_true h.2, rfl⟩
  | _ => exact absurd h.2 (by simp)
theorem isFact_fact {ms cs : List Str} {ns : List Int} {d : PyData} (h : isFactD ms cs ns d = true) : ∃ x : Fact, d = x.d ∧ factD d = some x ∧ (x.word ∈ ms ∨ x.word ∈ cs) ∧ x.of ⟨ms, cs, ns, []⟩ := by
  cases d with
  | tuple ds =>
    match ds, h with
    | [], h => exact nomatch h
    | [_], h => exact nomatch h
    | a :: b :: r, h =>
      have h : (decide (r.length = 1 ∨ r.length = 2) && ((if r.length = 1 then PyData.eqv a (.str "mark") && hasD ms b else PyData.eqv a (.str "link") && hasD cs b) && r.all (okItem ns))) = true := h
      rw [Bool.and_eq_true, Bool.and_eq_true] at h
      obtain ⟨l, h1, h2⟩ := h
      have l := of_decide_eq_true l
      match r, l, h1, h2 with
      | [c], _, h1, h2 =>
        rw [if_pos (show [c].length = 1 from rfl), Bool.and_eq_true] at h1
        obtain ⟨m, hm, rfl⟩ := hasD_str h1.2
        rw [List.all_cons, Bool.and_eq_true] at h2
        obtain ⟨i, hi, rfl⟩ := okItem_int h2.1
        have ea := eqv_str h1.1
        subst ea
        exact ⟨.mark m i, rfl, (if_pos rfl : (if ("mark" : Str) = "mark" then some (Fact.mark m i) else none) = _), .inl hm, hm, hi⟩
      | [c, e], _, h1, h2 =>
        rw [if_neg (by simp), Bool.and_eq_true] at h1
        obtain ⟨m, hm, rfl⟩ := hasD_str h1.2
        rw [List.all_cons, List.all_cons, Bool.and_eq_true, Bool.and_eq_true] at h2
        obtain ⟨i, hi, rfl⟩ := okItem_int h2.1
        obtain ⟨j, hj, rfl⟩ := okItem_int h2.2.1
        have ea := eqv_str h1.1
        subst ea
        exact ⟨.link m i j, rfl, (if_pos rfl : (if ("link" : Str) = "link" then some (Fact.link m i j) else none) = _), .inr hm, hm, hi, hj⟩
      | [], l, _, _ => exact absurd l (by simp)
      | _ :: _ :: _ :: _, l, _, _ => exact absurd l (by simp)
  | _ => exact absurd h (by simp [isFactD])
theorem all_facts {ms cs : List Str} {ns : List Int} : ∀ {ds : List PyData}, ds.all (isFactD ms cs ns) = true → ds = (factsD ds).map Fact.d ∧ ∀ x ∈ factsD ds, (x.word ∈ ms ∨ x.word ∈ cs) ∧ x.of ⟨ms, cs, ns, []⟩
  | [], _ => ⟨rfl, fun x h => by cases h⟩
  | d :: ds, h => by
    rw [List.all_cons, Bool.and_eq_true] at h
    obtain ⟨x, e1, e2, e3, e4⟩ := isFact_fact h.1
    obtain ⟨i1, i2⟩ := all_facts h.2
    unfold factsD at i1 i2 ⊢
    rw [List.filterMap_cons_some e2]
    refine ⟨by rw [List.map_cons, ← i1, ← e1], fun y hy => ?_⟩
    rcases List.mem_cons.mp hy with rfl | hy
    · exact ⟨e3, e4⟩
    · exact i2 y hy
end DQ

set_option Elab.async false
set_option linter.all false
set_option maxRecDepth 100000
set_option maxHeartbeats 400000
namespace DQ
open PySem PySem.Spec PyProof.Rows L2
section
variable {P : Program} {w : World} {K : PySem.W.Frag} {mg : Str → Option Value} {base : Heap}
/-- a value that stands for data; a list's items that are facts are tuples laid here -/
def FactsAt (K : PySem.W.Frag) (H : Hp) (v : V) (d : PyData) : Prop :=
  (∃ (a : Addr) (xs : List V) (ds : List PyData), v = .ref a ∧ d = .list ds ∧ SqL K H a xs ∧ DpAll K H xs ds ∧ ds.length ≤ 10000 ∧ (∀ e ∈ ds, Parts e) ∧ ∀ fs : List Fact, ds = fs.map Fact.d → Tups H xs (fs.map Fact.v)) ∨ (Dp K H v d ∧ isT "list" d = false)
def spFacts (K : PySem.W.Frag) : Sp := fun vs H Q _ => ∃ (ma ca ia : Addr) (ms cs : List Str) (ns : List Int) (v : V) (d : PyData), vs = [.ref ma, .ref ca, .ref ia, v] ∧ SqL K H ma (ms.map V.str) ∧ SqL K H ca (cs.map V.str) ∧ SeqAt.shaped (.list (ms.map PyData.str)) = true ∧ SeqAt.shaped (.list (cs.map PyData.str)) = true ∧
  SqL K H ia (ns.map V.int) ∧ ns.length ≤ 10000 ∧ FactsAt K H v d ∧ (∀ x, x ∈ ms ∨ x ∈ cs → PyData.canLay0 (.str x) = true) ∧ ∀ H', Same H H' → Q (.bl (areFactsD ms cs ns d)) H'
theorem ok_facts {f fF fA fC : Addr} {fd fdF fdA fdC : FuncData} (F : Fun K "are_facts" "are_facts" sFacts f fd)
    (GF : FnOk P w K mg base CX0 4 fF fdF ["marks", "columns", "known", "value"] (spIsFact K)) (bF : Binds K fdF ["marks", "columns", "known", "value"] []) (kF' : PySem.W.keepIn K (.ref fF) = true) (mF : mg "is_fact" = some (.ref fF))
    (GA : FnOk P w K mg base CX0 1 fA fdA ["rows"] (spAscending K)) (bA : Binds K fdA ["rows"] []) (kA : PySem.W.keepIn K (.ref fA) = true) (mA : mg "is_ascending" = some (.ref fA))
    (GC : FnOk P w K mg base CX0 1 fC fdC ["facts"] (spClash K)) (bC : Binds K fdC ["facts"] []) (kC : PySem.W.keepIn K (.ref fC) = true) (mC : mg "first_clash" = some (.ref fC))
    (mI : mg "isinstance" = none) (mList : mg "list" = none) (mAll : mg "all" = none) : FnOk P w K mg base CX0 5 f fd ["marks", "columns", "items", "value"] (spFacts K) := by
  refine F.ok scFacts (fun vs H Q E h => ?_) (fun cdv A outer s H vs Q E hr h => ?_)
  · obtain ⟨_, _, _, _, _, _, _, _, rfl, _⟩ := h
    rfl
  obtain ⟨ma, ca, ia, ms, cs, ns, v, d, rfl, hma, hca, lm, lc, hia, few, hv, lay, q⟩ := h
  have nd := scFacts.nd
  refine ⟨_, (pss_cons (ps_if (pt_not (pt_val (pe_callB call_isi (by rfl) mI (by decide +kernel) (pa_cons (pv 3) (pa_cons (pe_bltn (v := .ty "list") (by rfl) mList (by decide +kernel) rfl) pa_nil))))) (pss_one (ps_ret pe_bl)) pss_nil)
    (pss_cons (ps_set (i := 4) nd rfl (.inr rfl) (pe_dc (own := [("item", 5)]) (g := gName 5) (tt := tYes) rfl nd (pi_list (pv 2)) (blkOk_by (own := [("item", 5)]) (N := NFs) (sc := defScope sFacts) (by decide +kernel)) (fun _ _ _ _ _ => pg_name (i := 5) nd rfl (Or.inl rfl)) (fun _ _ _ _ _ => pts_nil) (fun _ _ _ _ _ => pv 5) (fun _ _ _ _ _ => pe_bl)))
    (pss_cons (ps_if (pt_not (pt_val (pe_callB (cr_all rfl) (by rfl) mAll (by decide +kernel) (pa_cons (pe_lc (own := [("fact", 6)]) (g := gName 6) (tt := tYes) rfl nd (pi_list (pv 3)) (blkOk_by (own := [("fact", 6)]) (N := NFs) (sc := defScope sFacts) (by decide +kernel)) (fun _ _ _ _ _ => pg_name (i := 6) nd rfl (Or.inl rfl)) (fun _ _ _ _ _ => pts_nil)
      (fun _ _ _ _ _ => pe_call GF (hr.mono (by decide)) rfl mF kF' bF .nil pass0 (pa_cons (pv 0) (pa_cons (pv 1) (pa_cons (pv 4) (pa_cons (pv 6) pa_nil)))))) pa_nil)))) (pss_one (ps_ret pe_bl)) pss_nil)
    (pss_one (ps_ret (pe_and (pe_call GA (hr.mono (by decide)) rfl mA kA bA .nil pass0 (pa_cons (pv 3) pa_nil)) (pe_one (pe_cmpR op_isN (pe_call GC (hr.mono (by decide)) rfl mC kC bC .nil pass0 (pa_cons (pv 3) pa_nil)) pe_non (nomark _))))))))), ?_⟩
  rcases hv with ⟨a, xs, ds, rfl, rfl, hs, ha, fewd, parts, tups⟩ | ⟨hd, no⟩
  · have len := dpAll_len ha
    have ty := dp_ty (Dp.lst hs ha)
    refine ⟨_, rfl, .ref a, .ty "list", _, _, _, rfl, .ty "list", ty, kit_data (by simp) _, _, rfl, ?_⟩
    have il : isT "list" (.list ds) = true := by simp only [isT, tyN]; decide
    rw [il]
    refine ⟨_, rfl, ia, rfl, ⟨_, hia⟩, fun D nD => dc_known hia few nD (fun _ => rfl) (fun _ _ _ q => ⟨_, rfl, q⟩) fun H1 s1 kn => ?_⟩
    refine ⟨_, rfl, a, rfl, ⟨_, L2.Same.seq s1 hs⟩, fun D2 nD2 => lc_bools (walk_list (K := K) (a := a) (xs := xs)) (ds.map (isFactD ms cs ns)) (by rw [List.length_map, len]) (Nat.lt_of_le_of_lt (show xs.length ≤ 10000 by rw [len]; exact fewd) (by decide)) nD2 (fun _ s2 => L2.Same.seq (s1.trans s2) hs) (fun _ _ _ _ y => by rw [y.1]; exact fun _ _ h => h)
        (fun i v H2 H3 b hi hb s2 y R hR => ?_) (fun H2 s2 e2 => ?_) (fun _ _ _ _ _ m h => m _ _ h)⟩
    · obtain ⟨rfl, hv⟩ := y
      obtain ⟨e, he, rfl⟩ := all_at hb
      have s12 : L2.Same H H3 := s1.trans s2
      refine ⟨rfl, _, rfl, _, rfl, _, rfl, _, rfl, ma, ca, D, ms, cs, ns, v, e, rfl, L2.Same.seq s12 hma, L2.Same.seq s12 hca, lm, lc, ?_, dp_same s12 _ _ (dpAll_get ha hv he), parts e (List.mem_of_getElem? he), fun H' sm => hR H' sm⟩
      obtain ⟨kvs, ek, iff⟩ := kn
      exact ⟨kvs, s2 _ _ ek, iff⟩
    have s12 : L2.Same H H2 := s1.trans s2
    have yes : areFactsD ms cs ns (.list ds) = (ds.all (isFactD ms cs ns) && (ascB ds && noClashB (factsD ds))) := rfl
    rw [yes] at q
    refine ⟨D2, _, rfl, SqL.of e2, _, rfl, ?_⟩
    rw [List.all_map]
    refine ite2 (fun c1 => ?_) fun c1 => ?_
    · have c1 : (!ds.all (isFactD ms cs ns)) = true := c1
      have q := q H2 s12
      rw [show ds.all (isFactD ms cs ns) = false by simpa using c1, Bool.false_and] at q
      exact q
    have c1 : ds.all (isFactD ms cs ns) = true := by
      have c1 : ¬ (!ds.all (isFactD ms cs ns)) = true := c1
      simpa using c1
    rw [c1, Bool.true_and] at q
    obtain ⟨ed, hof⟩ := all_facts c1
    generalize factsD ds = fs at ed hof q
    have tp := tups fs ed
    have lfs : fs.length = ds.length := by rw [ed, List.length_map]
    refine ⟨_, rfl, a, xs, ds, rfl, L2.Same.seq s12 hs, dpAll_same s12 _ _ ha, ?_, ?_, fewd, fun H3 s3 => ⟨_, rfl, ite2 (fun c2 => ?_) fun c2 => ?_⟩⟩
    · intro d1 h1 d2 h2
      rw [ed] at h1 h2
      obtain ⟨x, _, rfl⟩ := List.mem_map.mp h1
      obtain ⟨y, _, rfl⟩ := List.mem_map.mp h2
      exact fact_alike x y
    · intro d1 h1
      rw [ed] at h1
      obtain ⟨x, _, rfl⟩ := List.mem_map.mp h1
      exact ⟨(fun e => by cases x <;> exact nomatch e), fact_depth x⟩
    · have s13 : L2.Same H H3 := s12.trans s3
      refine ⟨_, rfl, a, xs, fs, rfl, L2.Same.seq s13 hs, tp.keep (tk_same s13), fun x hx => lay _ (hof x hx).1, by omega, fun H4 s4 nc => ⟨rfl, ?_⟩, fun i y v H4 s4 hy hv _ cl => ⟨rfl, ?_⟩⟩
      · have q := q H4 (s13.trans s4)
        rw [c2, Bool.true_and, noClashB_iff.mpr nc] at q
        exact q
      · obtain ⟨x, hx, cl⟩ := cl
        have q := q H4 (s13.trans s4)
        obtain ⟨t, tt, rfl, _⟩ := tp.get hv
        have nb : noClashB fs = false := Bool.eq_false_iff.mpr fun e => by
          have := noClashB_iff.mp e x (List.mem_of_mem_take hx) y (List.mem_of_getElem? hy)
          rw [cl] at this
          exact nomatch this
        rw [c2, Bool.true_and, nb] at q
        exact q
    · have q := q H3 (s12.trans s3)
      rw [Bool.eq_false_iff.mpr c2, Bool.false_and] at q
      exact q
  · have ty := dp_ty hd
    refine ⟨_, rfl, v, .ty "list", _, _, _, rfl, .ty "list", ty, kit_data (by simp) _, _, rfl, ?_⟩
    rw [no]
    have e : areFactsD ms cs ns d = false := by
      cases d with
      | list ds => exact absurd no (by simp only [isT, tyN]; decide)
      | _ => rfl
    have q := q H fun _ _ h => h
    rw [e] at q
    exact q
end
end DQ

set_option Elab.async false
set_option linter.all false
set_option maxRecDepth 100000
set_option maxHeartbeats 400000
namespace DQ
open PySem PySem.Spec PyProof.Rows L2
abbrev sStoreP : Stmt := topS 28
abbrev NSt : List Str := ["value", "_", "marks", "columns", "items", "facts"]
theorem scStoreP : FnScope NSt ["value"] (defScope sStoreP) := ⟨rfl, rfl, rfl, by decide +kernel, rfl, by decide +kernel, by decide +kernel⟩
def listD : PyData → List PyData
  | .list ds => ds
  | _ => []
def intD : PyData → Option Int
  | .int i => some i
  | _ => none
def intsD (ds : List PyData) : List Int := ds.filterMap intD
theorem ints_all {K : PySem.W.Frag} {H : Hp} : ∀ {vs : List V} {ds : List PyData}, DpAll K H vs ds → ds.all numD = true → vs = (intsD ds).map V.int ∧ (intsD ds).length = ds.length ∧ ds = (intsD ds).map PyData.int
  | _, _, .nil, _ => ⟨rfl, rfl, rfl⟩
  | v :: vs, d :: ds, .cons a t, h => by
    rw [List.all_cons, Bool.and_eq_true] at h
    obtain ⟨h1, h2⟩ := h
    obtain ⟨e, l, m⟩ := ints_all t h2
    cases a with
    | int x =>
      unfold intsD at e l m ⊢
      rw [List.filterMap_cons_some (f := intD) (a := .int x) (b := x) rfl, List.map_cons, List.map_cons, ← e, ← m, List.length_cons, l]
      exact ⟨rfl, rfl, rfl⟩
    | _ => cases h1
theorem texts_data : ∀ {ds : List PyData}, ds.all wordD = true → ds = (texts ds).map PyData.str
  | [], _ => rfl
  | d :: ds, h => by
    rw [List.all_cons, Bool.and_eq_true] at h
    have m := texts_data h.2
    cases d with
    | str x =>
      unfold texts at m ⊢
      rw [List.filterMap_cons_some (f := textD) (a := .str x) (b := x) rfl, List.map_cons, ← m]
    | _ => exact nomatch h.1
/-- a store, as data -/
def isStoreD (s m c i f : PyData) : Bool :=
  PyData.eqv s (.str "store") && ((wordsD 4 m && columnsD (texts (listD m)) c) && ((numsD i && decide ((listD i).length ≤ 2000) && ascB (listD i)) && areFactsD (texts (listD m)) (texts (listD c)) (intsD (listD i)) f))
theorem wordsD_list {m : Nat} {d : PyData} (h : wordsD m d = true) : ∃ ds, d = .list ds ∧ ds.all wordD = true := by
  cases d with
  | list ds =>
    have h : (decide (ds.length ≤ m) && (ds.all wordD && decide (differ (texts ds) ds.length = ds.length))) = true := h
    rw [Bool.and_eq_true, Bool.and_eq_true] at h
    exact ⟨ds, rfl, h.2.1⟩
  | _ => exact absurd h (by simp [wordsD])
/-- the items of a list can be laid -/
def Lays (d : PyData) : Prop := ∀ ds, d = .list ds → ∀ e ∈ ds, e.canLay0 = true
theorem shaped_texts {ds : List PyData} (h : ds.all wordD = true) (l : ∀ e ∈ ds, e.canLay0 = true) : SeqAt.shaped (.list ((texts ds).map PyData.str)) = true := by
  rw [← texts_data h]
  have c : ∀ {xs : List PyData}, xs.all wordD = true → (∀ e ∈ xs, e.canLay0 = true) → PyData.canLayAll0 xs = true ∧ PyData.depthAll xs = 0 := fun {xs} => by
    induction xs with
    | nil => exact fun _ _ => ⟨rfl, rfl⟩
    | cons x xs ih =>
      intro h l
      rw [List.all_cons, Bool.and_eq_true] at h
      obtain ⟨a, b⟩ := ih h.2 fun e he => l e (List.mem_cons_of_mem _ he)
      have lx := l x (List.mem_cons_self ..)
      cases x with
      | str z =>
        refine ⟨?_, ?_⟩
        · simp only [PyData.canLayAll0]
          rw [lx, a]
          rfl
        · simp only [PyData.depthAll, PyData.depth]
          rw [b]
          rfl
      | _ => exact nomatch h.1
  obtain ⟨a, b⟩ := c h l
  have dep : (PyData.list ds).depth ≤ 64 := by
    simp only [PyData.depth]
    rw [b]
    decide
  show (PyData.canLay0 (.list ds) && decide (PyData.depth (.list ds) ≤ 64)) = true
  rw [decide_eq_true dep, Bool.and_true]
  simp only [PyData.canLay0]
  exact a
theorem factsAt_same {K : PySem.W.Frag} {H H' : Hp} {v : V} {d : PyData} (s : Same H H') (h : FactsAt K H v d) : FactsAt K H' v d := by
  rcases h with ⟨a, xs, ds, e1, e2, hs, ha, few, p, t⟩ | ⟨h, n⟩
  · exact .inl ⟨a, xs, ds, e1, e2, L2.Same.seq s hs, dpAll_same s _ _ ha, few, p, fun fs e => (t fs e).keep (tk_same s)⟩
  · exact .inr ⟨dp_same s _ _ h, n⟩
theorem ne_int {n k : Nat} (h : n ≠ k) : decide (V.int (n : Int) = V.int (k : Int)) = false := decide_eq_false fun e => h (by injection e with e; omega)
section
variable {P : Program} {w : World} {K : PySem.W.Frag} {mg : Str → Option Value} {base : Heap}
def spIsStore (K : PySem.W.Frag) : Sp := fun vs H Q _ => ∃ v : V, vs = [v] ∧
  ((∃ (d : PyData), Dp K H v d ∧ (∀ ds, d = .tuple ds → ds.length ≠ 5) ∧ ∀ H', Same H H' → Q (.bl false) H') ∨
   ∃ (t : Addr) (s m c i f : V) (ds dm dc di df : PyData), v = .ref t ∧ SqT K H t [s, m, c, i, f] ∧ Dp K H s ds ∧ SeqAt.shaped ds = true ∧ Dp K H m dm ∧ Fits dm ∧ Lays dm ∧ Dp K H c dc ∧ Fits dc ∧ Lays dc ∧ Dp K H i di ∧ Fits di ∧ FactsAt K H f df ∧
     ∀ H', Same H H' → Q (.bl (isStoreD ds dm dc di df)) H')
theorem ok_isStore {f f1 f2 f3 f4 f5 : Addr} {fd d1 d2 d3 d4 d5 : FuncData} {t1 : Tok} (F : Fun K "is_store" "is_store" sStoreP f fd)
    (G1 : FnOk P w K mg base CX0 4 f1 d1 ["value"] (spMarks K 4)) (b1 : Binds K d1 ["value"] []) (k1 : PySem.W.keepIn K (.ref f1) = true) (m1 : mg "are_marks" = some (.ref f1))
    (G2 : FnOk P w K mg base CX0 4 f2 d2 ["marks", "value"] (spColumns K)) (b2 : Binds K d2 ["marks", "value"] []) (k2 : PySem.W.keepIn K (.ref f2) = true) (m2 : mg "are_columns" = some (.ref f2))
    (G3 : FnOk P w K mg base CX0 4 f3 d3 ["value"] (spNumbers K)) (b3 : Binds K d3 ["value"] []) (k3 : PySem.W.keepIn K (.ref f3) = true) (m3 : mg "are_numbers" = some (.ref f3))
    (G4 : FnOk P w K mg base CX0 1 f4 d4 ["rows"] (spAscending K)) (b4 : Binds K d4 ["rows"] []) (k4 : PySem.W.keepIn K (.ref f4) = true) (m4 : mg "is_ascending" = some (.ref f4))
    (G5 : FnOk P w K mg base CX0 5 f5 d5 ["marks", "columns", "items", "value"] (spFacts K)) (b5 : Binds K d5 ["marks", "columns", "items", "value"] []) (k5 : PySem.W.keepIn K (.ref f5) = true) (m5 : mg "are_facts" = some (.ref f5))
    (mI : mg "isinstance" = none) (mTuple : mg "tuple" = none) (mLen : mg "len" = none) (mM : mg "MOST_ITEMS" = some (.int 2000 t1)) : FnOk P w K mg base CX0 6 f fd ["value"] (spIsStore K) := by
  refine F.ok scStoreP (fun vs H Q E h => ?_) (fun cdv A outer s H vs Q E hr h => ?_)
  · obtain ⟨_, rfl, _⟩ := h
    rfl
  obtain ⟨v, rfl, h⟩ := h
  have nd := scStoreP.nd
  refine ⟨_, (pss_cons (ps_if (PW.pt (pw_or (pt_not (pt_val (pe_callB call_isi (by rfl) mI (by decide +kernel) (pa_cons (pv 0) (pa_cons (pe_bltn (v := .ty "tuple") (by rfl) mTuple (by decide +kernel) rfl) pa_nil)))))
      (pw_or (pt_cmpR op_ne (pe_callB call_len_seq (by rfl) mLen PySem.boot_len (pa_cons (pv 0) pa_nil)) pe_int (nomark _)) (pw_or1 (pt_cmpR (op_neD hr.units) (pe_ix (r := rIxT K) ix_tup (pv 0) pe_int (fun _ _ => rfl)) pe_str (nomark _)))))) (pss_one (ps_ret pe_bl)) pss_nil)
    (pss_cons (ps_asg (pv 0) (pg_tup rfl (pgs_cons (pg_name (i := 1) nd rfl (.inl rfl)) (pgs_cons (pg_name (i := 2) nd rfl (.inl rfl)) (pgs_cons (pg_name (i := 3) nd rfl (.inl rfl)) (pgs_cons (pg_name (i := 4) nd rfl (.inl rfl)) (pgs_cons (pg_name (i := 5) nd rfl (.inl rfl)) pgs_nil)))))))
    (pss_cons (ps_if (PW.pt (pw_or (pt_not (pt_val (pe_call G1 (hr.mono (by decide)) rfl m1 k1 b1 .nil pass0 (pa_cons (pv 2) pa_nil)))) (pw_or1 (pt_not (pt_val (pe_call G2 (hr.mono (by decide)) rfl m2 k2 b2 .nil pass0 (pa_cons (pv 2) (pa_cons (pv 3) pa_nil)))))))) (pss_one (ps_ret pe_bl)) pss_nil)
    (pss_cons (ps_if (PW.pt (pw_or (pt_not (pt_val (pe_call G3 (hr.mono (by decide)) rfl m3 k3 b3 .nil pass0 (pa_cons (pv 4) pa_nil)))) (pw_or (pt_cmpR op_gt (pe_callB call_len_seq (by rfl) mLen PySem.boot_len (pa_cons (pv 4) pa_nil)) (pe_glob (v := .int 2000) (by rfl) mM ⟨_, rfl⟩) (nomark _)) (pw_or1 (pt_not (pt_val (pe_call G4 (hr.mono (by decide)) rfl m4 k4 b4 .nil pass0 (pa_cons (pv 4) pa_nil)))))))) (pss_one (ps_ret pe_bl)) pss_nil)
    (pss_one (ps_ret (pe_call G5 (hr.mono (by decide)) rfl m5 k5 b5 .nil pass0 (pa_cons (pv 2) (pa_cons (pv 3) (pa_cons (pv 4) (pa_cons (pv 5) pa_nil)))))))))) ), ?_⟩
  rcases h with ⟨d, hd, n5, q⟩ | ⟨t, s, m, c, i, fv, ds, dm, dc, di, df, rfl, ht, hs, shs, hm, fm, lm, hc, fc, lc, hi, fi, hf, q⟩
  · have q := q H fun _ _ h => h
    have ty := dp_ty hd
    refine ⟨_, rfl, v, .ty "tuple", _, _, _, rfl, .ty "tuple", ty, kit_data (by simp) d, _, rfl, ite2 (fun c1 => q) fun c1 => ?_⟩
    cases hd with
    | @tup a xs ds hs ha =>
      have ne := ne_int (show xs.length ≠ 5 by rw [dpAll_len ha]; exact n5 ds rfl)
      refine ⟨_, rfl, a, xs, rfl, .inr hs, rfl, _, rfl, ?_⟩
      rw [show decide (V.int ((xs.length : Nat) : Int) = V.int 5) = false from ne]
      exact q
    | _ => exact absurd rfl c1
  have tyT : TyX K H (.ref t) (.type "tuple") := by
    rcases ht with (h | ⟨o, h⟩) | ⟨o, _, _, h, cl, _⟩
    · exact .base (.tup h)
    · exact .fTuple h
    · exact .kTuple h cl
  refine ⟨_, rfl, .ref t, .ty "tuple", _, _, true, rfl, .ty "tuple", tyT, kit_ty (by decide +kernel), _, rfl, ?_⟩
  refine ⟨_, rfl, t, _, rfl, .inr ht, rfl, _, rfl, ?_⟩
  refine ⟨_, rfl, t, _, 0, s, rfl, rfl, ht, atI_nat (j := 0) rfl, ds, .str "store", hs, .str _, shs, by decide +kernel, _, rfl, ite2 (fun c1 => ?_) fun c1 => ?_⟩
  · have q := q H fun _ _ h => h
    unfold isStoreD at q
    rw [show PyData.eqv ds (.str "store") = false by simpa using c1, Bool.false_and] at q
    exact q
  have c1 : PyData.eqv ds (.str "store") = true := by simpa using c1
  unfold isStoreD at q
  rw [c1, Bool.true_and] at q
  refine ⟨_, rfl, t, _, rfl, ht, rfl, s, _, rfl, m, _, rfl, c, _, rfl, i, _, rfl, fv, _, rfl, rfl, ?_⟩
  refine ⟨_, rfl, m, dm, rfl, hm, fm, fun H1 s1 => ⟨_, rfl, ite2 (fun c2 => ?_) fun c2 => ?_⟩⟩
  · have q := q H1 s1
    rw [show wordsD 4 dm = false by simpa using c2, Bool.false_and, Bool.false_and] at q
    exact q
  have c2 : wordsD 4 dm = true := by simpa using c2
  obtain ⟨l1, rfl, w1⟩ := wordsD_list c2
  rw [c2, Bool.true_and] at q
  cases hm with
  | @lst ma x1 _ hma a1 =>
  obtain ⟨e1, n1⟩ := texts_all a1 w1
  rw [e1] at hma
  refine ⟨_, rfl, _, rfl, ma, texts l1, c, dc, rfl, L2.Same.seq s1 hma, dp_same s1 _ _ hc, fc, fun H2 s2 => ⟨_, rfl, ite2 (fun c3 => ?_) fun c3 => ?_⟩⟩
  · have q := q H2 (s1.trans s2)
    rw [show columnsD (texts (listD (.list l1))) dc = false by simpa [listD] using c3, Bool.false_and] at q
    exact q
  have c3 : columnsD (texts l1) dc = true := by simpa using c3
  have c3' : wordsD 2 dc = true := by
    cases e : wordsD 2 dc with
    | true => rfl
    | false =>
      rw [columns_no e] at c3
      exact nomatch c3
  obtain ⟨l2, rfl, w2⟩ := wordsD_list c3'
  rw [show columnsD (texts (listD (.list l1))) (.list l2) = true from c3, Bool.true_and] at q
  cases hc with
  | @lst ca x2 _ hca a2 =>
  obtain ⟨e2, n2⟩ := texts_all a2 w2
  rw [e2] at hca
  have s02 : L2.Same H H2 := s1.trans s2
  refine ⟨_, rfl, i, di, rfl, dp_same s02 _ _ hi, fi, fun H3 s3 => ⟨_, rfl, ite2 (fun c4 => ?_) fun c4 => ?_⟩⟩
  · have q := q H3 (s02.trans s3)
    rw [show numsD di = false by simpa using c4, Bool.false_and, Bool.false_and, Bool.false_and] at q
    exact q
  have c4 : numsD di = true := by simpa using c4
  rw [c4, Bool.true_and] at q
  have s03 : L2.Same H H3 := s02.trans s3
  cases hi with
  | @lst ia x3 l3 hia a3 =>
    obtain ⟨few3, _⟩ := fi l3 rfl
    obtain ⟨e3, n3, m3⟩ := ints_all a3 c4
    have len3 := dpAll_len a3
    have hia3 := L2.Same.seq s03 hia
    refine ⟨_, rfl, ia, _, rfl, .inl hia3, _, _, rfl, rfl, _, rfl, ite2 (fun c5 => ?_) fun c5 => ?_⟩
    · have c5 := of_decide_eq_true c5
      have q := q H3 s03
      rw [show decide ((listD (.list l3)).length ≤ 2000) = false from decide_eq_false (by show ¬ l3.length ≤ 2000; omega), Bool.false_and, Bool.false_and] at q
      exact q
    have c5 := of_decide_eq_false (Bool.eq_false_iff.mpr c5)
    rw [show decide ((listD (.list l3)).length ≤ 2000) = true from decide_eq_true (by show l3.length ≤ 2000; omega), Bool.true_and] at q
    refine ⟨_, rfl, ia, x3, l3, rfl, hia3, dpAll_same s03 _ _ a3, ?_, ?_, few3, fun H4 s4 => ⟨_, rfl, ite2 (fun c6 => ?_) fun c6 => ?_⟩⟩
    · intro d1 h1 d2 h2
      rw [m3] at h1 h2
      obtain ⟨x, _, rfl⟩ := List.mem_map.mp h1
      obtain ⟨y, _, rfl⟩ := List.mem_map.mp h2
      rfl
    · intro d1 h1
      rw [m3] at h1
      obtain ⟨x, _, rfl⟩ := List.mem_map.mp h1
      exact ⟨(fun e => nomatch e), Nat.zero_le _⟩
    · have q := q H4 (s03.trans s4)
      rw [show ascB (listD (.list l3)) = false by simpa [listD] using c6, Bool.false_and] at q
      exact q
    have c6 : ascB l3 = true := by simpa using c6
    rw [show ascB (listD (.list l3)) = true from c6, Bool.true_and] at q
    have s04 : L2.Same H H4 := s03.trans s4
    rw [e3] at hia
    refine ⟨_, rfl, _, rfl, _, rfl, _, rfl, ma, ca, ia, texts l1, texts l2, intsD l3, fv, df, rfl, L2.Same.seq s04 hma, L2.Same.seq s04 hca, shaped_texts w1 (lm _ rfl), shaped_texts w2 (lc _ rfl), L2.Same.seq s04 hia, by omega, factsAt_same s04 hf, fun x hx => ?_, fun H5 s5 => q H5 (s04.trans s5)⟩
    have md : ∀ {l : List PyData}, l.all wordD = true → x ∈ texts l → (PyData.str x) ∈ l := fun {l} h z => by
      rw [texts_data h]
      exact List.mem_map.mpr ⟨x, z, rfl⟩
    rcases hx with hx | hx
    · exact lm _ rfl _ (md w1 hx)
    · exact lc _ rfl _ (md w2 hx)
  | _ => exact nomatch c4
end
end DQ

set_option Elab.async false
set_option linter.all false
set_option maxRecDepth 100000
set_option maxHeartbeats 400000
namespace DQ
open PySem PySem.Spec PyProof.Rows L2
/-! ### a drawn store is judged a store -/
theorem texts_strs : ∀ ms : List Str, texts (ms.map PyData.str) = ms
  | [] => rfl
  | x :: r => by
    have ih := texts_strs r
    unfold texts at ih ⊢
    rw [List.map_cons, List.filterMap_cons_some (f := textD) (a := .str x) (b := x) rfl, ih]
theorem intsD_ints : ∀ ns : List Int, intsD (ns.map PyData.int) = ns
  | [] => rfl
  | x :: r => by
    have ih := intsD_ints r
    unfold intsD at ih ⊢
    rw [List.map_cons, List.filterMap_cons_some (f := intD) (a := .int x) (b := x) rfl, ih]
theorem factD_d (x : Fact) : factD x.d = some x := by
  cases x with
  | mark m i => exact (if_pos rfl : (if ("mark" : Str) = "mark" then some (Fact.mark m i) else none) = _)
  | link c a b => exact (if_pos rfl : (if ("link" : Str) = "link" then some (Fact.link c a b) else none) = _)
theorem factsD_facts : ∀ fs : List Fact, factsD (fs.map Fact.d) = fs
  | [] => rfl
  | x :: r => by
    have ih := factsD_facts r
    unfold factsD at ih ⊢
    rw [List.map_cons, List.filterMap_cons_some (factD_d x), ih]
theorem pairwise_next {α : Type} {R : α → α → Prop} : ∀ {l : List α}, l.Pairwise R → ∀ p ∈ l.zip (l.drop 1), R p.1 p.2
  | [], _, p, h => by cases h
  | [_], _, p, h => by cases h
  | x :: y :: r, h, p, hp => by
    obtain ⟨h1, h2⟩ := List.pairwise_cons.mp h
    have hp : p ∈ (x, y) :: (y :: r).zip ((y :: r).drop 1) := hp
    rcases List.mem_cons.mp hp with rfl | hp
    · exact h1 y (List.mem_cons_self ..)
    · exact pairwise_next h2 p hp
theorem ascB_of {ds : List PyData} (h : ds.Pairwise fun x y => PySem.W.dataLt x y = true) : ascB ds = true :=
  List.all_eq_true.mpr fun p hp => pairwise_next h p hp
theorem asc_ints {ns : List Int} (h : ns.Pairwise (· < ·)) : ascB (ns.map PyData.int) = true :=
  ascB_of (List.pairwise_map.mpr (h.imp fun {a b} h => by rw [PySem.W.dataLt_int]; exact decide_eq_true h))
theorem asc_facts {fs : List Fact} (h : fs.Pairwise fun x y => PySem.W.dataLt x.d y.d = true) : ascB (fs.map Fact.d) = true := ascB_of (List.pairwise_map.mpr h)
theorem nums_of {ns : List Int} (h : ∀ x ∈ ns, 0 ≤ x ∧ x ≤ 1000000000) : numsD (.list (ns.map PyData.int)) = true := by
  refine List.all_eq_true.mpr fun d hd => ?_
  obtain ⟨x, hx, rfl⟩ := List.mem_map.mp hd
  show (decide (0 ≤ x) && decide (x ≤ 1000000000)) = true
  rw [decide_eq_true (h x hx).1, decide_eq_true (h x hx).2]
  rfl
theorem hasD_of {ms : List Str} {m : Str} (h : m ∈ ms) : hasD ms (.str m) = true :=
  List.any_eq_true.mpr ⟨.str m, List.mem_map.mpr ⟨m, h, rfl⟩, by simp only [PyData.eqv]; exact str_beq.mpr rfl⟩
theorem okItem_of {ns : List Int} (hn : ∀ x ∈ ns, 0 ≤ x ∧ x ≤ 1000000000) {i : Int} (h : i ∈ ns) : okItem ns (.int i) = true := by
  show ((decide (0 ≤ i) && decide (i ≤ 1000000000)) && decide (i ∈ ns)) = true
  rw [decide_eq_true (hn i h).1, decide_eq_true (hn i h).2, decide_eq_true h]
  rfl
theorem isFact_of {S : Store} (hn : ∀ x ∈ S.items, 0 ≤ x ∧ x ≤ 1000000000) {x : Fact} (h : x.of S) : isFactD S.marks S.columns S.items x.d = true := by
  cases x with
  | mark m i =>
    obtain ⟨h1, h2⟩ := h
    show (decide (1 = 1 ∨ 1 = 2) && ((if 1 = 1 then PyData.eqv (.str "mark") (.str "mark") && hasD S.marks (.str m) else _) && (okItem S.items (.int i) && true))) = true
    rw [if_pos rfl, hasD_of h1, okItem_of hn h2]
    decide +kernel
  | link c a b =>
    obtain ⟨h1, h2, h3⟩ := h
    show (decide (2 = 1 ∨ 2 = 2) && ((if 2 = 1 then _ else PyData.eqv (.str "link") (.str "link") && hasD S.columns (.str c)) && (okItem S.items (.int a) && (okItem S.items (.int b) && true)))) = true
    rw [if_neg (by decide), hasD_of h1, okItem_of hn h2, okItem_of hn h3]
    decide +kernel
theorem one_place {l : List (Int × Int)} (h : (l.map (·.1)).Nodup) {a b c : Int} (h1 : (a, b) ∈ l) (h2 : (a, c) ∈ l) : b = c := by
  induction l with
  | nil => cases h1
  | cons p r ih =>
    obtain ⟨n1, n2⟩ := List.nodup_cons.mp h
    rcases List.mem_cons.mp h1 with e1 | h1 <;> rcases List.mem_cons.mp h2 with e2 | h2
    · rw [← e1] at e2
      cases e2
      rfl
    · exact absurd (List.mem_map.mpr ⟨_, h2, by rw [← e1]⟩) n1
    · exact absurd (List.mem_map.mpr ⟨_, h1, by rw [← e2]⟩) n1
    · exact ih n2 h1 h2
theorem one_place2 {l : List (Int × Int)} (h : (l.map (·.2)).Nodup) {a b c : Int} (h1 : (b, a) ∈ l) (h2 : (c, a) ∈ l) : b = c := by
  induction l with
  | nil => cases h1
  | cons p r ih =>
    obtain ⟨n1, n2⟩ := List.nodup_cons.mp h
    rcases List.mem_cons.mp h1 with e1 | h1 <;> rcases List.mem_cons.mp h2 with e2 | h2
    · rw [← e1] at e2
      cases e2
      rfl
    · exact absurd (List.mem_map.mpr ⟨_, h2, by rw [← e1]⟩) n1
    · exact absurd (List.mem_map.mpr ⟨_, h1, by rw [← e2]⟩) n1
    · exact ih n2 h1 h2
theorem mem_links {c : Str} {fs : List Fact} {a b : Int} (h : Fact.link c a b ∈ fs) : (a, b) ∈ linksOf c fs := by
  unfold linksOf
  exact List.mem_filterMap.mpr ⟨_, h, if_pos rfl⟩
theorem noClash_of {ns : List Int} {fs : List Fact} (h : ∀ c, OneToOne ns (linksOf c fs)) : NoClash fs := fun x hx y hy => no_clash (fun c p q r e1 e2 => by
    subst e1 e2
    rw [one_place (h c).1 (mem_links hx) (mem_links hy)]) fun c p q r e1 e2 => by
    subst e1 e2
    rw [one_place2 (h c).2.1 (mem_links hx) (mem_links hy)]
theorem areFacts_of {m : Nat} {S : Store} (D : Drawn m S) : areFactsD S.marks S.columns S.items (.list (S.facts.map Fact.d)) = true := by
  show ((S.facts.map Fact.d).all (isFactD S.marks S.columns S.items) && (ascB (S.facts.map Fact.d) && noClashB (factsD (S.facts.map Fact.d)))) = true
  rw [asc_facts D.rise, factsD_facts, noClashB_iff.mpr (noClash_of D.links), Bool.and_true, Bool.and_true]
  refine List.all_eq_true.mpr fun d hd => ?_
  obtain ⟨x, hx, rfl⟩ := List.mem_map.mp hd
  exact isFact_of D.items.2 (D.facts x hx)
theorem marks_ok {k : Nat} (h : k ≤ 3) : wordsD 4 (.list (((["red", "blue", "gold"] : List Str).take k).map PyData.str)) = true := by
  have c : k = 0 ∨ k = 1 ∨ k = 2 ∨ k = 3 := by omega
  rcases c with rfl | rfl | rfl | rfl <;> decide +kernel
theorem columns_ok {k j : Nat} (h : k ≤ 3) (h1 : 1 ≤ j) (h2 : j ≤ 2) : columnsD ((["red", "blue", "gold"] : List Str).take k) (.list (((["next", "below"] : List Str).take j).map PyData.str)) = true := by
  have c : k = 0 ∨ k = 1 ∨ k = 2 ∨ k = 3 := by omega
  have d : j = 1 ∨ j = 2 := by omega
  rcases c with rfl | rfl | rfl | rfl <;> rcases d with rfl | rfl <;> decide +kernel
theorem isStore_of {m : Nat} (hm : m ≤ 2000) {S : Store} (D : Drawn m S) : isStoreD (.str "store") (.list (S.marks.map PyData.str)) (.list (S.columns.map PyData.str)) (.list (S.items.map PyData.int)) (.list (S.facts.map Fact.d)) = true := by
  obtain ⟨k, hk, ek⟩ := D.marks
  obtain ⟨j, h1, h2, ej⟩ := D.columns
  unfold isStoreD
  show (PyData.eqv (.str "store") (.str "store") && ((wordsD 4 (.list (S.marks.map PyData.str)) && columnsD (texts (S.marks.map PyData.str)) (.list (S.columns.map PyData.str))) && ((numsD (.list (S.items.map PyData.int)) && decide ((S.items.map PyData.int).length ≤ 2000) && ascB (S.items.map PyData.int)) && areFactsD (texts (S.marks.map PyData.str)) (texts (S.columns.map PyData.str)) (intsD (S.items.map PyData.int)) (.list (S.facts.map Fact.d))))) = true
  rw [texts_strs, texts_strs, intsD_ints, nums_of D.items.2, asc_ints D.items.1, areFacts_of D, List.length_map, decide_eq_true (show S.items.length ≤ 2000 by have := D.few; omega)]
  rw [ek, ej, marks_ok hk, columns_ok hk h1 h2]
  decide +kernel
end DQ

set_option Elab.async false
set_option linter.all false
set_option maxRecDepth 100000
set_option maxHeartbeats 400000
namespace DQ
open PySem PySem.Spec PyProof.Rows L2
theorem dp_intsL {K : PySem.W.Frag} {H : Hp} : ∀ ns : List Int, DpAll K H (ns.map V.int) (ns.map PyData.int)
  | [] => .nil
  | x :: r => .cons (.int x) (dp_intsL r)
theorem dp_facts {K : PySem.W.Frag} {H : Hp} : ∀ {rs : List V} {fs : List Fact}, Tups H rs (fs.map Fact.v) → DpAll K H rs (fs.map Fact.d)
  | [], [], _ => .nil
  | [], _ :: _, t => by cases t
  | _ :: _, [], t => by cases t
  | r :: rs, f :: fs, .cons ⟨a, e, h⟩ t => .cons (by rw [e]; exact fact_dp h) (dp_facts t)
theorem fact_d_inj {x y : Fact} (h : x.d = y.d) : x = y := by
  have := factD_d x
  rw [h, factD_d y] at this
  cases this
  rfl
theorem facts_inj {fs gs : List Fact} (h : fs.map Fact.d = gs.map Fact.d) : fs = gs := by
  have a := factsD_facts fs
  rw [h, factsD_facts] at a
  exact a.symm
theorem fact_parts (x : Fact) (l : PyData.canLay0 (.str x.word) = true) : Parts x.d := fun ds e z hz => by
  have s1 : SeqAt.shaped (.str "mark") = true := by decide +kernel
  have s2 : SeqAt.shaped (.str "link") = true := by decide +kernel
  have sw : SeqAt.shaped (.str x.word) = true := by
    show (PyData.canLay0 (.str x.word) && decide (PyData.depth (.str x.word) ≤ 64)) = true
    rw [l]
    rfl
  have si : ∀ i : Int, SeqAt.shaped (.int i) = true := fun _ => rfl
  cases x with
  | mark m i =>
    injection e with e
    subst e
    simp only [List.mem_cons, List.not_mem_nil, or_false] at hz
    rcases hz with rfl | rfl | rfl
    · exact s1
    · exact sw
    · exact si _
  | link c a b =>
    injection e with e
    subst e
    simp only [List.mem_cons, List.not_mem_nil, or_false] at hz
    rcases hz with rfl | rfl | rfl | rfl
    · exact s2
    · exact sw
    · exact si _
    · exact si _
/-- a drawn word -/
def drawnWords : List Str := ["red", "blue", "gold", "next", "below"]
theorem lay_words : ∀ x ∈ drawnWords, PyData.canLay0 (.str x) = true ∧ x.length ≤ 1000 := by decide +kernel
theorem Drawn.word {m : Nat} {S : Store} (D : Drawn m S) {x : Str} (h : x ∈ S.marks ∨ x ∈ S.columns) : x ∈ drawnWords := by
  obtain ⟨k, _, ek⟩ := D.marks
  obtain ⟨j, _, _, ej⟩ := D.columns
  rcases h with h | h
  · rw [ek] at h
    have h := List.mem_of_mem_take h
    simp only [List.mem_cons, List.not_mem_nil, or_false] at h
    rcases h with rfl | rfl | rfl <;> decide
  · rw [ej] at h
    have h := List.mem_of_mem_take h
    simp only [List.mem_cons, List.not_mem_nil, or_false] at h
    rcases h with rfl | rfl <;> decide
theorem Drawn.factWord {m : Nat} {S : Store} (D : Drawn m S) {x : Fact} (h : x ∈ S.facts) : x.word ∈ drawnWords := by
  have z := D.facts x h
  cases x with
  | mark m i => exact D.word (.inl z.1)
  | link c a b => exact D.word (.inr z.1)
/-- the store at v, part by part -/
theorem store_asks {K : PySem.W.Frag} {H : Hp} {v : V} {m : Nat} {S : Store} (hm : m ≤ 2000) (D : Drawn m S) (A : StoAt H v S) {Q : VK} {E : XK} (q : ∀ H', Same H H' → Q (.bl true) H') : spIsStore K [v] H Q E := by
  obtain ⟨t, ma, ca, ia, fa, rs, rfl, ht, hma, hca, hia, hfa, tp⟩ := A
  have fitsS : ∀ ms : List Str, ms.length ≤ 10000 → (∀ x ∈ ms, x ∈ drawnWords) → Fits (.list (ms.map PyData.str)) ∧ Lays (.list (ms.map PyData.str)) := fun ms l h => by
    refine ⟨fun ds e => ?_, fun ds e d hd => ?_⟩
    · injection e with e
      subst e
      refine ⟨by rw [List.length_map]; exact l, fun d hd x ex => ?_⟩
      obtain ⟨y, hy, e⟩ := List.mem_map.mp hd
      rw [ex] at e
      injection e with e
      rw [← e]
      exact (lay_words y (h y hy)).2
    · injection e with e
      subst e
      obtain ⟨y, hy, rfl⟩ := List.mem_map.mp hd
      exact (lay_words y (h y hy)).1
  obtain ⟨k, hk, ek⟩ := D.marks
  obtain ⟨j, _, hj, ej⟩ := D.columns
  have lm : S.marks.length ≤ 10000 := by rw [ek, List.length_take]; omega
  have lc : S.columns.length ≤ 10000 := by rw [ej, List.length_take]; omega
  obtain ⟨f1, l1⟩ := fitsS S.marks lm fun x h => D.word (.inl h)
  obtain ⟨f2, l2⟩ := fitsS S.columns lc fun x h => D.word (.inr h)
  have f3 : Fits (.list (S.items.map PyData.int)) := fun ds e => by
    injection e with e
    subst e
    refine ⟨by rw [List.length_map]; have := D.few; omega, fun d hd x ex => ?_⟩
    obtain ⟨y, hy, e⟩ := List.mem_map.mp hd
    rw [ex] at e
    exact nomatch e
  refine ⟨_, rfl, .inr ⟨t, .str "store", .ref ma, .ref ca, .ref ia, .ref fa, .str "store", _, _, _, .list (S.facts.map Fact.d), rfl, .inl (.inl ht), .str _, by decide +kernel, .lst (SqL.of hma) (dp_texts S.marks), f1, l1, .lst (SqL.of hca) (dp_texts S.columns), f2, l2, .lst (SqL.of hia) (dp_intsL S.items), f3, ?_, fun H' sm => by rw [isStore_of hm D]; exact q H' sm⟩⟩
  refine .inl ⟨fa, rs, S.facts.map Fact.d, rfl, rfl, SqL.of hfa, dp_facts tp, by rw [List.length_map]; have := D.short; omega, fun e he => ?_, fun fs e => by rw [← facts_inj e]; exact tp⟩
  obtain ⟨x, hx, rfl⟩ := List.mem_map.mp he
  exact fact_parts x (lay_words _ (D.factWord hx)).1
end DQ

set_option Elab.async false
set_option linter.all false
set_option maxRecDepth 100000
set_option maxHeartbeats 4000000
/-! an own error class called with keywords: its __new__ takes them and forgets them, its __init__ binds them -/
namespace PySem.ErrKw
open PySem PySem.W PySem.Calls PyProof.Rows PySem.HandSPX
section
variable {prog : Program} {w : World} {A : Around} {E : Value → Shared → Prop} {R : Result → Shared → Prop} {hp : Heap} {gs : Array GenState} {dr : Drawn} {tk : Nat} {os : OsState}
variable {cn cq : Str} {C Nd : Addr} {bases tail tailB : List Value} {hd : Bool} {sl : List Str} {subs : List Value} {abs : Bool} {col : Option Bool} {dict : Option Addr} {z0 z1 z2 z3 z5 : Option Value} {B nw ini : String} {us : List Value} {kw : List (Str × Value)}
theorem kw_check {M : Model} (F : ExcBaseFacts B nw ini tailB) (same : ∀ Y : String, tail.contains (.type Y) = tailB.contains (.type Y)) {Q : Unit → Shared → Prop}
    (hC : hp.get? C = some (excClassObj cn cq C Nd bases tail hd sl subs abs col dict z0 z1 z2 z3 z5 nw)) (hQ : Q () ⟨hp, gs, dr, tk, os⟩) : wpAny M A (checkBuiltinCall nw ⟨.ref C :: us, kw⟩) Q E ⟨hp, gs, dr, tk, os⟩ := by
  have hasB : (Value.ref C :: tail).contains (.type B) = true := by
    rw [List.contains_cons, same, F.hasB, Bool.or_true]
  have star := F.noStar
  simp only [checkBuiltinCall, F.newKind, F.newSplit, F.newRow]
  repeat (first
    | refine wpAny_loadPart_at hC ?_
    | (refine wpAny_isSubtype_exc hC ?_; rw [hasB])
    | refine wpAny_staticBase_exc hC ?_
    | refine wpAny_madeBy_exc hC ?_
    | simp only [bne_self_eq_false, Bool.false_eq_true, if_false]
    | wp_step)
  exact hQ
theorem kw_new (F : ExcBaseFacts B nw ini tailB) (same : ∀ Y : String, tail.contains (.type Y) = tailB.contains (.type Y))
    (hC : hp.get? C = some (excClassObj cn cq C Nd bases tail hd sl subs abs col dict z0 z1 z2 z3 z5 nw))
    (hR : R (.ok (.ret (.ref (hp.objs.size + 1)))) ⟨(hp.push (W.kdv_tup us)).push (excO C hp.objs.size), gs, dr, tk, os⟩) (small : us.length ≤ sizeLine) :
    codeAny (model prog w) A (.builtin nw ⟨.ref C :: us, kw⟩) R ⟨hp, gs, dr, tk, os⟩ := by
  have ends := F.ends
  have has : ∀ {Y : String} {b : Bool}, tailB.contains (.type Y) = b → (Value.ref C :: tail).contains (.type Y) = b := fun {Y b} e => by
    rw [List.contains_cons, same, e]
    rfl
  have i1 := has F.hasB
  have i2 := has F.noAttr
  have i3 := has F.noName
  refine codeAny_builtinAt F.entry ?_
  unfold Builtin.«BaseException.__new__»
  refine wpAt_bind ?_
  refine (show wpAt _ _ _ (stack >>= _) _ _ _ from wpAt_bind (wpAt_stack fun p below => wpAt_of_wpAny ?_))
  wp_walk
  refine wpAt_of_wpAny ?_
  rw [F.owner]
  repeat (first
    | with_reducible refine wpAny_madeHere_exc F.canon hC ?_
    | with_reducible refine wpAny_loadPart_at hC ?_
    | (with_reducible refine wpAny_isSubtype_exc hC ?_; first | rw [i1] | rw [i2] | rw [i3])
    | wp_step)
  show R _ _
  rw [Heap.size_push]
  exact hR
theorem kw_type (F : ExcBaseFacts B nw ini tailB) (same : ∀ Y : String, tail.contains (.type Y) = tailB.contains (.type Y)) {fI : Addr} {Q : Fin → Shared → Prop}
    (hC : hp.get? C = some (excClassObj cn cq C Nd bases tail hd sl subs abs col dict z0 z1 z2 z3 z5 nw)) (look : Looks (model prog w) hp (typeLookup (.ref C) "__init__") (some (.ref fI))) (bind : ∀ self, Looks (model prog w) hp (bindSpecial (.ref fI) self) (.ref fI, [self])) (small : us.length ≤ sizeLine)
    (hQ : codeAny (model prog w) A (.call (.ref fI) ⟨.ref (hp.objs.size + 1) :: us, kw⟩) (fun r s' => match r with | .ok (.ret v) => v = .none ∧ Q (.done (.ret (.ref (hp.objs.size + 1)))) s' | .ok _ => False | .error e => E e s') ⟨(hp.push (W.kdv_tup us)).push (excO C hp.objs.size), gs, dr, tk, os⟩) :
    wpAny (model prog w) A (Builtin.«type.__call__» ⟨.ref C :: us, kw⟩) Q E ⟨hp, gs, dr, tk, os⟩ := by
  repeat (first
    | with_reducible refine wpAny_loadPart_at hC ?_
    | with_reducible refine wpAny_madeBy_exc hC ?_
    | wp_step)
  refine codeAny_call_builtin_code (Code.quiet_builtin _ F.quiet) (kw_check F same hC (kw_new F same hC ?_ small))
  show wpAny _ _ _ _ _ _
  have grown : ∀ b o, hp.get? b = some o → ((hp.push (W.kdv_tup us)).push (excO C hp.objs.size)).get? b = some o := fun b o z => Heap.get?_push_of_some _ (Heap.get?_push_of_some _ z)
  have made : ((hp.push (W.kdv_tup us)).push (excO C hp.objs.size)).get? (hp.objs.size + 1) = some (excO C hp.objs.size) := by heap_get
  have itself : (Value.ref C :: tail).contains (.ref C) = true := by simp
  have hC2 := grown _ _ hC
  unfold isInstance
  repeat (first
    | with_reducible refine wpAny_loadPart_at made ?_
    | (with_reducible refine wpAny_isSubtype_exc hC2 ?_; rw [itself])
    | wp_step)
  refine (show wpAny _ _ (typeLookup (.ref C) _) _ _ _ from (look.keeps grown).at ?_)
  refine wpAny_holding (wpAny_bind (((bind (.ref (hp.objs.size + 1))).keeps grown).at ?_))
  refine wpAny_bind (wpAny_call (codeAny_mono hQ fun r s' z => ?_))
  match r, z with
  | .error _, z => exact z
  | .ok (.ret _), ⟨rfl, z⟩ =>
    first
      | exact wpAny_pure (wpAny_pure z)
      | (wp_walk; exact z)
  | .ok .next, z => exact z.elim
  | .ok .brk, z => exact z.elim
  | .ok .cont, z => exact z.elim
theorem kw_check_call {M : Model} {Q : Unit → Shared → Prop} (hC : hp.get? C = some (excClassObj cn cq C Nd bases tail hd sl subs abs col dict z0 z1 z2 z3 z5 nw)) (hQ : Q () ⟨hp, gs, dr, tk, os⟩) :
    wpAny M A (checkBuiltinCall "type.__call__" ⟨.ref C :: us, kw⟩) Q E ⟨hp, gs, dr, tk, os⟩ := by
  have sub := tc_sub
  have isTy : (⟨hp, gs, dr, tk, os⟩ : Shared).TypeIs (.ref C) "type" := ⟨_, hC, rfl⟩
  simp only [checkBuiltinCall, tc_kind, tc_split]
  repeat (any_goals (first
    | assumption
    | with_reducible refine wpAny_loadPart_at hC ?_
    | with_reducible refine wpAny_onRaise ?_
    | with_reducible refine wpAny_map ?_
    | wp_step))
theorem kw_call (F : ExcBaseFacts B nw ini tailB) (same : ∀ Y : String, tail.contains (.type Y) = tailB.contains (.type Y)) {fI : Addr}
    (hC : hp.get? C = some (excClassObj cn cq C Nd bases tail hd sl subs abs col dict z0 z1 z2 z3 z5 nw)) (look : Looks (model prog w) hp (typeLookup (.ref C) "__init__") (some (.ref fI))) (bind : ∀ self, Looks (model prog w) hp (bindSpecial (.ref fI) self) (.ref fI, [self])) (small : us.length ≤ sizeLine)
    (hR : codeAny (model prog w) (A.under (.builtin "type.__call__" ⟨.ref C :: us, kw⟩)) (.call (.ref fI) ⟨.ref (hp.objs.size + 1) :: us, kw⟩) (InitBack (hp.objs.size + 1) R) ⟨(hp.push (W.kdv_tup us)).push (excO C hp.objs.size), gs, dr, tk, os⟩) :
    codeAny (model prog w) A (.call (.ref C) ⟨us, kw⟩) R ⟨hp, gs, dr, tk, os⟩ := by
  have l1 := tc_lookup
  have l2 := tc_bind (.ref C)
  have isTy : (⟨hp, gs, dr, tk, os⟩ : Shared).TypeIs (.ref C) "type" := ⟨_, hC, rfl⟩
  refine codeAny_of_tree (show wpAny _ _ (callAny (.ref C) _) _ _ _ from ?_)
  repeat (any_goals (first
    | assumption
    | with_reducible refine wpAny_loadPart_at hC ?_
    | wp_step))
  refine ⟨rfl, codeAny_call_builtin_at (Code.quiet_builtin _ (by decide +kernel)) entry_typeCall (kw_check_call hC (kw_type F same hC look bind small (codeAny_mono hR fun r s' z => ?_)))⟩
  match r, z with
  | .error _, z => exact z
  | .ok (.ret _), z => exact z
  | .ok .next, z => exact z
  | .ok .brk, z => exact z
  | .ok .cont, z => exact z
end
end PySem.ErrKw

set_option Elab.async false
set_option linter.all false
set_option maxRecDepth 100000
set_option maxHeartbeats 4000000
namespace DQ
open PySem PySem.Spec PyProof.Rows L2
/-! ### errors of own classes as values -/
/-- C(e, ..): a new error at a, C's own __init__ keeping sp -/
def tErr (C : Addr) (sp : Sp) (dvs : List V) (ta : TA) : TE := fun σ H Q => ta σ H fun vs H1 => vs.length ≤ 1000 ∧ ∀ a, H1 a = none → sp (.ref a :: (vs ++ dvs)) (upd H1 a (exo a C none)) (fun v H2 => v = .non ∧ Q (.ref a) H2) (fun _ _ _ => False)
section
variable {X : Cx} {x : Str} {C fI : Addr} {k : Nat} {fd : FuncData} {ps : List Str} {sp : Sp} {ds : List Value} {dvs : List V} {CX : CXT} {e : Expr} {es : List Expr} {ta : TA} {p pos : Pos}
theorem run_err {pins : List (Addr × Obj)} {σ : L2.St} {H1 : Hp} {s1 : Shared} {Q : VK} {us : List Value} {vs : List V} (T : OexC X.K C) (iC : PySem.W.findIn X.K (.ref C) "__init__" = some (some (.ref fI))) (tI : PySem.W.typeIn X.K (.ref fI) = some (.type "function"))
    (F1 : FnOk X.prog X.w X.K X.mg X.base CX k fI fd ps sp) (hr : Room (k + 1) X.A) (hb : Binds X.K fd ps ds) (hd : Vals dvs ds) (hx : Passes CX X (fun _ _ _ => False)) (I1 : Inv X pins σ H1 s1) (r1 : Vals vs us) (hz : vs.length ≤ 1000)
    (q1 : ∀ a, H1 a = none → sp (.ref a :: (vs ++ dvs)) (upd H1 a (exo a C none)) (fun v H2 => v = .non ∧ Q (.ref a) H2) (fun _ _ _ => False)) :
    wpAny (model X.prog X.w) X.A (call (.ref C) us) (EP X pins σ Q) X.xe s1 := by
  obtain ⟨nm, q, N, bs, bm, sn, sub, ab, col, dd, k0, k1, k2, k3, k5, hC, hbm⟩ := T.cls
  obtain ⟨hp, g, dr, tk, os⟩ := s1
  have room : hp.objs.size ≤ hp.objs.size + 1 := Nat.le_succ _
  have hq := q1 (hp.objs.size + 1) (I1.hok.fresh room)
  let h2 := (hp.push (PySem.W.kdv_tup us)).push (PySem.HandSPX.excO C hp.objs.size)
  have at2 : h2.get? (hp.objs.size + 1) = some (PySem.HandSPX.excO C hp.objs.size) := by heap_get
  have I2 : Inv X pins σ (upd H1 (hp.objs.size + 1) (exo (hp.objs.size + 1) C none)) ⟨h2, g, dr, tk, os⟩ :=
    Inv.laid (t' := tk) (a := hp.objs.size + 1) (o := exo (hp.objs.size + 1) C none) (h' := h2) I1 (fun b o z => Heap.get?_push_of_some _ (Heap.get?_push_of_some _ z)) room (exo_ok at2)
  have r2 : Vals (V.ref (hp.objs.size + 1) :: (vs ++ dvs)) (Value.ref (hp.objs.size + 1) :: (us ++ ds)) := .cons rfl (r1.append hd)
  have many : (Value.ref (hp.objs.size + 1) :: us ++ ds).length = ps.length := (r2.length.symm.trans (F1.len _ _ _ _ hq))
  have small : us.length ≤ sizeLine := by
    rw [← Paired.length r1, sizeLine_eq]
    omega
  have run := F1.run _ X.stack _ _ ⟨Value.ref (hp.objs.size + 1) :: us, []⟩ _ _ _ (fun _ _ _ => False) (hr.make C us []) (I2.env0.make C us []) (hb _ (Value.ref (hp.objs.size + 1) :: us) I2.kIn many) r2 hq
  refine wpAny_call (PySem.HandSPX.call_own F.excBase_ValueError (fun Y => PySem.HandSPX.refsVE_contains Y bm hbm) (I1.kIn _ _ hC) (PySem.W.looks_findIn I1.kIn iC) (fun self => PySem.W.bind_fn I1.kIn self tI) small (codeAny_mono run fun r s' z => ?_))
  match r, z with
  | .error er, z => exact hx pins σ _ _ er s' I2 z
  | .ok (.ret u), z =>
    obtain ⟨v, H', I3, rv, ev, q3⟩ := I2.after z
    subst ev
    exact ⟨rv, V.ref (hp.objs.size + 1), H', I3, rfl, q3⟩
  | .ok .next, z => exact False.elim z
  | .ok .brk, z => exact False.elim z
  | .ok .cont, z => exact False.elim z
theorem pe_err (T : OexC X.K C) (iC : PySem.W.findIn X.K (.ref C) "__init__" = some (some (.ref fI))) (tI : PySem.W.typeIn X.K (.ref fI) = some (.type "function"))
    (F1 : FnOk X.prog X.w X.K X.mg X.base CX k fI fd ps sp) (hr : Room (k + 1) X.A) (hb : Binds X.K fd ps ds) (hd : Vals dvs ds) (hx : Passes CX X (fun _ _ _ => False)) (hg : Gl X x) (hm : X.mg x = some (.ref C)) (ha : PA X (e :: es) ta)
    (hdb : (x == ("__debug__" : Str)) = false := by decide) (he : starEach (e :: es) X.env = (false, eval e X.env) :: starEach es X.env := by rfl) (hpl : (backTo pos (starEach es X.env)).any (·.1) = false := by rfl) :
    PE X (.Call (.Name x p) (e :: es) [] pos) (tErr C sp dvs ta) := ⟨fun pins s σ H Q I h => by
  refine wpAny_Call_Name_kw (ld_glob I hg hm (PySem.W.callWith_K (h₀ := X.base) I.ok.mod.kin T.kC (thn (ha.run pos pins s σ H _ I h) fun us s1 h1 => ?_) he hpl) hdb)
  obtain ⟨vs, H1, I1, r1, hz, q1⟩ := h1
  exact ⟨I1.kIn, run_err T iC tI F1 hr hb hd hx I1 r1 hz q1⟩⟩
theorem pe_err0 (T : OexC X.K C) (iC : PySem.W.findIn X.K (.ref C) "__init__" = some (some (.ref fI))) (tI : PySem.W.typeIn X.K (.ref fI) = some (.type "function"))
    (F1 : FnOk X.prog X.w X.K X.mg X.base CX k fI fd ps sp) (hr : Room (k + 1) X.A) (hb : Binds X.K fd ps ds) (hd : Vals dvs ds) (hx : Passes CX X (fun _ _ _ => False)) (hg : Gl X x) (hm : X.mg x = some (.ref C))
    (hdb : (x == ("__debug__" : Str)) = false := by decide) : PE X (.Call (.Name x p) [] [] pos) (tErr C sp dvs tNil) := ⟨fun pins s σ H Q I h =>
  wpAny_Call_Name_kw (ld_glob I hg hm (PySem.W.callWith_K0 I.kIn T.kC (run_err (us := []) T iC tI F1 hr hb hd hx I .nil h.1 h.2)) hdb)⟩
/-- e.n of an error that was made -/
def tErrFld (K : PySem.W.Frag) (n : Str) (te : TE) : TE := fun σ H Q => te σ H fun x H1 => ∃ (a C d : Addr) (fs : List (Str × V)) (v : V), x = .ref a ∧ H1 a = some (exo a C (some d)) ∧ H1 d = some (exd d fs) ∧ XfC K C ∧ PySem.W.findIn K (.ref C) n = some none ∧ fs.lookup n = some v ∧ Q v H1
theorem err_inst {P : Program} {w : World} {H : Hp} {h : Heap} {a C : Addr} {d : Option Addr} (ok : HOk P w H h) (ea : H a = some (exo a C d)) (ed : ∀ dx, d = some dx → ∃ fs, H dx = some (exd dx fs)) : ∃ ox od, PySem.W.InstAt h a ox C od := by
  obtain ⟨t1, ho⟩ := exo_at ok ea
  cases d with
  | none => exact ⟨_, none, ho, rfl, rfl, trivial⟩
  | some dx =>
    obtain ⟨fs, e⟩ := ed dx rfl
    obtain ⟨mA, ⟨od, es, ep, hd, hr⟩, _⟩ := exd_at ok e
    exact ⟨_, some od, ho, rfl, rfl, hd⟩
theorem pe_errFld {te : TE} {n : Str} (he : PE X e te) (hb : attributeBase e n X.env (eval e X.env) = eval e X.env := by rfl) : PE X (.Attribute e n pos) (tErrFld X.K n te) := ⟨fun pins s σ H Q I h => by
  refine attr_of hb (thn (he.run pins s σ H _ I h) fun u s1 h1 => ?_)
  obtain ⟨x, H1, I1, rx, a, C, d, fs, v, rfl, ea, ed, T, hno, l, q⟩ := h1
  obtain rfl : u = Value.ref a := rx
  obtain ⟨t1, ho⟩ := exo_at I1.hok ea
  obtain ⟨mA, hns, hr⟩ := exd_at I1.hok ed
  obtain ⟨od, hod, hl⟩ := lookIn_ns hns
  obtain ⟨u, hu, ru⟩ := RelO.some_of (v := v) (o := mA n) (by rw [← l]; exact hr n)
  exact HandSPX.exc_get I1.kIn ⟨ho, rfl, rfl, hod⟩ T.ga T.gg T.exC (PySem.W.findObj_own T.hdC hno rfl (by rw [hl, hu])) (handed_of ru) ⟨v, H1, I1.tok _, ru, q⟩⟩
/-- what isinstance asks of the class of an error -/
structure ErrC (K : PySem.W.Frag) (C : Addr) : Prop where
  cls : (PySem.W.clsIn K C).isSome = true
  ga : PySem.W.findIn K (.ref C) "__getattribute__" = some (some (.builtin "BaseException.__getattribute__"))
  gg : PySem.W.findIn K (.ref C) "__getattr__" = some none
  sub : PySem.W.subIn K (.ref C) (.type "BaseException") = some true
  ca : PySem.W.findIn K (.ref C) "__class__" = some (some (.builtin "object.__class__"))
  cg : PySem.W.specialIn K (.builtin "object.__class__") "__get__" = some (some (.builtin "getset_descriptor.__get__"))
  ct : PySem.W.takesIn K (.builtin "object.__class__") = some true
  mo : PySem.W.mroIn K C (.type "object") = some true
def rErrIs (K : PySem.W.Frag) : List V → Hp → VK → Prop := fun xs H Q => ∃ (a C : Addr) (d : Option Addr) (c : V) (u : Value) (b : Bool), xs = [.ref a, c] ∧ H a = some (exo a C d) ∧ (∀ dx, d = some dx → ∃ fs, H dx = some (exd dx fs)) ∧ ErrC K C ∧ ClsV c u ∧ PySem.W.kitOne K (.ref C) u = some b ∧ Q (.bl b) H
theorem call_errIs : CallR X (.builtin "isinstance") (rErrIs X.K) := by
  intro pins s σ H xs us Q I r h
  obtain ⟨a, C, d, c, u, b, rfl, ea, ed, T, k, e, q⟩ := h
  obtain ⟨u1, u2, rfl, r1, r2⟩ := vals2 r
  obtain rfl : u1 = Value.ref a := r1
  obtain rfl := k.eq r2
  obtain ⟨ox, od, J⟩ := err_inst I.hok ea ed
  exact PySem.W.kia_one (PySem.W.kitx_exc T.cls T.ga T.gg T.sub T.ca T.cg T.ct T.mo) I.kIn J e (fun z => nomatch z) fun tk => ⟨.bl b, H, I.tok tk, rfl, q⟩
/-! two errors of one class without an __eq__ of its own are unequal unless they are one -/
theorem err_apart {prog : Program} {w : World} {A : Around} {E : Value → Shared → Prop} {s : Shared} {K : PySem.W.Frag} {a b D : Addr} {oa ob : Obj} {da db : Option Obj} {Q : Value → Shared → Prop} (hu : A.units < cLine) (hK : K.In s.heap) (I : PySem.W.InstAt s.heap a oa D da) (J : PySem.W.InstAt s.heap b ob D db)
    (mo : PySem.W.mroIn K D (.type "object") = some true) (eq : PySem.W.findIn K (.ref D) "__eq__" = some (some (.builtin "object.__eq__"))) (ne : a ≠ b) (h : Q (.bool false) s) : wpAny (model prog w) A (compareOp .Eq (.ref a) (.ref b)) Q E s := by
  have nt : ∀ {o : Obj} {c : Addr} {dd : Option Obj}, PySem.W.InstAt s.heap c o D dd → o.cls ≠ .type "tuple" := fun z e => by
    rw [z.2] at e
    cases e
  have half : ∀ {c c' : Addr} {o o' : Obj} {d d' : Option Obj}, PySem.W.InstAt s.heap c o D d → PySem.W.InstAt s.heap c' o' D d' → c ≠ c' → wpAny (model prog w) A (tryCompare (.ref c) "__eq__" (.ref c')) (fun r s' => r = none ∧ s' = s) E s := fun z z' n => by
    unfold tryCompare
    refine wpAny_bind (HN.ifBound_objEq hK z eq (wpAny_call (codeAny_call_builtin F.cmp_object.eq.plain F.cmpEntry_eq (PySem.W.check_slot F.cmpKind_eq F.cmpSplit_eq (z.type.andThen (PySem.W.looks_mroIn hK mo)) (F.cmpArgs_eq _ _) (objEq_entry_other n z.1 z'.1 (nt z) ?_)))))
    exact wpAny_pure ⟨rfl, rfl⟩
  show wpAny _ _ (richCompare .Eq _ _) _ _ _
  simp only [richCompare, cmpInfo_Eq, oneThing_ref]
  refine wpAny_holding (wpAny_bind (wpAny_cRoomFor hu ?_))
  refine wpAny_bind (I.type.here (wpAny_bind (J.type.here ?_)))
  rw [if_neg (by simp)]
  refine wpAny_bind (wpAny_pure ?_)
  simp only [Bool.false_eq_true, if_false, Bool.not_false, if_true]
  refine wpAny_bind (m := tryCompare (.ref a) _ (.ref b)) (wpAny_mono (half I J ne) (fun r s1 z => ?_) fun _ _ e => e)
  obtain ⟨rfl, rfl⟩ := z
  refine wpAny_bind (m := tryCompare (.ref b) _ (.ref a)) (wpAny_mono (half J I ne.symm) (fun r s2 z => ?_) fun _ _ e => e)
  obtain ⟨rfl, rfl⟩ := z
  exact wpAny_bind (wpAny_rule (wpAny_bind (wpAny_isSame_ref_other ne I.1 J.1 (nt I) (wpAny_pure h))))
def rErrEq (K : PySem.W.Frag) : R2 := fun x y H Q => ∃ (a b D : Addr) (d d' : Option Addr), x = .ref a ∧ y = .ref b ∧ a ≠ b ∧ H a = some (exo a D d) ∧ H b = some (exo b D d') ∧ (∀ dx, d = some dx → ∃ fs, H dx = some (exd dx fs)) ∧ (∀ dx, d' = some dx → ∃ fs, H dx = some (exd dx fs)) ∧
  PySem.W.mroIn K D (.type "object") = some true ∧ PySem.W.findIn K (.ref D) "__eq__" = some (some (.builtin "object.__eq__")) ∧ Q (.bl false) H
theorem op_errEq (hu : X.A.units < cLine) : OpR X (compareOp .Eq) (rErrEq X.K) := by
  intro pins s σ H x y v u Q I rx ry h
  obtain ⟨a, b, D, d, d', rfl, rfl, ne, ea, eb, ed, ed', mo, eq, q⟩ := h
  obtain rfl : v = Value.ref a := rx
  obtain rfl : u = Value.ref b := ry
  obtain ⟨oa, da, Ia⟩ := err_inst I.hok ea ed
  obtain ⟨ob, db, Ib⟩ := err_inst I.hok eb ed'
  exact err_apart hu I.kIn Ia Ib mo eq ne ⟨.bl false, H, I, rfl, q⟩
/-- C() of a class without an __init__ of its own -/
theorem pe_errB (T : OexC X.K C) (iC : PySem.W.findIn X.K (.ref C) "__init__" = some (some (.builtin "ValueError.__init__"))) (hg : Gl X x) (hm : X.mg x = some (.ref C)) (hdb : (x == ("__debug__" : Str)) = false := by decide) :
    PE X (.Call (.Name x p) [] [] pos) (fun σ H Q => ∀ a, H a = none → Q (.ref a) (upd H a (exo a C none))) := ⟨fun pins s σ H Q I h => by
  refine wpAny_Call_Name_kw (ld_glob I hg hm (PySem.W.callWith_K0 I.kIn T.kC ?_) hdb)
  obtain ⟨nm, q, N, bs, bm, sn, sub, ab, col, dd, k0, k1, k2, k3, k5, hC, hbm⟩ := T.cls
  obtain ⟨hp, g, dr, tk, os⟩ := s
  refine PySem.W.call_B F.excBase_ValueError (fun Y => PySem.HandSPX.refsVE_contains Y bm hbm) (I.kIn _ _ hC) (PySem.W.looks_findIn I.kIn iC) (Nat.zero_le _) fun h' k e1 e2 => ?_
  exact ⟨.ref (hp.objs.size + 1), _, Inv.laid (t' := tk) (o := exo (hp.objs.size + 1) C none) I k (Nat.le_succ _) (exo_ok e1), rfl, h _ (I.hok.fresh (Nat.le_succ _))⟩⟩
/-- C(k = v, ..): keywords alone -/
def tErrK (C : Addr) (m : Nat) (sp : Sp) (gV : List V → List V → List V) (tk : TA) : TE := fun σ H Q => tk σ H fun zs H1 => zs.length = m ∧ ∀ a, H1 a = none → sp (gV [.ref a] zs) (upd H1 a (exo a C none)) (fun v H2 => v = .non ∧ Q (.ref a) H2) (fun _ _ _ => False)
theorem pe_errK {ks : List Str} {kws : List Keyword} {tk : TA} {g : List Value → List Value → List Value} {gV : List V → List V → List V} (T : OexC X.K C) (iC : PySem.W.findIn X.K (.ref C) "__init__" = some (some (.ref fI))) (tI : PySem.W.typeIn X.K (.ref fI) = some (.type "function"))
    (F1 : FnOk X.prog X.w X.K X.mg X.base CX k fI fd ps sp) (hr : Room (k + 1) X.A) (hb : KBn X.K fd ps 1 ks g gV) (hx : Passes CX X (fun _ _ _ => False)) (hg : Gl X x) (hm : X.mg x = some (.ref C)) (hkw : PK X kws tk)
    (hall : (backToKw pos (keywordEach kws X.env)).all (·.1.isSome) = true := by rfl) (hks : (backToKw pos (keywordEach kws X.env)).filterMap (·.1) = ks := by rfl) (hdb : (x == ("__debug__" : Str)) = false := by decide)
    (hpl : ((backTo pos (starEach [] X.env)).any (·.1) || (backToKw pos (keywordEach kws X.env)).any (·.1.isNone)) = false := by rfl) :
    PE X (.Call (.Name x p) [] kws pos) (tErrK C ks.length sp gV tk) := ⟨fun pins s σ H Q I h => by
  refine wpAny_Call_Name_kw (ld_glob I hg hm (PySem.W.callWith_KW0 (h₀ := X.base) I.ok.mod.kin T.kC hall (thn (hkw.run pos pins s σ H _ I h) fun ws s1 h1 => ?_) hpl) hdb)
  obtain ⟨zs, H1, I1, rz, lz, q1⟩ := h1
  refine ⟨I1.kIn, ?_⟩
  rw [hks]
  obtain ⟨nm, q, N, bs, bm, sn, sub, ab, col, dd, k0, k1, k2, k3, k5, hC, hbm⟩ := T.cls
  obtain ⟨hp, gg, dr, tk, os⟩ := s1
  have room : hp.objs.size ≤ hp.objs.size + 1 := Nat.le_succ _
  have hq := q1 (hp.objs.size + 1) (I1.hok.fresh room)
  let h2 := (hp.push (PySem.W.kdv_tup [])).push (PySem.HandSPX.excO C hp.objs.size)
  have at2 : h2.get? (hp.objs.size + 1) = some (PySem.HandSPX.excO C hp.objs.size) := by heap_get
  have I2 : Inv X pins σ (upd H1 (hp.objs.size + 1) (exo (hp.objs.size + 1) C none)) ⟨h2, gg, dr, tk, os⟩ :=
    Inv.laid (t' := tk) (a := hp.objs.size + 1) (o := exo (hp.objs.size + 1) C none) (h' := h2) I1 (fun b o z => Heap.get?_push_of_some _ (Heap.get?_push_of_some _ z)) room (exo_ok at2)
  have r2 := hb.rel (vs := [V.ref (hp.objs.size + 1)]) (us := [Value.ref (hp.objs.size + 1)]) (.cons rfl .nil) rz
  have e2 : ws.length = ks.length := rz.length.symm.trans lz
  have run := F1.run _ X.stack _ _ ⟨[Value.ref (hp.objs.size + 1)], ks.zip ws⟩ _ _ _ (fun _ _ _ => False) (hr.make C [] (ks.zip ws)) (I2.env0.make C [] (ks.zip ws)) (hb.to _ [Value.ref (hp.objs.size + 1)] ws I2.kIn rfl e2) r2 hq
  show wpAny _ _ (call (.ref C) [] (ks.zip ws)) _ _ _
  refine wpAny_call (PySem.ErrKw.kw_call F.excBase_ValueError (fun Y => PySem.HandSPX.refsVE_contains Y bm hbm) (I1.kIn _ _ hC) (PySem.W.looks_findIn I1.kIn iC) (fun self => PySem.W.bind_fn I1.kIn self tI) (Nat.zero_le _) (codeAny_mono run fun r s' z => ?_))
  match r, z with
  | .error er, z => exact hx pins σ _ _ er s' I2 z
  | .ok (.ret u), z =>
    obtain ⟨v, H', I3, rv, ev, q3⟩ := I2.after z
    subst ev
    exact ⟨rv, V.ref (hp.objs.size + 1), H', I3, rfl, q3⟩
  | .ok .next, z => exact False.elim z
  | .ok .brk, z => exact False.elim z
  | .ok .cont, z => exact False.elim z⟩
end
end DQ

set_option Elab.async false
set_option linter.all false
set_option maxRecDepth 100000
set_option maxHeartbeats 4000000
namespace DQ
open PySem PySem.Spec PyProof.Rows L2
abbrev sInit (i : Nat) : Stmt := inClass (topS i) 0
/-- what the written part says of an own error class with a field -/
structure ErrAt (K : PySem.W.Frag) (mg : Str → Option Value) (name qual : Str) (st : Stmt) (C : Addr) : Prop where
  g : mg name = some (.ref C)
  T : OexC K C
  xf : XfC K C
  noV : PySem.W.findIn K (.ref C) "value" = some none
  er : ErrC K C
  eq : PySem.W.findIn K (.ref C) "__eq__" = some (some (.builtin "object.__eq__"))
  init : ∃ (fI : Addr) (fd : FuncData), PySem.W.findIn K (.ref C) "__init__" = some (some (.ref fI)) ∧ PySem.W.typeIn K (.ref fI) = some (.type "function") ∧ FunD K "__init__" qual (defArgs st) (defBody st) (defScope st) [V.non] [] fI fd
def spInit (K : PySem.W.Frag) : Sp := fun vs H Q _ => ∃ (a C : Addr) (v : V), vs = [.ref a, v] ∧ OexC K C ∧ PySem.W.findIn K (.ref C) "value" = some none ∧ H a = some (exo a C none) ∧ ∀ d, H d = none → d ≠ a → Q .non (upd (upd H d (exd d [("value", v)])) a (exo a C (some d)))
def iA (p1 p2 p3 : Pos) : Arguments := { posonlyargs := [], args := [{ arg := "self", annotation := none, pos := p1 }, { arg := "value", annotation := none, pos := p2 }], vararg := none, kwonlyargs := [], kw_defaults := [], kwarg := none, defaults := [.Constant .none 0 p3] }
def iB (q1 q2 q3 q4 : Pos) : List Stmt := [.Assign [.Attribute (.Name "self" q1) "value" q2] (.Name "value" q3) q4]
def iS : Scope := { kind := .function, names := [("self", .local), ("value", .local)], isGenerator := false, isCoroutine := false, more := [] }
/-- the one text that all these __init__ have -/
def InitText (st : Stmt) : Prop := ∃ p1 p2 p3 q1 q2 q3 q4 : Pos, defArgs st = iA p1 p2 p3 ∧ defBody st = iB q1 q2 q3 q4 ∧ defScope st = iS
section
variable {P : Program} {w : World} {K : PySem.W.Frag} {mg : Str → Option Value} {base : Heap} {st : Stmt} {qual : Str} {fI : Addr} {fd : FuncData}
theorem scInit : FnScope ["self", "value"] ["self", "value"] iS := ⟨rfl, rfl, rfl, by decide +kernel, rfl, by decide +kernel, by decide +kernel⟩
theorem ok_init (t : InitText st) (F : FunD K "__init__" qual (defArgs st) (defBody st) (defScope st) [V.non] [] fI fd) : FnOk P w K mg base CX0 1 fI fd ["self", "value"] (spInit K) := by
  obtain ⟨p1, p2, p3, q1, q2, q3, q4, e1, e2, e3⟩ := t
  rw [e1, e2, e3] at F
  refine F.ok scInit (fun vs H Q E h => ?_) (fun cdv A outer s H vs Q E hr h => ?_)
  · obtain ⟨a, C, v, rfl, _⟩ := h
    rfl
  obtain ⟨a, C, v, rfl, T, no, ea, q⟩ := h
  refine ⟨_, PSs.nox (pss_one (ps_ost (pv 0) (pv 1))), ?_⟩
  exact ⟨_, rfl, _, rfl, a, C, rfl, T, no, .inl ⟨ea, fun d hd ne => q d hd ne⟩⟩
theorem binds_two (t : InitText st) (F : FunD K "__init__" qual (defArgs st) (defBody st) (defScope st) [V.non] [] fI fd) : Binds K fd ["self", "value"] [] := by
  obtain ⟨p1, p2, p3, q1, q2, q3, q4, e1, e2, e3⟩ := t
  rw [e1, e2, e3] at F
  obtain ⟨ds, r, b⟩ := F.binds1 (ps := ["self", "value"]) 2 1 (by simp) rfl fun T kV doc pm an cdv ct us its l1 l2 => match us, l1, its, l2 with
    | [_, _], _, [_], _ => ⟨_, rfl, rfl⟩
  cases r
  exact b
theorem binds_one (t : InitText st) (F : FunD K "__init__" qual (defArgs st) (defBody st) (defScope st) [V.non] [] fI fd) : ∃ ds, Vals [V.non] ds ∧ Binds K fd ["self", "value"] ds := by
  obtain ⟨p1, p2, p3, q1, q2, q3, q4, e1, e2, e3⟩ := t
  rw [e1, e2, e3] at F
  obtain ⟨ds, r, b⟩ := F.binds1 (ps := ["self", "value"]) 1 0 (by simp) rfl fun T kV doc pm an cdv ct us its l1 l2 => match us, l1, its, l2 with
    | [_], _, [_], _ => ⟨_, rfl, rfl⟩
  exact ⟨ds, r, b⟩
theorem binds_kw (t : InitText st) (F : FunD K "__init__" qual (defArgs st) (defBody st) (defScope st) [V.non] [] fI fd) : KBn K fd ["self", "value"] 1 ["value"] (fun us ws => us ++ ws) (fun vs zs => vs ++ zs) := by
  obtain ⟨p1, p2, p3, q1, q2, q3, q4, e1, e2, e3⟩ := t
  rw [e1, e2, e3] at F
  obtain ⟨its, b⟩ := F.kbindsD (ps := ["self", "value"]) 1 ["value"] (fun us _ ws => us ++ ws) (by simp) (fun r1 _ r3 => r1.append r3) fun T kV doc pm an cdv ct us its ws l1 l2 l3 => match us, l1, its, l2, ws, l3 with
    | [_], _, [_], _, [_], _ => ⟨_, rfl, rfl⟩
  exact ⟨b.to, b.rel⟩
/-- a made error: at a, of the class at C, value in its field -/
def Made (H : Hp) (a C : Addr) (v : V) : Prop := ∃ d, a ≠ d ∧ H a = some (exo a C (some d)) ∧ H d = some (exd d [("value", v)])
theorem Made.same {H H' : Hp} {a C : Addr} {v : V} (m : Made H a C v) (s : Same H H') : Made H' a C v := by
  obtain ⟨d, ne, e1, e2⟩ := m
  exact ⟨d, ne, s _ _ e1, s _ _ e2⟩
end
theorem made_same {H1 : Hp} {a d C : Addr} {v : V} (ha : H1 a = none) (hd : upd H1 a (exo a C none) d = none) (ne : d ≠ a) : Same H1 (upd (upd (upd H1 a (exo a C none)) d (exd d [("value", v)])) a (exo a C (some d))) ∧ Made (upd (upd (upd H1 a (exo a C none)) d (exd d [("value", v)])) a (exo a C (some d))) a C v := by
  have hd1 : H1 d = none := by
    rw [upd_ne ne] at hd
    exact hd
  refine ⟨fun b o q => ?_, d, ne.symm, upd_same, ?_⟩
  · rw [upd_ne (ne_of_none q ha), upd_ne (ne_of_none q hd1), upd_ne (ne_of_none q ha)]
    exact q
  · rw [upd_ne ne, upd_same]
/-- what making an error asks, by what is wanted of it -/
theorem init_read {K : PySem.W.Frag} {C : Addr} {H1 : Hp} {v : V} {Q : VK} (T : OexC K C) (noV : PySem.W.findIn K (.ref C) "value" = some none) (h : ∀ a H2, Same H1 H2 → H1 a = none → Made H2 a C v → Q (.ref a) H2) :
    ∀ a, H1 a = none → spInit K [.ref a, v] (upd H1 a (exo a C none)) (fun v H2 => v = .non ∧ Q (.ref a) H2) (fun _ _ _ => False) := fun a ha =>
  ⟨a, C, v, rfl, T, noV, upd_same, fun d hd ne => ⟨rfl, h a _ (made_same ha hd ne).1 ha (made_same ha hd ne).2⟩⟩
/-- the rules at hand for one class -/
structure ErrUse (P : Program) (w : World) (K : PySem.W.Frag) (mg : Str → Option Value) (base : Heap) (name : Str) (C : Addr) : Prop where
  g : mg name = some (.ref C)
  T : OexC K C
  xf : XfC K C
  noV : PySem.W.findIn K (.ref C) "value" = some none
  er : ErrC K C
  eq : PySem.W.findIn K (.ref C) "__eq__" = some (some (.builtin "object.__eq__"))
  ok : ∃ (fI : Addr) (fd : FuncData) (ds : List Value), PySem.W.findIn K (.ref C) "__init__" = some (some (.ref fI)) ∧ PySem.W.typeIn K (.ref fI) = some (.type "function") ∧ FnOk P w K mg base CX0 1 fI fd ["self", "value"] (spInit K) ∧
    Binds K fd ["self", "value"] [] ∧ Vals [V.non] ds ∧ Binds K fd ["self", "value"] ds ∧ KBn K fd ["self", "value"] 1 ["value"] (fun us ws => us ++ ws) (fun vs zs => vs ++ zs)
theorem ErrAt.use {P : Program} {w : World} {K : PySem.W.Frag} {mg : Str → Option Value} {base : Heap} {name qual : Str} {st : Stmt} {C : Addr} (E : ErrAt K mg name qual st C) (t : InitText st) : ErrUse P w K mg base name C := by
  obtain ⟨fI, fd, iC, tI, F⟩ := E.init
  obtain ⟨ds, r, b⟩ := binds_one t F
  exact ⟨E.g, E.T, E.xf, E.noV, E.er, E.eq, fI, fd, ds, iC, tI, ok_init t F, binds_two t F, r, b, binds_kw t F⟩
theorem pe_ref {X : Cx} {x : Str} {C : Addr} {pos : Pos} (hg : Gl X x) (hm : X.mg x = some (.ref C)) (hd : (x == ("__debug__" : Str)) = false := by decide) : PE X (.Name x pos) (tC (.ref C)) := pe_glob (v := .ref C) hg hm rfl hd
theorem if_ne {x y : V} {A B : Prop} (h : x ≠ y) (b : B) : if decide (x = y) = true then A else B := by
  rw [decide_eq_false h]
  exact iteF b
theorem if_eq {x y : V} {A B : Prop} (h : x = y) (b : A) : if decide (x = y) = true then A else B := by
  rw [decide_eq_true h]
  exact iteT b
theorem it2 : InitText (sInit 2) := ⟨_, _, _, _, _, _, _, rfl, rfl, rfl⟩
theorem it3 : InitText (sInit 3) := ⟨_, _, _, _, _, _, _, rfl, rfl, rfl⟩
theorem it4 : InitText (sInit 4) := ⟨_, _, _, _, _, _, _, rfl, rfl, rfl⟩
end DQ

set_option Elab.async false
set_option linter.all false
set_option maxRecDepth 100000
set_option maxHeartbeats 400000
namespace DQ
open PySem PySem.Spec PyProof.Rows L2
abbrev sCheck : Stmt := topS 29
abbrev sIsItem : Stmt := topS 30
abbrev sCheckItem : Stmt := topS 31
theorem scCheck : FnScope ["store"] ["store"] (defScope sCheck) := ⟨rfl, rfl, rfl, by decide +kernel, rfl, by decide +kernel, by decide +kernel⟩
theorem scIsItem : FnScope ["store", "value"] ["store", "value"] (defScope sIsItem) := ⟨rfl, rfl, rfl, by decide +kernel, rfl, by decide +kernel, by decide +kernel⟩
theorem scCheckItem : FnScope ["store", "item"] ["store", "item"] (defScope sCheckItem) := ⟨rfl, rfl, rfl, by decide +kernel, rfl, by decide +kernel, by decide +kernel⟩
theorem flat_intsV (ns : List Int) : (ns.map V.int).all flatV = true := List.all_eq_true.mpr fun v hv => by
  obtain ⟨x, _, rfl⟩ := List.mem_map.mp hv
  rfl
theorem inV_int (i : Int) : ∀ ns : List Int, inV (.int i) (ns.map V.int) = decide (i ∈ ns)
  | [] => rfl
  | x :: r => by
    have ih := inV_int i r
    show ((x == i) || inV (.int i) (r.map V.int)) = _
    rw [ih]
    by_cases h : x = i
    · rw [h]; simp
    · rw [beq_eq_false_iff_ne.mpr h, Bool.false_or]
      exact decide_eq_decide.mpr ⟨fun z => List.mem_cons_of_mem _ z, fun z => by
        rcases List.mem_cons.mp z with z | z
        · exact absurd z.symm h
        · exact z⟩
/-- an error of the class at C goes out, v its value, all else as it was -/
def Throws (E : XK) (C : Addr) (v : V) (H : Hp) : Prop := ∀ (d : Addr) (H' : Hp), Same H H' → H d = none → H' d = some (.xd [("value", v)]) → E (.ref C) (some d) H'
theorem throw_read {K : PySem.W.Frag} {C : Addr} {H1 : Hp} {v : V} {Q : XK} (T : OexC K C) (noV : PySem.W.findIn K (.ref C) "value" = some none) (h : Throws Q C v H1) :
    ∀ a, H1 a = none → spInit K [.ref a, v] (upd H1 a (exo a C none)) (fun v H2 => v = .non ∧ ∃ (d : Addr) (fs : List (Str × V)), H2 a = some (exo a C (some d)) ∧ H2 d = some (exd d fs) ∧ H1 d = none ∧ Q (.ref C) (some d) (upd (del H2 a) d (.xd fs))) (fun _ _ _ => False) := fun a ha =>
  ⟨a, C, v, rfl, T, noV, upd_same, fun d hd ne => by
    have hd1 : H1 d = none := by
      rw [upd_ne ne] at hd
      exact hd
    refine ⟨rfl, d, _, upd_same, by rw [upd_ne ne, upd_same], hd1, h d _ (fun b o q => ?_) hd1 upd_same⟩
    have nb : b ≠ a := ne_of_none q ha
    have nd : b ≠ d := ne_of_none q hd1
    rw [upd_ne nd, del_ne nb, upd_ne nb, upd_ne nd, upd_ne nb]
    exact q⟩
theorem isStore_mono {K : PySem.W.Frag} {vs : List V} {H : Hp} {Q Q2 : VK} {E E2 : XK} (h : spIsStore K vs H Q E) (m : ∀ x H1, Q x H1 → Q2 x H1) : spIsStore K vs H Q2 E2 := by
  obtain ⟨v, e, h⟩ := h
  refine ⟨v, e, ?_⟩
  rcases h with ⟨d, hd, n5, q⟩ | ⟨t, s, m', c, i, f, ds, dm, dc, di, df, e1, e2, e3, e4, e5, e6, e7, e8, e9, e10, e11, e12, e13, q⟩
  · exact .inl ⟨d, hd, n5, fun H' s => m _ _ (q H' s)⟩
  · exact .inr ⟨t, s, m', c, i, f, ds, dm, dc, di, df, e1, e2, e3, e4, e5, e6, e7, e8, e9, e10, e11, e12, e13, fun H' s => m _ _ (q H' s)⟩
section
variable {P : Program} {w : World} {K : PySem.W.Frag} {mg : Str → Option Value} {base : Heap}
def spCheck (K : PySem.W.Frag) (C : Addr) : Sp := fun vs H Q E => ∃ (v : V) (b : Bool), vs = [v] ∧ spIsStore K [v] H (fun x H1 => x = .bl b ∧ (b = true → Q .non H1) ∧ (b = false → Throws E C v H1)) (fun _ _ _ => False)
theorem ok_check {f fs C : Addr} {fd fds : FuncData} (F : Fun K "check_store" "check_store" sCheck f fd) (GS : FnOk P w K mg base CX0 6 fs fds ["value"] (spIsStore K)) (bS : Binds K fds ["value"] []) (kS : PySem.W.keepIn K (.ref fs) = true) (mS : mg "is_store" = some (.ref fs))
    (U : ErrUse P w K mg base "InvalidStore" C) : FnOk P w K mg base (L2.CX P w) 7 f fd ["store"] (spCheck K C) := by
  obtain ⟨fI, fdI, ds, iC, tI, oI, bI, _, _, _⟩ := U.ok
  refine F.okX scCheck (fun vs H Q E h => ?_) (fun cdv A outer s H vs Q E hr h => ?_)
  · obtain ⟨_, _, rfl, _⟩ := h
    rfl
  obtain ⟨v, b, rfl, h⟩ := h
  refine ⟨_, pss_one (ps_if (pt_not (pt_val (pe_call GS (hr.mono (by decide)) rfl mS kS bS .nil pass0 (pa_cons (pv 0) pa_nil)))) (pss_one (ps_raise rfl (takes_of rfl rfl rfl rfl) (pmk_oex U.T iC tI oI (hr.mono (by decide)) bI .nil pass0 (by rfl) U.g (pa_cons (pv 0) pa_nil)))) pss_nil), ?_⟩
  obtain ⟨_, e, h⟩ := h
  cases e
  refine ⟨_, rfl, v, rfl, ?_⟩
  rcases h with ⟨d, hd, n5, q⟩ | ⟨t, s, m', c, i, f, ds, dm, dc, di, df, e1, e2, e3, e4, e5, e6, e7, e8, e9, e10, e11, e12, e13, q⟩
  · refine .inl ⟨d, hd, n5, fun H1 sm => ?_⟩
    obtain ⟨e, h1, h2⟩ := q H1 sm
    injection e with e
    exact ⟨_, rfl, _, rfl, (show 1 ≤ 1000 by decide), throw_read U.T U.noV (h2 e.symm)⟩
  · refine .inr ⟨t, s, m', c, i, f, ds, dm, dc, di, df, e1, e2, e3, e4, e5, e6, e7, e8, e9, e10, e11, e12, e13, fun H1 sm => ?_⟩
    obtain ⟨e, h1, h2⟩ := q H1 sm
    injection e with e
    rw [e]
    refine ⟨b, rfl, ite2 (fun c => ?_) fun c => ?_⟩
    · have c : b = false := by simpa using c
      exact ⟨_, rfl, (show 1 ≤ 1000 by decide), throw_read U.T U.noV (h2 c)⟩
    · have c : b = true := by simpa using c
      exact h1 c
/-- value in store[3], a number -/
def spIsItem (K : PySem.W.Frag) : Sp := fun vs H Q _ => ∃ (t ia : Addr) (a b c e : V) (ns : List Int) (v : V) (d : PyData), vs = [.ref t, v] ∧ SqT K H t [a, b, c, .ref ia, e] ∧ SqL K H ia (ns.map V.int) ∧ Dp K H v d ∧ Q (.bl (okItem ns d)) H
theorem ok_isItem {f fn : Addr} {fd fdn : FuncData} (F : Fun K "is_item" "is_item" sIsItem f fd) (GN : FnOk P w K mg base CX0 3 fn fdn ["value"] (spNumber K)) (bN : Binds K fdn ["value"] []) (kN : PySem.W.keepIn K (.ref fn) = true) (mN : mg "is_number" = some (.ref fn)) :
    FnOk P w K mg base CX0 4 f fd ["store", "value"] (spIsItem K) := by
  refine F.ok scIsItem (fun vs H Q E h => ?_) (fun cdv A outer s H vs Q E hr h => ?_)
  · obtain ⟨_, _, _, _, _, _, _, _, _, rfl, _⟩ := h
    rfl
  obtain ⟨t, ia, a, b, c, e, ns, v, d, rfl, ht, hi, hd, q⟩ := h
  refine ⟨_, pss_one (ps_ret (pe_and (pe_call GN (hr.mono (by decide)) rfl mN kN bN .nil pass0 (pa_cons (pv 1) pa_nil)) (pe_one (pe_cmpR op_in_seq (pv 1) (pe_ix (r := rIxT K) ix_tup (pv 0) pe_int (fun _ _ => rfl)) (by rfl))))), ?_⟩
  refine ⟨_, rfl, v, d, rfl, hd, _, rfl, ite2 (fun c1 => ?_) fun c1 => ?_⟩
  · cases hd with
    | int i =>
      refine ⟨_, rfl, _, rfl, t, _, 3, .ref ia, rfl, rfl, ht, atI_nat (j := 3) rfl, ia, _, rfl, .inl hi, rfl, flat_intsV ns, ?_⟩
      have e1 : inV (.int i) (ns.map V.int) = decide (i ∈ ns) := inV_int i ns
      have e2 : okItem ns (.int i) = decide (i ∈ ns) := by
        show (numD (.int i) && decide (i ∈ ns)) = _
        rw [c1, Bool.true_and]
      rw [e2] at q
      show Q (.bl (inV (.int i) (ns.map V.int))) H
      rw [e1]
      exact q
    | _ => exact absurd c1 (by simp [numD])
  · have e2 : okItem ns d = false := by
      unfold okItem
      rw [Bool.eq_false_iff.mpr c1, Bool.false_and]
    rw [e2] at q
    exact q
def spCheckItem (K : PySem.W.Frag) (C : Addr) : Sp := fun vs H Q E => ∃ (v iv : V) (b : Bool), vs = [v, iv] ∧ spIsItem K [v, iv] H (fun x H1 => H1 = H ∧ x = .bl b ∧ (b = true → Q .non H) ∧ (b = false → Throws E C iv H)) (fun _ _ _ => False)
theorem ok_checkItem {f fi C : Addr} {fd fdi : FuncData} (F : Fun K "check_item" "check_item" sCheckItem f fd) (GI : FnOk P w K mg base CX0 4 fi fdi ["store", "value"] (spIsItem K)) (bI : Binds K fdi ["store", "value"] []) (kI : PySem.W.keepIn K (.ref fi) = true) (mI : mg "is_item" = some (.ref fi))
    (U : ErrUse P w K mg base "InvalidItem" C) : FnOk P w K mg base (L2.CX P w) 5 f fd ["store", "item"] (spCheckItem K C) := by
  obtain ⟨fI, fdI, ds, iC, tI, oI, bI', _, _, _⟩ := U.ok
  refine F.okX scCheckItem (fun vs H Q E h => ?_) (fun cdv A outer s H vs Q E hr h => ?_)
  · obtain ⟨_, _, _, rfl, _⟩ := h
    rfl
  obtain ⟨v, iv, b, rfl, h⟩ := h
  refine ⟨_, pss_one (ps_if (pt_not (pt_val (pe_call GI (hr.mono (by decide)) rfl mI kI bI .nil pass0 (pa_cons (pv 0) (pa_cons (pv 1) pa_nil))))) (pss_one (ps_raise rfl (takes_of rfl rfl rfl rfl) (pmk_oex U.T iC tI oI (hr.mono (by decide)) bI' .nil pass0 (by rfl) U.g (pa_cons (pv 1) pa_nil)))) pss_nil), ?_⟩
  obtain ⟨t, ia, a, b', c, e, ns, v', d, e1, ht, hi, hd, _, e2, q2, q3⟩ := h
  injection e2 with e2
  refine ⟨_, rfl, _, rfl, t, ia, a, b', c, e, ns, v', d, e1, ht, hi, hd, ?_⟩
  rw [e2]
  refine ⟨b, rfl, ite2 (fun c => ?_) fun c => ?_⟩
  · have c : b = false := by simpa using c
    exact ⟨_, rfl, (show 1 ≤ 1000 by decide), throw_read U.T U.noV (q3 c)⟩
  · have c : b = true := by simpa using c
    exact q2 c
end
end DQ

set_option Elab.async false
set_option linter.all false
set_option maxRecDepth 100000
set_option maxHeartbeats 400000
namespace DQ
open PySem PySem.Spec PyProof.Rows L2
abbrev sFactsOf : Stmt := topS 32
abbrev NFo : List Str := ["store", "item", "fact"]
theorem scFactsOf : FnScope NFo ["store", "item"] (defScope sFactsOf) := ⟨rfl, rfl, rfl, by decide +kernel, rfl, by decide +kernel, by decide +kernel⟩
/-- the items of a fact -/
def Fact.its : Fact → List Int
  | .mark _ j => [j]
  | .link _ a b => [a, b]
/-- a fact speaks of the item -/
def Fact.has (i : Int) (x : Fact) : Bool := decide (i ∈ x.its)
theorem fact_drop (x : Fact) : x.v.drop 2 = x.its.map V.int := by cases x <;> rfl
theorem fact_len : ∀ x : Fact, 3 ≤ x.v.length
  | .mark _ _ => Nat.le_refl 3
  | .link _ _ _ => (by decide : 3 ≤ 4)
theorem filter_next {fs : List Fact} {k : Nat} {x : Fact} {p : Fact → Bool} (h : fs[k]? = some x) : (fs.take (k + 1)).filter p = (fs.take k).filter p ++ if p x = true then [x] else [] := by
  rw [take_next h, List.filter_append]
  congr 1
  by_cases e : p x = true
  · rw [if_pos e, List.filter_cons_of_pos e]
    rfl
  · rw [if_neg e, List.filter_cons_of_neg e]
    rfl
section
variable {P : Program} {w : World} {K : PySem.W.Frag} {mg : Str → Option Value} {base : Heap}
def spFactsOf (K : PySem.W.Frag) (C0 C3 : Addr) : Sp := fun vs H Q E => ∃ v iv : V, vs = [v, iv] ∧
  (spIsStore K [v] H (fun x H1 => x = .bl false ∧ Throws E C0 v H1) (fun _ _ _ => False) ∨
   ∃ (m : Nat) (S : Store) (d : PyData), m ≤ 2000 ∧ Drawn m S ∧ StoAt H v S ∧ Dp K H iv d ∧
    (okItem S.items d = false → ∀ H1, Same H H1 → Throws E C3 iv H1) ∧
    ∀ i, d = .int i → i ∈ S.items → ∀ (p : Addr) (rs : List V) (H1 : Hp), Same H H1 → H p = none → H1 p = some (.lst rs) → Tups H1 rs ((S.facts.filter (Fact.has i)).map Fact.v) → Q (.ref p) H1)
theorem ok_factsOf {f fc fi C0 C3 : Addr} {fd fdc fdi : FuncData} (F : Fun K "facts_of" "facts_of" sFactsOf f fd)
    (GC : FnOk P w K mg base (L2.CX P w) 7 fc fdc ["store"] (spCheck K C0)) (bC : Binds K fdc ["store"] []) (kC : PySem.W.keepIn K (.ref fc) = true) (mC : mg "check_store" = some (.ref fc))
    (GI : FnOk P w K mg base (L2.CX P w) 5 fi fdi ["store", "item"] (spCheckItem K C3)) (bI : Binds K fdi ["store", "item"] []) (kI : PySem.W.keepIn K (.ref fi) = true) (mI : mg "check_item" = some (.ref fi)) : FnOk P w K mg base (L2.CX P w) 8 f fd ["store", "item"] (spFactsOf K C0 C3) := by
  refine F.okX scFactsOf (fun vs H Q E h => ?_) (fun cdv A outer s H vs Q E hr h => ?_)
  · obtain ⟨_, _, rfl, _⟩ := h
    rfl
  obtain ⟨v, iv, rfl, h⟩ := h
  have nd := scFactsOf.nd
  refine ⟨_, (pss_cons (ps_expr (pe_callS GC hr rfl mC kC bC (fun σ => passAt (takes_of rfl rfl rfl rfl) σ) (pa_cons (pv 0) pa_nil)))
    (pss_cons (ps_expr (pe_callS GI (hr.mono (by decide)) rfl mI kI bI (fun σ => passAt (takes_of rfl rfl rfl rfl) σ) (pa_cons (pv 0) (pa_cons (pv 1) pa_nil))))
    (pss_one (ps_ret (pe_lc (own := [("fact", 2)]) (g := gName 2) rfl nd (pi_list (pe_ix (r := rIxT K) ix_tup (pv 0) pe_int (fun _ _ => rfl))) (blkOk_by (own := [("fact", 2)]) (N := NFo) (sc := defScope sFactsOf) (by decide +kernel)) (fun _ _ _ _ _ => pg_name (i := 2) nd rfl (Or.inl rfl))
      (fun _ _ _ _ _ => pts_one (pt_cmpR (r := rIn K false) op_in_seq (pv 1) (pe_slice (r := rSlT K) sl_tup (pv 2) (po_some pe_int) po_none) (by rfl))) (fun _ _ _ _ _ => pv 2)))))), ?_⟩
  rcases h with h | ⟨m, S, d, hm, Dr, A, hd, bad, good⟩
  · exact ⟨_, rfl, v, false, rfl, isStore_mono h fun x H1 hx => ⟨hx.1, (fun e => nomatch e), fun _ => hx.2⟩⟩
  refine ⟨_, rfl, v, true, rfl, store_asks hm Dr A fun H1 sm => ⟨rfl, fun _ => ?_, (fun e => nomatch e)⟩⟩
  obtain ⟨t, ma, ca, ia, fa, rs, rfl, ht, hma, hca, hia, hfa, tp⟩ := A
  have ht1 := sm _ _ ht
  refine ⟨_, rfl, _, rfl, _, iv, okItem S.items d, rfl, t, ia, .str "store", .ref ma, .ref ca, .ref fa, S.items, iv, d, rfl, .inl (.inl ht1), SqL.of (sm _ _ hia), dp_same sm _ _ hd, rfl, rfl, fun c => ?_, fun c => bad c H1 sm⟩
  obtain ⟨i, hi, rfl⟩ := okItem_int c
  cases hd with
  | int _ =>
  have good := good i rfl hi
  have hfa1 := sm _ _ hfa
  refine ⟨_, rfl, t, _, 4, .ref fa, rfl, rfl, .inl (.inl ht1), atI_nat (j := 4) rfl, fa, rfl, ⟨_, SqL.of hfa1⟩, fun D nD => lc_list (K := K) (a := fa) (xs := rs) (fun k H' => ∃ rs' : List V, H' D = some (.lst rs') ∧ rs'.length ≤ k ∧ Tups H' rs' (((S.facts.take k).filter (Fact.has i)).map Fact.v) ∧ Same H1 H')
    ⟨[], upd_same, Nat.le_refl _, .nil, same_new nD⟩ (fun k H' _ hP => ?_) (fun k x H' hx hP => ?_) fun H' hP => ?_⟩
  · obtain ⟨rs', eD, l, tp', s'⟩ := hP
    exact SqL.of (s' _ _ hfa1)
  · obtain ⟨rs', eD, l, tp', s'⟩ := hP
    obtain ⟨a, tv, rfl, ha, hv⟩ := tp.get hx
    obtain ⟨y, hy, rfl⟩ := at_map hv
    have ha' : H' a = some (.tup y.v) := s' _ _ (sm _ _ ha)
    have lk : k < 1000 := Nat.lt_of_lt_of_le (List.getElem?_eq_some_iff.mp hy).1 Dr.short
    refine ⟨rfl, _, rfl, _, rfl, _, rfl, a, _, rfl, .inl (.inl ha'), fun z => ?_, fun p np => ?_⟩
    · have z := z.1
      rw [show (some (2 : Int)) = some ((2 : Nat) : Int) from rfl, HT.sIx_nat] at z
      have := fact_len y
      omega
    rw [show (some (2 : Int)) = some ((2 : Nat) : Int) from rfl, cut_drop, fact_drop]
    have mp := same_new np (o := .tup (y.its.map V.int))
    have ep : upd H' p (.tup (y.its.map V.int)) p = some (.tup (y.its.map V.int)) := upd_same
    generalize upd H' p (.tup (y.its.map V.int)) = H2 at mp ep ⊢
    have e1 : inV (.int i) (y.its.map V.int) = Fact.has i y := inV_int i y.its
    refine ⟨p, _, rfl, .inr (.inl (.inl ep)), rfl, flat_intsV _, _, rfl, ?_⟩
    show if inV (.int i) (y.its.map V.int) = true then _ else _
    rw [e1]
    have eD2 := mp _ _ eD
    refine ite2 (fun c2 => ?_) fun c2 => ?_
    · refine ⟨_, rfl, rs', eD2, small1000 (by omega), rs' ++ [.ref a], upd_same, ?_, ?_, ?_⟩
      · rw [List.length_append, List.length_singleton]
        omega
      · rw [filter_next hy, if_pos c2, List.map_append]
        exact (Tups.put (mp _ _ ha') (tp'.keep (tk_same mp))).keep (tk_lst eD2)
      · exact same_upd (s'.trans mp) nD
    · refine ⟨rs', eD2, by omega, ?_, s'.trans mp⟩
      rw [filter_next hy, if_neg c2, List.append_nil]
      exact tp'.keep (tk_same mp)
  · obtain ⟨rs', eD, l, tp', s'⟩ := hP
    rw [show rs.length = S.facts.length by rw [tp.length, List.length_map], List.take_length] at tp'
    exact good D rs' H' (sm.trans s') (L2.Same.free sm nD) eD tp'
end
end DQ

set_option Elab.async false
set_option linter.all false
set_option maxRecDepth 100000
set_option maxHeartbeats 400000
namespace DQ
open PySem PySem.Spec PyProof.Rows L2
abbrev sLed : Stmt := topS 33
theorem scLed : FnScope ["store", "column", "item"] ["store", "column", "item"] (defScope sLed) := ⟨rfl, rfl, rfl, by decide +kernel, rfl, by decide +kernel, by decide +kernel⟩
section
variable {P : Program} {w : World} {K : PySem.W.Frag} {mg : Str → Option Value} {base : Heap}
/-- which error a call with a drawn store asks for, if any -/
def LedAsks (K : PySem.W.Frag) (C0 C2 C3 : Addr) (H : Hp) (v cv iv : V) (E : XK) (go : Store → Str → Int → Prop) : Prop :=
  spIsStore K [v] H (fun x H1 => x = .bl false ∧ Throws E C0 v H1) (fun _ _ _ => False) ∨
   ∃ (m : Nat) (S : Store) (dc d : PyData), m ≤ 2000 ∧ Drawn m S ∧ StoAt H v S ∧ Dp K H cv dc ∧ SeqAt.shaped dc = true ∧ Dp K H iv d ∧
    (hasD S.columns dc = false → ∀ H1, Same H H1 → Throws E C2 cv H1) ∧ (hasD S.columns dc = true → okItem S.items d = false → ∀ H1, Same H H1 → Throws E C3 iv H1) ∧
    ∀ c i, dc = .str c → d = .int i → c ∈ S.columns → i ∈ S.items → go S c i
def spLed (K : PySem.W.Frag) (C0 C2 C3 : Addr) : Sp := fun vs H Q E => ∃ v cv iv : V, vs = [v, cv, iv] ∧ LedAsks K C0 C2 C3 H v cv iv E fun _ _ _ => ∀ H1, Same H H1 → Q .non H1
theorem ok_led {f fc fi C0 C2 C3 : Addr} {fd fdc fdi : FuncData} (F : Fun K "check_led" "check_led" sLed f fd)
    (GC : FnOk P w K mg base (L2.CX P w) 7 fc fdc ["store"] (spCheck K C0)) (bC : Binds K fdc ["store"] []) (kC : PySem.W.keepIn K (.ref fc) = true) (mC : mg "check_store" = some (.ref fc))
    (GI : FnOk P w K mg base (L2.CX P w) 5 fi fdi ["store", "item"] (spCheckItem K C3)) (bI : Binds K fdi ["store", "item"] []) (kI : PySem.W.keepIn K (.ref fi) = true) (mI : mg "check_item" = some (.ref fi))
    (U2 : ErrUse P w K mg base "InvalidName" C2) : FnOk P w K mg base (L2.CX P w) 8 f fd ["store", "column", "item"] (spLed K C0 C2 C3) := by
  obtain ⟨fI2, fdI2, ds2, iC2, tI2, oI2, bI2, _, _, _⟩ := U2.ok
  refine F.okX scLed (fun vs H Q E h => ?_) (fun cdv A outer s H vs Q E hr h => ?_)
  · obtain ⟨_, _, _, rfl, _⟩ := h
    rfl
  obtain ⟨v, cv, iv, rfl, h⟩ := h
  have nd := scLed.nd
  refine ⟨_, (pss_cons (ps_expr (pe_callS GC hr rfl mC kC bC (fun σ => passAt (takes_of rfl rfl rfl rfl) σ) (pa_cons (pv 0) pa_nil)))
    (pss_cons (ps_if (pt_cmpR (op_notInD (room65 hr)) (pv 1) (pe_ix (r := rIxT K) ix_tup (pv 0) pe_int (fun _ _ => rfl)) (by rfl)) (pss_one (ps_raise rfl (takes_of rfl rfl rfl rfl) (pmk_oex U2.T iC2 tI2 oI2 (hr.mono (by decide)) bI2 .nil pass0 (by rfl) U2.g (pa_cons (pv 1) pa_nil)))) pss_nil)
    (pss_one (ps_expr (pe_callS GI (hr.mono (by decide)) rfl mI kI bI (fun σ => passAt (takes_of rfl rfl rfl rfl) σ) (pa_cons (pv 0) (pa_cons (pv 2) pa_nil))))))), ?_⟩
  rcases h with h | ⟨m, S, dc, d, hm, Dr, A, hc, shc, hd, bad2, bad3, good⟩
  · exact ⟨_, rfl, v, false, rfl, isStore_mono h fun x H1 hx => ⟨hx.1, (fun e => nomatch e), fun _ => hx.2⟩⟩
  refine ⟨_, rfl, v, true, rfl, store_asks hm Dr A fun H1 sm => ⟨rfl, fun _ => ?_, (fun e => nomatch e)⟩⟩
  have laid : SeqAt.shaped (.list (S.columns.map PyData.str)) = true := by
    obtain ⟨j, h1, h2, ej⟩ := Dr.columns
    have c : j = 1 ∨ j = 2 := by omega
    rw [ej]
    rcases c with rfl | rfl <;> decide +kernel
  obtain ⟨t, ma, ca, ia, fa, rs, rfl, ht, hma, hca, hia, hfa, tp⟩ := A
  have ht1 := sm _ _ ht
  refine ⟨_, rfl, _, rfl, t, _, 2, .ref ca, rfl, rfl, .inl (.inl ht1), atI_nat (j := 2) rfl, dc, S.columns.map PyData.str, dp_same sm _ _ hc, .lst (SqL.of (sm _ _ hca)) (dp_texts S.columns), shc, laid, _, rfl, ite2 (fun c1 => ?_) fun c1 => ?_⟩
  · have c1 : hasD S.columns dc = false := by
      have c1 : (!hasD S.columns dc) = true := c1
      simpa using c1
    exact ⟨_, rfl, (show 1 ≤ 1000 by decide), throw_read U2.T U2.noV (bad2 c1 H1 sm)⟩
  have c1 : hasD S.columns dc = true := by
    have c1 : ¬ (!hasD S.columns dc) = true := c1
    simpa using c1
  refine ⟨_, rfl, _, rfl, _, iv, okItem S.items d, rfl, t, ia, .str "store", .ref ma, .ref ca, .ref fa, S.items, iv, d, rfl, .inl (.inl ht1), SqL.of (sm _ _ hia), dp_same sm _ _ hd, rfl, rfl, fun c => ?_, fun c => bad3 c1 c H1 sm⟩
  obtain ⟨i, hi, rfl⟩ := okItem_int c
  obtain ⟨cc, hcc, rfl⟩ := hasD_str c1
  exact good cc i rfl rfl hcc hi H1 sm
end
end DQ

set_option Elab.async false
set_option linter.all false
set_option maxRecDepth 100000
set_option maxHeartbeats 400000
namespace DQ
open PySem PySem.Spec PyProof.Rows L2
abbrev sTo : Stmt := topS 34
abbrev sFrom : Stmt := topS 35
abbrev NL4 : List Str := ["store", "column", "item", "fact"]
theorem scTo : FnScope NL4 ["store", "column", "item"] (defScope sTo) := ⟨rfl, rfl, rfl, by decide +kernel, rfl, by decide +kernel, by decide +kernel⟩
theorem scFrom : FnScope NL4 ["store", "column", "item"] (defScope sFrom) := ⟨rfl, rfl, rfl, by decide +kernel, rfl, by decide +kernel, by decide +kernel⟩
/-- where the column leads the item -/
def toV (fs : List Fact) (c : Str) (i : Int) : V := match fs.find? (isFrom c i) with
  | some (.link _ _ b) => .int b
  | _ => .non
/-- from where the column leads to the item -/
def fromV (fs : List Fact) (c : Str) (i : Int) : V := match fs.find? (isTo c i) with
  | some (.link _ a _) => .int a
  | _ => .non
theorem find_at {α : Type} {p : α → Bool} : ∀ {l : List α} {k : Nat} {y : α}, l[k]? = some y → (∀ x ∈ l.take k, p x = false) → p y = true → l.find? p = some y
  | [], _, _, h, _, _ => by simp at h
  | x :: l, 0, y, h, _, hp => by
    cases h
    exact List.find?_cons_of_pos hp
  | x :: l, k + 1, y, h, hn, hp => by
    rw [List.find?_cons_of_neg (by rw [hn x (by rw [List.take_succ_cons]; exact List.mem_cons_self ..)]; exact Bool.false_ne_true)]
    exact find_at (k := k) (by simpa using h) (fun z hz => hn z (by rw [List.take_succ_cons]; exact List.mem_cons_of_mem _ hz)) hp
theorem find_no {α : Type} {p : α → Bool} {l : List α} (h : ∀ x ∈ l, p x = false) : l.find? p = none := List.find?_eq_none.mpr fun x hx => by
  rw [h x hx]
  exact Bool.false_ne_true
theorem shaped3 {a b : Str} {i : Int} (ha : PyData.canLay0 (.str a) = true) (hb : PyData.canLay0 (.str b) = true) : SeqAt.shaped (.tuple [.str a, .str b, .int i]) = true := by
  show (PyData.canLay0 _ && _) = true
  simp only [PyData.canLay0, PyData.canLayAll0, Bool.and_true] at ha hb ⊢
  rw [ha, hb]
  rfl
theorem shaped2 {a b : Str} (ha : PyData.canLay0 (.str a) = true) (hb : PyData.canLay0 (.str b) = true) : SeqAt.shaped (.tuple [.str a, .str b]) = true := by
  show (PyData.canLay0 _ && _) = true
  simp only [PyData.canLay0, PyData.canLayAll0, Bool.and_true] at ha hb ⊢
  rw [ha, hb]
  rfl
theorem lay_mark : PyData.canLay0 (.str "mark") = true := by decide +kernel
theorem lay_link : PyData.canLay0 (.str "link") = true := by decide +kernel
theorem ledAsks_mono {K : PySem.W.Frag} {C0 C2 C3 : Addr} {H : Hp} {v cv iv : V} {E : XK} {go go2 : Store → Str → Int → Prop} (h : LedAsks K C0 C2 C3 H v cv iv E go) (m : ∀ (S : Store) (k : Nat) c i, StoAt H v S → Drawn k S → cv = .str c → iv = .int i → c ∈ S.columns → i ∈ S.items → go S c i → go2 S c i) : LedAsks K C0 C2 C3 H v cv iv E go2 := by
  rcases h with h | ⟨k, S, dc, d, hm, D, A, hc, sh, hd, b2, b3, good⟩
  · exact .inl h
  · refine .inr ⟨k, S, dc, d, hm, D, A, hc, sh, hd, b2, b3, fun c i e1 e2 h1 h2 => ?_⟩
    subst e1 e2
    have A' := A
    obtain ⟨t, _, _, _, _, _, rfl, _⟩ := A'
    cases hc
    cases hd
    exact m S k c i A D rfl rfl h1 h2 (good c i rfl rfl h1 h2)
section
variable {P : Program} {w : World} {K : PySem.W.Frag} {mg : Str → Option Value} {base : Heap}
def spTo (K : PySem.W.Frag) (C0 C2 C3 : Addr) (f : List Fact → Str → Int → V) : Sp := fun vs H Q E => ∃ v cv iv : V, vs = [v, cv, iv] ∧ LedAsks K C0 C2 C3 H v cv iv E fun S c i => ∀ H1, Same H H1 → Q (f S.facts c i) H1
theorem ok_to {f fl C0 C2 C3 : Addr} {fd fdl : FuncData} (F : Fun K "led_to" "led_to" sTo f fd)
    (GL : FnOk P w K mg base (L2.CX P w) 8 fl fdl ["store", "column", "item"] (spLed K C0 C2 C3)) (bL : Binds K fdl ["store", "column", "item"] []) (kL : PySem.W.keepIn K (.ref fl) = true) (mL : mg "check_led" = some (.ref fl)) :
    FnOk P w K mg base (L2.CX P w) 9 f fd ["store", "column", "item"] (spTo K C0 C2 C3 toV) := by
  refine F.okX scTo (fun vs H Q E h => ?_) (fun cdv A outer s H vs Q E hr h => ?_)
  · obtain ⟨_, _, _, rfl, _⟩ := h
    rfl
  obtain ⟨v, cv, iv, rfl, h⟩ := h
  have nd := scTo.nd
  refine ⟨_, (pss_cons (ps_expr (pe_callS GL hr rfl mL kL bL (fun σ => passAt (takes_of rfl rfl rfl rfl) σ) (pa_cons (pv 0) (pa_cons (pv 1) (pa_cons (pv 2) pa_nil)))))
    (pss_cons (ps_for (passes_of rfl) rfl (pi_list (pe_ix (r := rIxT K) ix_tup (pv 0) pe_int (fun _ _ => rfl))) (pg_name (i := 3) nd rfl (.inl rfl))
      (pss_one (ps_if (pt_cmpR (op_eqD hr.units) (pe_slice sl_tupA (pv 3) po_none (po_some pe_int)) (pe_tup (pa_cons pe_str (pa_cons (pv 1) (pa_cons (pv 2) pa_nil)))) (nomark _)) (pss_one (ps_ret (pe_ix (r := rIxT K) ix_tup (pv 3) pe_int (fun _ _ => rfl)))) pss_nil)))
    (pss_one (ps_ret pe_non)))), ?_⟩
  refine ⟨_, rfl, _, rfl, _, rfl, v, cv, iv, rfl, ledAsks_mono h fun S k c i A D e1 e2 hc hi q H1 sm => ?_⟩
  subst e1 e2
  obtain ⟨t, ma, ca, ia, fa, rs, rfl, ht, hma, hca, hia, hfa, tp⟩ := A
  have ht1 := sm _ _ ht
  have hfa1 := sm _ _ hfa
  have lc := (lay_words _ (D.word (.inr hc))).1
  refine ⟨_, rfl, t, _, 4, .ref fa, rfl, rfl, .inl (.inl ht1), atI_nat (j := 4) rfl, fa, rfl, ⟨_, SqL.of hfa1⟩, for_list (K := K) (a := fa) (xs := rs) (fun k σ H' => ∃ y3 : Option V, σ = [some (.ref t), some (.str c), some (.int i), y3] ∧ Same H1 H' ∧ ∀ x ∈ S.facts.take k, isFrom c i x = false)
    ⟨none, rfl, L2.Same.refl _, fun x h => by cases h⟩ (fun k σ H' _ hP => ?_) (fun k x σ H' hx hP => ?_) fun σ H' hP => ?_⟩
  · obtain ⟨y3, rfl, s', no⟩ := hP
    exact SqL.of (s' _ _ hfa1)
  · obtain ⟨y3, rfl, s', no⟩ := hP
    obtain ⟨a, tv, rfl, ha, hv⟩ := tp.get hx
    obtain ⟨y, hy, rfl⟩ := at_map hv
    have ha' : H' a = some (.tup y.v) := s' _ _ (sm _ _ ha)
    have ly := (lay_words _ (D.factWord (List.mem_of_getElem? hy))).1
    cases y with
    | mark m j =>
      refine ⟨_, rfl, _, rfl, a, _, rfl, .inl (.inl ha'), fun _ => ?_, fun z => absurd ⟨rfl, rfl⟩ z⟩
      refine ⟨_, rfl, _, rfl, by show 3 ≤ sizeLine; decide, fun T nT => ?_⟩
      have mT := same_new nT (o := .tup [.str "link", .str c, .int i])
      have eT : upd H' T (.tup [.str "link", .str c, .int i]) T = some (.tup [.str "link", .str c, .int i]) := upd_same
      generalize upd H' T (.tup [.str "link", .str c, .int i]) = H2 at mT eT ⊢
      refine ⟨(Fact.mark m j).d, .tuple [.str "link", .str c, .int i], fact_dp (mT _ _ ha'), .tup (.inl (.inl eT)) (.cons (.str _) (.cons (.str _) (.cons (.int _) .nil))), fact_shaped _ ly, shaped3 lay_link lc, _, rfl, ?_⟩
      have e : PyData.eqv (Fact.mark m j).d (.tuple [.str "link", .str c, .int i]) = false := by
        simp only [Fact.d, PyData.eqv, PyData.eqvAll]
        rw [show (("mark" : Str) == "link") = false by decide]
        rfl
      rw [e]
      refine ⟨_, rfl, s'.trans mT, fun x hx => ?_⟩
      rw [take_next hy] at hx
      rcases List.mem_append.mp hx with hx | hx
      · exact no x hx
      · rw [List.mem_singleton.mp hx]
        rfl
    | link c' p r =>
      refine ⟨_, rfl, _, rfl, a, _, rfl, .inl (.inl ha'), fun z => absurd z.2 (show ¬ HT.sIx 4 4 (some 3) = 4 by decide), fun _ T nT => ?_⟩
      rw [cut_take (show (0 : Int) ≤ 3 by decide)]
      have mT := same_new nT (o := .tup ((Fact.link c' p r).v.take (3 : Int).toNat))
      have eT : upd H' T (.tup ((Fact.link c' p r).v.take (3 : Int).toNat)) T = some (.tup [.str "link", .str c', .int p]) := upd_same
      generalize upd H' T (.tup ((Fact.link c' p r).v.take (3 : Int).toNat)) = H2 at mT eT ⊢
      refine ⟨_, rfl, _, rfl, by show 3 ≤ sizeLine; decide, fun T2 nT2 => ?_⟩
      have mT2 := same_new nT2 (o := .tup [.str "link", .str c, .int i])
      have eT2 : upd H2 T2 (.tup [.str "link", .str c, .int i]) T2 = some (.tup [.str "link", .str c, .int i]) := upd_same
      generalize upd H2 T2 (.tup [.str "link", .str c, .int i]) = H3 at mT2 eT2 ⊢
      refine ⟨.tuple [.str "link", .str c', .int p], .tuple [.str "link", .str c, .int i], .tup (.inl (.inl (mT2 _ _ eT))) (.cons (.str _) (.cons (.str _) (.cons (.int _) .nil))), .tup (.inl (.inl eT2)) (.cons (.str _) (.cons (.str _) (.cons (.int _) .nil))), shaped3 lay_link ly, shaped3 lay_link lc, _, rfl, ?_⟩
      have e : PyData.eqv (.tuple [.str "link", .str c', .int p]) (.tuple [.str "link", .str c, .int i]) = isFrom c i (.link c' p r) := by
        show _ = (decide (c' = c) && decide (p = i))
        simp only [PyData.eqv, PyData.eqvAll, Bool.and_true]
        rw [show (("link" : Str) == "link") = true by decide, Bool.true_and]
        congr 1
      rw [e]
      refine ite2 (fun c2 => ?_) fun c2 => ?_
      · have e : toV S.facts c i = .int r := by
          unfold toV
          rw [find_at hy no c2]
        rw [e] at q
        exact ⟨_, rfl, a, _, 3, .int r, rfl, rfl, .inl (.inl (mT2 _ _ (mT _ _ ha'))), atI_nat (j := 3) rfl, q H3 (sm.trans ((s'.trans mT).trans mT2))⟩
      · refine ⟨_, rfl, (s'.trans mT).trans mT2, fun x hx => ?_⟩
        rw [take_next hy] at hx
        rcases List.mem_append.mp hx with hx | hx
        · exact no x hx
        · rw [List.mem_singleton.mp hx]
          exact Bool.eq_false_iff.mpr c2
  · obtain ⟨y3, rfl, s', no⟩ := hP
    rw [show rs.length = S.facts.length by rw [tp.length, List.length_map], List.take_length] at no
    have e : toV S.facts c i = .non := by
      unfold toV
      rw [find_no no]
    rw [e] at q
    exact q H' (sm.trans s')
end
end DQ

set_option Elab.async false
set_option linter.all false
set_option maxRecDepth 100000
set_option maxHeartbeats 400000
namespace DQ
open PySem PySem.Spec PyProof.Rows L2
theorem dec_ints {a b : Int} : decide (V.int a = V.int b) = decide (a = b) := decide_eq_decide.mpr ⟨fun h => by injection h, fun h => by rw [h]⟩
section
variable {P : Program} {w : World} {K : PySem.W.Frag} {mg : Str → Option Value} {base : Heap}
theorem ok_from {f fl C0 C2 C3 : Addr} {fd fdl : FuncData} (F : Fun K "led_from" "led_from" sFrom f fd)
    (GL : FnOk P w K mg base (L2.CX P w) 8 fl fdl ["store", "column", "item"] (spLed K C0 C2 C3)) (bL : Binds K fdl ["store", "column", "item"] []) (kL : PySem.W.keepIn K (.ref fl) = true) (mL : mg "check_led" = some (.ref fl)) :
    FnOk P w K mg base (L2.CX P w) 9 f fd ["store", "column", "item"] (spTo K C0 C2 C3 fromV) := by
  refine F.okX scFrom (fun vs H Q E h => ?_) (fun cdv A outer s H vs Q E hr h => ?_)
  · obtain ⟨_, _, _, rfl, _⟩ := h
    rfl
  obtain ⟨v, cv, iv, rfl, h⟩ := h
  have nd := scFrom.nd
  refine ⟨_, (pss_cons (ps_expr (pe_callS GL hr rfl mL kL bL (fun σ => passAt (takes_of rfl rfl rfl rfl) σ) (pa_cons (pv 0) (pa_cons (pv 1) (pa_cons (pv 2) pa_nil)))))
    (pss_cons (ps_for (passes_of rfl) rfl (pi_list (pe_ix (r := rIxT K) ix_tup (pv 0) pe_int (fun _ _ => rfl))) (pg_name (i := 3) nd rfl (.inl rfl))
      (pss_one (ps_if (PW.pt (pw_and (pt_cmpR (op_eqD hr.units) (pe_slice sl_tup (pv 3) po_none (po_some pe_int)) (pe_tup (pa_cons pe_str (pa_cons (pv 1) pa_nil))) (nomark _)) (pw_and1 (pt_cmpR op_eq (pe_ix (r := rIxT K) ix_tup (pv 3) pe_int (fun _ _ => rfl)) (pv 2) (nomark _))))) (pss_one (ps_ret (pe_ix (r := rIxT K) ix_tup (pv 3) pe_int (fun _ _ => rfl)))) pss_nil)))
    (pss_one (ps_ret pe_non)))), ?_⟩
  refine ⟨_, rfl, _, rfl, _, rfl, v, cv, iv, rfl, ledAsks_mono h fun S k c i A D e1 e2 hc hi q H1 sm => ?_⟩
  subst e1 e2
  obtain ⟨t, ma, ca, ia, fa, rs, rfl, ht, hma, hca, hia, hfa, tp⟩ := A
  have ht1 := sm _ _ ht
  have hfa1 := sm _ _ hfa
  have lc := (lay_words _ (D.word (.inr hc))).1
  refine ⟨_, rfl, t, _, 4, .ref fa, rfl, rfl, .inl (.inl ht1), atI_nat (j := 4) rfl, fa, rfl, ⟨_, SqL.of hfa1⟩, for_list (K := K) (a := fa) (xs := rs) (fun k σ H' => ∃ y3 : Option V, σ = [some (.ref t), some (.str c), some (.int i), y3] ∧ Same H1 H' ∧ ∀ x ∈ S.facts.take k, isTo c i x = false)
    ⟨none, rfl, L2.Same.refl _, fun x h => by cases h⟩ (fun k σ H' _ hP => ?_) (fun k x σ H' hx hP => ?_) fun σ H' hP => ?_⟩
  · obtain ⟨y3, rfl, s', no⟩ := hP
    exact SqL.of (s' _ _ hfa1)
  · obtain ⟨y3, rfl, s', no⟩ := hP
    obtain ⟨a, tv, rfl, ha, hv⟩ := tp.get hx
    obtain ⟨y, hy, rfl⟩ := at_map hv
    have ha' : H' a = some (.tup y.v) := s' _ _ (sm _ _ ha)
    have ly := (lay_words _ (D.factWord (List.mem_of_getElem? hy))).1
    have next : ∀ H'' : Hp, L2.Same H1 H'' → isTo c i y = false → L2.Same H1 H'' ∧ ∀ x ∈ S.facts.take (k + 1), isTo c i x = false := fun H'' s2 e => ⟨s2, fun x hx => by
      rw [take_next hy] at hx
      rcases List.mem_append.mp hx with hx | hx
      · exact no x hx
      · rw [List.mem_singleton.mp hx]
        exact e⟩
    cases y with
    | mark m j =>
      refine ⟨_, rfl, _, rfl, a, _, rfl, .inl (.inl ha'), (fun z => absurd z.2 (show ¬ HT.sIx 3 3 (some 2) = 3 by decide)), fun T nT => ?_⟩
      rw [cut_take (show (0 : Int) ≤ 2 by decide)]
      have mT := same_new nT (o := .tup ((Fact.mark m j).v.take (2 : Int).toNat))
      have eT : upd H' T (.tup ((Fact.mark m j).v.take (2 : Int).toNat)) T = some (.tup [.str "mark", .str m]) := upd_same
      generalize upd H' T (.tup ((Fact.mark m j).v.take (2 : Int).toNat)) = H2 at mT eT ⊢
      refine ⟨_, rfl, by show 2 ≤ sizeLine; decide, fun T2 nT2 => ?_⟩
      have mT2 := same_new nT2 (o := .tup [.str "link", .str c])
      have eT2 : upd H2 T2 (.tup [.str "link", .str c]) T2 = some (.tup [.str "link", .str c]) := upd_same
      generalize upd H2 T2 (.tup [.str "link", .str c]) = H3 at mT2 eT2 ⊢
      refine ⟨.tuple [.str "mark", .str m], .tuple [.str "link", .str c], .tup (.inl (.inl (mT2 _ _ eT))) (.cons (.str _) (.cons (.str _) .nil)), .tup (.inl (.inl eT2)) (.cons (.str _) (.cons (.str _) .nil)), shaped2 lay_mark ly, shaped2 lay_link lc, _, rfl, ?_⟩
      have e : PyData.eqv (.tuple [.str "mark", .str m]) (.tuple [.str "link", .str c]) = false := by
        simp only [PyData.eqv, PyData.eqvAll]
        rw [show (("mark" : Str) == "link") = false by decide]
        rfl
      rw [e]
      exact ⟨_, rfl, next _ ((s'.trans mT).trans mT2) rfl⟩
    | link c' p r =>
      refine ⟨_, rfl, _, rfl, a, _, rfl, .inl (.inl ha'), (fun z => absurd z.2 (show ¬ HT.sIx 4 4 (some 2) = 4 by decide)), fun T nT => ?_⟩
      rw [cut_take (show (0 : Int) ≤ 2 by decide)]
      have mT := same_new nT (o := .tup ((Fact.link c' p r).v.take (2 : Int).toNat))
      have eT : upd H' T (.tup ((Fact.link c' p r).v.take (2 : Int).toNat)) T = some (.tup [.str "link", .str c']) := upd_same
      generalize upd H' T (.tup ((Fact.link c' p r).v.take (2 : Int).toNat)) = H2 at mT eT ⊢
      refine ⟨_, rfl, by show 2 ≤ sizeLine; decide, fun T2 nT2 => ?_⟩
      have mT2 := same_new nT2 (o := .tup [.str "link", .str c])
      have eT2 : upd H2 T2 (.tup [.str "link", .str c]) T2 = some (.tup [.str "link", .str c]) := upd_same
      generalize upd H2 T2 (.tup [.str "link", .str c]) = H3 at mT2 eT2 ⊢
      refine ⟨.tuple [.str "link", .str c'], .tuple [.str "link", .str c], .tup (.inl (.inl (mT2 _ _ eT))) (.cons (.str _) (.cons (.str _) .nil)), .tup (.inl (.inl eT2)) (.cons (.str _) (.cons (.str _) .nil)), shaped2 lay_link ly, shaped2 lay_link lc, _, rfl, ?_⟩
      have e : PyData.eqv (.tuple [.str "link", .str c']) (.tuple [.str "link", .str c]) = decide (c' = c) := by
        simp only [PyData.eqv, PyData.eqvAll, Bool.and_true]
        rw [show (("link" : Str) == "link") = true by decide, Bool.true_and]
        rfl
      rw [e]
      have et : isTo c i (.link c' p r) = (decide (c' = c) && decide (r = i)) := rfl
      have all3 : L2.Same H1 H3 := (s'.trans mT).trans mT2
      have a3 := mT2 _ _ (mT _ _ ha')
      refine ite2 (fun c2 => ?_) fun c2 => ?_
      · rw [c2, Bool.true_and] at et
        refine ⟨_, rfl, a, _, 3, .int r, rfl, rfl, .inl (.inl a3), atI_nat (j := 3) rfl, _, rfl, rfl, _, rfl, ?_⟩
        rw [dec_ints]
        refine ite2 (fun c3 => ?_) fun c3 => ?_
        · have e : fromV S.facts c i = .int p := by
            unfold fromV
            rw [find_at hy no (et.trans c3)]
          rw [e] at q
          exact ⟨_, rfl, a, _, 2, .int p, rfl, rfl, .inl (.inl a3), atI_nat (j := 2) rfl, q H3 (sm.trans all3)⟩
        · exact ⟨_, rfl, next _ all3 (et.trans (Bool.eq_false_iff.mpr c3))⟩
      · rw [Bool.eq_false_iff.mpr c2, Bool.false_and] at et
        exact ⟨_, rfl, next _ all3 et⟩
  · obtain ⟨y3, rfl, s', no⟩ := hP
    rw [show rs.length = S.facts.length by rw [tp.length, List.length_map], List.take_length] at no
    have e : fromV S.facts c i = .non := by
      unfold fromV
      rw [find_no no]
    rw [e] at q
    exact q H' (sm.trans s')
end
end DQ

set_option Elab.async false
set_option linter.all false
set_option maxRecDepth 100000
set_option maxHeartbeats 1000000
namespace DQ
open PySem PySem.Spec PyProof.Rows L2
/-! ### try: body, except x as n: suite, where the error outlives the suite -/
/-- an error that was raised and caught stands at a -/
def exq (a : Addr) (cls : Value) (d : Option Addr) : HO := .ext fun h => ∃ (oe : Obj) (vs : Array Value), h.get? a = some oe ∧ Zc cls d oe ∧ oe.data = .fields vs
theorem exq_ok {P : Program} {w : World} {H : Hp} {h : Heap} {a : Addr} {cls : Value} {d : Option Addr} {oe : Obj} {vs : Array Value} (e : h.get? a = some oe) (z : Zc cls d oe) (hd : oe.data = .fields vs) : ObjOk P w H h a (exq a cls d) :=
  ⟨⟨oe, vs, e, z, hd⟩, ⟨oe, e⟩, fun h1 h2 ⟨o, v, e1, z1, d1⟩ k => ⟨o, v, k _ e1, z1, d1⟩⟩
section
variable {X : Cx} {pins : List (Addr × Obj)} {σ : L2.St} {H : Hp} {s : Shared}
/-- an object that came since the entry is tracked from here on -/
theorem track {a : Addr} {o : HO} {ob : Obj} {vs : Array Value} (I : Inv X pins σ H s) (hob : s.heap.get? a = some ob) (hdt : ob.data = .fields vs) (na : H a = none) (nL : a ≠ X.env.locals) (nP : ∀ p ∈ X.pn ++ pins, p.1 ≠ a)
    (new : ∀ u, X.s_0.heap.get? a = some u → a ∈ X.ex) (ok : ObjOk X.prog X.w (upd H a o) s.heap a o) : Inv X pins σ (upd H a o) s := by
  have nC : ∀ x c, X.env.cells.lookup x = some c → c ≠ a := fun x c e z => by
    obtain ⟨v, o', h1, h2⟩ := I.cell x c e
    rw [z, hob] at h1
    cases h1
    rw [hdt] at h2
    exact nomatch h2
  have ne : ∀ {b : Addr} {u : HO}, H b = some u → b ≠ a := fun {b u} e => ne_of_none e na
  exact { ok := I.ok, os := I.os, bare := I.bare, loc := I.loc, cell := I.cell, len := I.len
          base := { keep := I.base.keep, slot := I.base.slot, there := I.base.there
                    free := fun b u e n hx => by
                      have nb : b ≠ a := fun z => hx (by rw [z]; exact new u (by rw [← z]; exact e))
                      rw [upd_ne nb]
                      exact I.base.free b u e n hx
                    tups := fun b xs e => by
                      have q := I.base.tups b xs e
                      rw [upd_ne (ne q)]
                      exact q
                    frzs := fun b u v e => by
                      have q := I.base.frzs b u v e
                      rw [upd_ne (ne q)]
                      exact q
                    tbls := fun b ps e => by
                      obtain ⟨more, q⟩ := I.base.tbls b ps e
                      exact ⟨more, by rw [upd_ne (ne q)]; exact q⟩ }
          free := by rw [upd_ne (Ne.symm nL)]; exact I.free
          freeC := fun x c e => by rw [upd_ne (nC x c e)]; exact I.freeC x c e
          pin := fun p hp => by
            obtain ⟨h1, h2, h3, h4, h5⟩ := I.pin p hp
            exact ⟨h1, by rw [upd_ne (nP p hp)]; exact h2, h3, h4, h5⟩
          hok := L2.HOk.laidN I.hok (fun _ _ q => q) na ok }
end
/-- what the clause 'except x as n' wishes, the error kept -/
def wKeep (K : PySem.W.Frag) (c : Value) (i : Nat) (ts : Addr → Value → Option Addr → TS) (Wout : WX) (D : Ends) : WX := fun cls d σ H =>
  ∃ b, PySem.W.exmOne K cls c = some b ∧ (b = true → ∀ a, H a = none → ts a cls d { nx := fun σ' H' => D.nx (σ'.set i none) (upd H' a (exq a cls d)), rt := fun v H' => D.rt v (upd H' a (exq a cls d)), bk := fun σ' H' => D.bk (σ'.set i none) (upd H' a (exq a cls d)), ct := fun σ' H' => D.ct (σ'.set i none) (upd H' a (exq a cls d)) } (σ.set i (some (.ref a))) H) ∧
    (b = false → Wout cls d σ H)
end DQ

set_option Elab.async false
set_option linter.all false
set_option maxRecDepth 100000
set_option maxHeartbeats 2000000
namespace DQ
open PySem PySem.Spec PyProof.Rows L2
section
variable {X : Cx} {x n : Str} {c : Value} {i : Nat} {body suite : List Stmt} {b₀ : Stmt} {np pos pos' : Pos} {tb : WX → TS} {ts : Addr → Value → Option Addr → TS} {Wout : WX}
theorem ps_try_keep (hs : X.stack = X.env :: X.outer) (hf : X.env.frame = some X.env.locals) (hN : X.N.Nodup) (hi : X.N[i]? = some n) (hln : X.env.kindOf n = some .local) (hc : Names X x c) (tk : Takes X Wout)
    (hb : ∀ (W : WX) (pn : List (Addr × Obj)) (xe : Value → Shared → Prop), Takes (X.tr pn xe) W → PassesOwn (model X.prog X.w) X.A X.env xe → PSs (X.tr pn xe) body (tb W))
    (hsu : ∀ (a : Addr) (oe : Obj) (cls : Value) (d : Option Addr) (pn : List (Addr × Obj)), Zc cls d oe → (∃ vs, oe.data = .fields vs) → PSs (X.suite a ((a, oe) :: pn)) (b₀ :: suite) (ts a cls d)) :
    PS X (.Try body [.ExceptHandler (some (.Name x np)) (some n) (b₀ :: suite) pos'] [] [] pos) (fun D σ H => tb (wKeep X.K c i ts Wout D) D σ H) := by
  refine ⟨fun pins s σ H D I h => ?_⟩
  have ok := I.ok
  have hfr : X.A.frames = some (X.env :: X.outer) := by rw [ok.frames, hs]
  refine wpAny_Try_except ?_
  refine wpAny_mono ((hb (wKeep X.K c i ts Wout D) (X.pn ++ pins) (fun e s₁ => wpAny (model X.prog X.w) X.A (noteFrame e X.env) (fun _ s₂ => wpAny (model X.prog X.w) X.A (setFlight e none) (fun _ s₃ =>
    wpAny (model X.prog X.w) X.A (handleBy e X.env [.ExceptHandler (some (.Name x np)) (some n) (b₀ :: suite) pos']) (SP X pins D) X.xe s₃) X.xe s₂) X.xe s₁) (fun u s' out => ?_) PassesOwn.looking).run [] s σ H D (I.toTry _) h) (fun f s1 hsp => ?_) (fun e s1 he => he)
  · obtain ⟨a, B, sI, pins', σ', H', cls, d, rfl, J', nb, up, sky, na, os, ag, b, hb1, hyes, hno⟩ := out
    have J : Inv X pins σ' H' sI := J'.ofTry ok
    show wpAny (model X.prog X.w) X.A (noteFrame (.ref a) X.env) _ _ _
    refine Sky.land Zc.steady hfr hf (by rw [← hs]; exact sky) fun h3 fl3 up3 => ?_
    have J3 : Inv X pins σ' H' { s' with heap := h3 } := J.landed nb fl3.1 (up.trans up3) os ag
    obtain ⟨oe3, vs3, he3, hz3, hd3⟩ := fl3.there
    have away : a ∉ frs (X.env :: X.outer) := fun hm => by
      obtain ⟨_, o', e', hnf⟩ := fl3.2.2.1.mem hm
      rw [he3] at e'
      cases e'
      exact hnf _ hd3
    have nL : a ≠ X.env.locals := fun z => away (List.mem_filterMap.mpr ⟨X.env, List.mem_cons_self, by rw [hf, z]⟩)
    have nF : a ∉ X.fs := fun hm => by
      obtain ⟨e, he, q⟩ := List.mem_filterMap.mp hm
      exact away (List.mem_filterMap.mpr ⟨e, List.mem_cons_of_mem _ he, q⟩)
    have fresh : B.get? a = none := fl3.2.1
    have new : ∀ u, X.s_0.heap.get? a = some u → a ∈ X.ex := fun u e => Classical.byContradiction fun hx => by
      obtain ⟨o', e'⟩ := J.base.there a u e hx
      have := nb a o' e' (by show a ∉ frs X.stack; rw [hs]; exact away)
      rw [fresh] at this
      exact nomatch this
    have nP : ∀ p ∈ X.pn ++ pins, p.1 ≠ a := fun p hp z => by
      obtain ⟨h1, _⟩ := J.pin p hp
      have := nb p.1 p.2 h1 (by show p.1 ∉ frs X.stack; rw [hs, z]; exact away)
      rw [z, fresh] at this
      exact nomatch this
    have S3 := J3.suite he3 hd3 na nL nF
    refine wpAny_handleBy_cons (codeAny_handlers_test ?_) (by intro q; cases q)
    have LT : PySem.W.Looks (model X.prog X.w) h3 (typeOf (.ref a)) cls := fun A Q E s k q => wpAny_typeOf_ref (k _ _ he3) (by rw [hz3.1]; exact q)
    have LM := PySem.W.exm_one (M := model X.prog X.w) (J3.kIn) LT hb1
    have test : ∀ {Q : Value → Shared → Prop} {E : Value → Shared → Prop}, Q c { s' with heap := h3 } → wpAny (model X.prog X.w) (X.A.mark (some (.ref a))) (eval (.Name x np) X.env) Q E { s' with heap := h3 } := fun {Q E} q => by
      obtain ⟨hg, hdbg, hm | ⟨hm, hv, hnn⟩⟩ := hc
      · exact ld_glob (X := X.suite a ((a, oe3) :: (X.pn ++ pins))) S3 hg hm q hdbg
      · exact ld_blt (X := X.suite a ((a, oe3) :: (X.pn ++ pins))) S3 hg hm hv q hnn hdbg
    refine test (LM.here ?_)
    cases b with
    | true =>
      refine codeAny_handlers_suite_as ?_
      refine HandSPX.lands_againZ fl3 fun h4 fl4 up4 => ?_
      have J4 : Inv X pins σ' H' { s' with heap := h4 } := J.landed nb fl4.1 ((up.trans up3).trans up4) os ag
      obtain ⟨oe4, vs4, he4, hz4, hd4⟩ := fl4.there
      have S4 := J4.suite he4 hd4 na nL nF
      refine store_ok (X := X.suite a ((a, oe4) :: (X.pn ++ pins))) (v := .ref a) S4 hN hi (.inl hln) rfl (fun s5 S5 => ?_) (.inr hln)
      refine wpAny_mono ((hsu a oe4 cls d (X.pn ++ pins) hz4 ⟨_, hd4⟩).run [] s5 _ H' _ S5 (hyes rfl a na)) (fun f s6 hsp => ?_) (fun _ _ z => False.elim z)
      have kept : ∀ {σ6 : L2.St} {H6 : Hp} {Q : Shared → Prop}, Inv (X.suite a ((a, oe4) :: (X.pn ++ pins))) [] σ6 H6 s6 → (∀ s7, Inv X pins (σ6.set i none) (upd H6 a (exq a cls d)) s7 → Q s7) →
          wpAny (model X.prog X.w) X.A (do bindName X.env n .none; unbindBehindTheSuite X.env n pos') (fun _ s7 => Q s7) X.xe s6 := fun {σ6 H6 Q} S6 hq => by
        obtain ⟨e6, n6, _⟩ := S6.pin (a, oe4) (List.mem_append_left _ List.mem_cons_self)
        exact gone_ok (track (S6.unsuite ok) e6 hd4 n6 nL nP new (exq_ok e6 hz4 hd4)) hN hi hln hq
      cases f with
      | next =>
        obtain ⟨σ6, H6, S6, q6⟩ := hsp
        exact kept S6 fun s7 J7 => ⟨_, _, J7, q6⟩
      | brk =>
        obtain ⟨σ6, H6, S6, q6⟩ := hsp
        exact kept S6 fun s7 J7 => ⟨_, _, J7, q6⟩
      | cont =>
        obtain ⟨σ6, H6, S6, q6⟩ := hsp
        exact kept S6 fun s7 J7 => ⟨_, _, J7, q6⟩
      | ret u =>
        obtain ⟨v6, σ6, H6, S6, r6, q6⟩ := hsp
        exact kept S6 fun s7 J7 => ⟨_, _, _, J7, r6, q6⟩
    | false =>
      show wpAny _ X.A (handleBy (.ref a) X.env []) _ _ _
      refine wpAny_handleBy_nil ?_
      obtain ⟨k1, k2, k3, oe, vs, T, oT, ts', he, hz, hd, h1, hr⟩ := id fl3
      unfold PySem.passOn
      refine wpAny_bind (wpAny_field he hd h1 ?_)
      rw [if_neg (show ¬ ((Value.ref T == Value.none) = true) from by simp)]
      have fin : wpAny (model X.prog X.w) X.A (setFlight (.ref a) X.env.frame) (fun _ s4 => wpAny (model X.prog X.w) X.A (throw (.ref a) : Sem Flow) (SP X pins D) X.xe s4) X.xe { s' with heap := h3 } := by
        rw [hf]
        refine HandSPX.setFlight_upZ fl3 fun h4 hh4 up4 => wpAny_throw (tk _ _ ?_)
        exact ⟨a, B, sI, pins, σ', H', cls, d, rfl, J, nb, (up.trans up3).trans up4, .inr (.inr (by rw [hs]; exact hh4)), na, os, ag, hno rfl⟩
      first
        | exact wpAny_bind (wpAny_pure (wpAny_bind fin))
        | exact wpAny_bind fin
  · cases f with
    | next =>
      obtain ⟨σ', H', J', q⟩ := hsp
      exact wpAny_execs_nil ⟨σ', H', J'.ofTry ok, q⟩
    | brk =>
      obtain ⟨σ', H', J', q⟩ := hsp
      exact ⟨σ', H', J'.ofTry ok, q⟩
    | cont =>
      obtain ⟨σ', H', J', q⟩ := hsp
      exact ⟨σ', H', J'.ofTry ok, q⟩
    | ret u =>
      obtain ⟨v, σ', H', J', r, q⟩ := hsp
      exact ⟨v, σ', H', J'.ofTry ok, r, q⟩
end
end DQ

set_option Elab.async false
set_option linter.all false
set_option maxRecDepth 100000
set_option maxHeartbeats 1000000
namespace DQ
open PySem PySem.Spec PyProof.Rows L2
/-- a caught error of the class at C, its dict at d, v its value -/
def Caught (H : Hp) (a C : Addr) (v : V) : Prop := ∃ d : Addr, a ≠ d ∧ H a = some (exq a (.ref C) (some d)) ∧ H d = some (.xd [("value", v)])
theorem Caught.same {H H' : Hp} {a C : Addr} {v : V} (m : Caught H a C v) (s : Same H H') : Caught H' a C v := by
  obtain ⟨d, ne, e1, e2⟩ := m
  exact ⟨d, ne, s _ _ e1, s _ _ e2⟩
section
variable {X : Cx} {e : Expr} {pos : Pos}
theorem exq_at {P : Program} {w : World} {H : Hp} {h : Heap} {a : Addr} {cls : Value} {d : Option Addr} (ok : HOk P w H h) (ea : H a = some (exq a cls d)) : ∃ (oe : Obj) (vs : Array Value), h.get? a = some oe ∧ Zc cls d oe ∧ oe.data = .fields vs := by
  have x : ObjOk P w H h a (exq a cls d) := ok a _ ea
  exact x.1
theorem caught_inst {P : Program} {w : World} {H : Hp} {h : Heap} {a C : Addr} {v : V} (ok : HOk P w H h) (m : Caught H a C v) : ∃ ox od, PySem.W.InstAt h a ox C (some od) ∧ ∃ (dx : Addr) (mA : Str → Option Value), h.get? dx = some od ∧ h.Ns1 dx mA ∧ ∀ f, RelO (([("value", v)] : List (Str × V)).lookup f) (mA f) := by
  obtain ⟨d, ne, ea, ed⟩ := m
  obtain ⟨oe, vs, ho, hz, hd⟩ := exq_at ok ea
  have hx : ObjOk P w H h d (.xd [("value", v)]) := ok d _ ed
  obtain ⟨mA, hns, hr⟩ := hx
  have hns' := hns
  obtain ⟨od, es, ep, hod, _⟩ := hns'
  exact ⟨oe, od, ⟨ho, hz.1, by unfold PySem.W.notCls; rw [hd] <;> rfl, by rw [hz.2]; exact hod⟩, d, mA, hod, hns, hr⟩
/-- e.value of a caught error -/
def tCaught (K : PySem.W.Frag) (te : TE) : TE := fun σ H Q => te σ H fun x H1 => ∃ (a C : Addr) (v : V), x = .ref a ∧ Caught H1 a C v ∧ XfC K C ∧ PySem.W.findIn K (.ref C) ("value" : Str) = some none ∧ Q v H1
theorem pe_caught {te : TE} (he : PE X e te) (hb : attributeBase e "value" X.env (eval e X.env) = eval e X.env := by rfl) : PE X (.Attribute e "value" pos) (tCaught X.K te) := ⟨fun pins s σ H Q I h => by
  refine attr_of hb (thn (he.run pins s σ H _ I h) fun u s1 h1 => ?_)
  obtain ⟨x, H1, I1, rx, a, C, v, rfl, m, T, hno, q⟩ := h1
  obtain rfl : u = Value.ref a := rx
  obtain ⟨d, ne, ea, ed⟩ := m
  obtain ⟨oe, vs, ho, hz, hd⟩ := exq_at I1.hok ea
  have hx : ObjOk X.prog X.w H1 s1.heap d (.xd [("value", v)]) := I1.hok d _ ed
  obtain ⟨mA, hns, hr⟩ := hx
  obtain ⟨od, hod, hl⟩ := lookIn_ns hns
  have l : List.lookup ("value" : Str) [(("value" : Str), v)] = some v := by simp [List.lookup]
  obtain ⟨u, hu, ru⟩ := RelO.some_of (v := v) (o := mA "value") (by rw [← l]; exact hr "value")
  exact HandSPX.exc_get I1.kIn ⟨ho, hz.1, by unfold PySem.W.notCls; rw [hd] <;> rfl, by rw [hz.2]; exact hod⟩ T.ga T.gg T.exC (PySem.W.findObj_own T.hdC hno rfl (by rw [hl, hu])) (handed_of ru) ⟨v, H1, I1.tok _, ru, q⟩⟩
/-- isinstance(e, c) of a caught error -/
def rCaughtIs (K : PySem.W.Frag) : List V → Hp → VK → Prop := fun xs H Q => ∃ (a C : Addr) (v c : V) (u : Value) (b : Bool), xs = [.ref a, c] ∧ Caught H a C v ∧ ErrC K C ∧ ClsV c u ∧ PySem.W.kitOne K (.ref C) u = some b ∧ Q (.bl b) H
theorem call_caughtIs : CallR X (.builtin "isinstance") (rCaughtIs X.K) := by
  intro pins s σ H xs us Q I r h
  obtain ⟨a, C, v, c, u, b, rfl, m, T, k, e, q⟩ := h
  obtain ⟨u1, u2, rfl, r1, r2⟩ := vals2 r
  obtain rfl : u1 = Value.ref a := r1
  obtain rfl := k.eq r2
  obtain ⟨ox, od, J, _⟩ := caught_inst I.hok m
  exact PySem.W.kia_one (PySem.W.kitx_exc T.cls T.ga T.gg T.sub T.ca T.cg T.ct T.mo) I.kIn J e (fun z => nomatch z) fun tk => ⟨.bl b, H, I.tok tk, rfl, q⟩
end
end DQ

set_option Elab.async false
set_option linter.all false
set_option maxRecDepth 100000
set_option maxHeartbeats 1000000
namespace DQ
open PySem PySem.Spec PyProof.Rows L2
/-- repr of data that stands as an object; the guards around are known to be none -/
def rReprD (K : PySem.W.Frag) : List V → Hp → VK → Prop := fun xs H Q => ∃ (a : Addr) (d : PyData), xs = [.ref a] ∧ Dp K H (.ref a) d ∧ d.showable = true ∧ d.hasDict = false ∧ d.depth ≤ 64 ∧ d.shown.length ≤ sizeLine ∧ Q (.str d.shown) H
theorem call_reprD {X : Cx} (hu : X.A.units + 65 < cLine) (hg : X.A.guards = some []) : CallR X (.builtin "repr") (rReprD X.K) := by
  intro pins s σ H xs us Q I r h
  obtain ⟨a, d, rfl, hd, sh, nd, dep, sz, q⟩ := h
  obtain ⟨u, rfl, ru⟩ := vals1 r
  obtain rfl : u = Value.ref a := ru
  obtain ⟨as, rd⟩ := Dp.reads I d _ _ hd rfl
  refine repr_of_reads' rd sh (fun h => by rw [nd] at h; exact nomatch h) hg (by omega) (fun _ _ e => e) (fun h' u tk k => ?_) sz
  exact ⟨.str d.shown, H, I.kept fun b o e => k b o e, ⟨u, rfl⟩, q⟩
end DQ

set_option Elab.async false
set_option linter.all false
set_option maxRecDepth 100000
set_option maxHeartbeats 1000000
namespace DQ
open PySem PySem.Spec PyProof.Rows L2
/-! ### defs that are called where no guard is around (repr wants that) -/
structure FnG (P : Program) (w : World) (K : PySem.W.Frag) (mg : Str → Option Value) (base : Heap) (CX : CXT) (k : Nat) (f : Addr) (fd : FuncData) (ps : List Str) (sp : Sp) : Prop where
  len : ∀ vs H Q E, sp vs H Q E → vs.length = ps.length
  run : ∀ (A : Around) (outer : List Env) (s : Shared) (H : Hp) (args : Args) (us : List Value) (vs : List V) (Q : VK) (E : XK), Room k A → A.guards = some [] → Env0 P w K mg base A outer s H → BindsTo s fd args (ps.zip us) → Vals vs us → sp vs H Q E →
    codeAny (model P w) A (.call (.ref f) args) (CR CX outer P w H s Q E) s
theorem FnG.of {P : Program} {w : World} {K : PySem.W.Frag} {mg : Str → Option Value} {base : Heap} {CX : CXT} {k : Nat} {f : Addr} {fd : FuncData} {ps : List Str} {sp : Sp} (F : FnOk P w K mg base CX k f fd ps sp) : FnG P w K mg base CX k f fd ps sp :=
  ⟨F.len, fun A outer s H args us vs Q E hr _ => F.run A outer s H args us vs Q E hr⟩
theorem fnG_of {CX : CXT} {P : Program} {w : World} {K : PySem.W.Frag} {mg : Str → Option Value} {base : Heap} {k : Nat} {f : Addr} {name qual : Str} {params : Arguments} {body : List Stmt} {scope : Scope} {dV kV doc pm cdv ct oc : Value} {an od : Option Addr}
    {osl : Array (Option Value)} {N ps : List Str} {sp : Sp} (lk : K.lookup f = some ⟨oc, od, .func (PySem.W.fnOf name qual params body scope dV kV doc pm an cdv ct), osl⟩) (hcd : PySem.W.codeIn K cdv qual = true) (S : FnScope N ps scope)
    (len : ∀ vs H Q E, sp vs H Q E → vs.length = ps.length)
    (hbody : ∀ (A : Around) (outer : List Env) (s : Shared) (H : Hp) (vs : List V) (Q : VK) (E : XK), Room k (A.deeper (envOfC qual scope s.heap.objs.size f cdv)) → A.guards = some [] → sp vs H Q E →
      ∃ t, PSs (cxOf CX P w K mg base N qual scope f cdv A outer s H E) body t ∧ t { nx := fun _ H' => Q .non H', rt := Q } (L2.start N vs) H) :
    FnG P w K mg base CX (k + 1) f (PySem.W.fnOf name qual params body scope dV kV doc pm an cdv ct) ps sp := by
  refine ⟨len, fun A outer s H args us vs Q E hr hg e0 hb r hsp => ?_⟩
  have hl := len _ _ _ _ hsp
  have KX : K.In s.heap := e0.mod.kin.keeps fun b o e => (e0.bs b o e).1
  have lim : s.heap.NoLimit := e0.mod.nolimit.keeps fun b o e => (e0.bs b o e).1
  have hkind : ∀ y ∈ ps.zip us, scope.names.lookup y.1 = some .local ∨ (scope.names.lookup y.1 = some .cell ∧ ((cellsFrom (s.heap.objs.size + 1) scope.names []).lookup y.1).isSome = true) := fun ⟨n, v⟩ hy => by
    rcases S.par n (List.of_mem_zip hy).1 with q | q
    · exact .inl q
    · exact .inr ⟨q, PySem.W.cellsFrom_some _ _ _ (.inl q)⟩
  refine codeAny_call_function hr.depth (KX _ _ lk) rfl S.co S.gen rfl (PySem.W.codeRec_of KX hcd) (hb _ _ _ _ ?_)
  refine wpAny_newFunctionEnv_cells S.kind hkind fun env he s1 x => ?_
  subst he
  refine ⟨lim.keeps x.toInCall.keep, codeAny_func ?_⟩
  obtain ⟨t, ht, hq⟩ := hbody A outer s H vs Q E (hr.deeper _) hg hsp
  have I : Inv (cxOf CX P w K mg base N qual scope f cdv A outer s H E) [] (L2.start N vs) H s1 := inv_start S hr.hd e0 hl r x
  refine wpAny_mono (ht.run [] s1 (L2.start N vs) H _ I hq) (fun fl s' hs => ?_) fun e s' hs => hs
  have fin : ∀ {σ' : L2.St} {H' : Hp} {v : V} {u : Value}, Inv (cxOf CX P w K mg base N qual scope f cdv A outer s H E) [] σ' H' s' → RelV v u → Q v H' → CE outer P w H s Q u s' :=
    fun {σ' H' v u} J rv q => ⟨v, H', J.os, J.bare, J.base, J.hok, rv, q⟩
  cases fl with
  | ret u =>
    obtain ⟨v, σ', H', J, rv, q⟩ := hs
    exact fin J rv q
  | next =>
    obtain ⟨σ', H', J, q⟩ := hs
    exact fin (v := V.non) (u := Value.none) J rfl q
  | brk =>
    obtain ⟨_, _, _, q⟩ := hs
    exact False.elim q
  | cont =>
    obtain ⟨_, _, _, q⟩ := hs
    exact False.elim q
section
variable {P : Program} {w : World} {K : PySem.W.Frag} {mg : Str → Option Value} {base : Heap}
theorem fun_okG {CX : CXT} {x qual : Str} {st : Stmt} {f : Addr} {fd : FuncData} {N ps : List Str} {k : Nat} {sp : Sp} (F : Fun K x qual st f fd) (S : FnScope N ps (defScope st)) (len : ∀ vs H Q E, sp vs H Q E → vs.length = ps.length)
    (hbody : ∀ (cdv : Value) (A : Around) (outer : List Env) (s : Shared) (H : Hp) (vs : List V) (Q : VK) (E : XK), Room k (A.deeper (envOfC qual (defScope st) s.heap.objs.size f cdv)) → A.guards = some [] → sp vs H Q E →
      ∃ t, PSs (cxOf CX P w K mg base N qual (defScope st) f cdv A outer s H E) (defBody st) t ∧ t { nx := fun _ H' => Q .non H', rt := Q } (L2.start N vs) H) : FnG P w K mg base CX (k + 1) f fd ps sp := by
  obtain ⟨oc, od, kV, doc, pm, an, cdv, ct, osl, rfl, lk, hcd⟩ := F.ex
  exact fnG_of lk hcd S len fun A outer s H vs Q E hr hg hsp => hbody cdv A outer s H vs Q E hr hg hsp
end
section
variable {X : Cx} {CX : CXT} {k : Nat} {f : Addr} {fd : FuncData} {ps : List Str} {sp : Sp} {dvs : List V} {ds : List Value} {E : XK} {x : Str} {p pos : Pos} {e : Expr} {es : List Expr} {t : TA}
theorem run_fnG {pins : List (Addr × Obj)} {σ : L2.St} {H : Hp} {s : Shared} {Q : VK} {us : List Value} {vs : List V} (F : FnG X.prog X.w X.K X.mg X.base CX k f fd ps sp) (hr : Room k X.A) (hG : X.A.guards = some []) (hb : Binds X.K fd ps ds) (hd : Vals dvs ds) (hx : Passes CX X E)
    (I : Inv X pins σ H s) (r : Vals vs us) (h : sp (vs ++ dvs) H Q E) : wpAny (model X.prog X.w) X.A (call (.ref f) us) (EP X pins σ Q) X.xe s := by
  have r2 : Vals (vs ++ dvs) (us ++ ds) := r.append hd
  have hl : (us ++ ds).length = ps.length := by rw [← r2.length]; exact F.len _ _ _ _ h
  refine wpAny_call (codeAny_mono (F.run X.A X.stack s H ⟨us, []⟩ (us ++ ds) (vs ++ dvs) Q E hr hG I.env0 (hb s us I.kIn hl) r2 h) fun r s' hq => ?_)
  cases r with
  | error e => exact hx pins σ H s e s' I hq
  | ok fl =>
    cases fl with
    | ret u => exact I.after hq
    | next => exact False.elim hq
    | brk => exact False.elim hq
    | cont => exact False.elim hq
theorem pe_callGd (F : FnG X.prog X.w X.K X.mg X.base CX k f fd ps sp) (hr : Room k X.A) (hG : X.A.guards = some []) (hg : Gl X x) (hm : X.mg x = some (.ref f)) (hk : PySem.W.keepIn X.K (.ref f) = true) (hb : Binds X.K fd ps ds) (hd : Vals dvs ds) (hx : Passes CX X E)
    (ha : PA X (e :: es) t) (hdb : (x == ("__debug__" : Str)) = false := by decide) (he : starEach (e :: es) X.env = (false, eval e X.env) :: starEach es X.env := by rfl) (hpl : (backTo pos (starEach es X.env)).any (·.1) = false := by rfl) :
    PE X (.Call (.Name x p) (e :: es) [] pos) (tCall sp dvs E t) := by
  refine ⟨fun pins s σ H Q I h => ?_⟩
  refine wpAny_Call_Name_kw (ld_glob I hg hm ?_ hdb)
  refine PySem.W.callWith_K (h₀ := X.base) I.ok.mod.kin hk (thn (ha.run pos pins s σ H _ I h) fun us s1 ⟨vs, H1, I1, r, q⟩ => ⟨I1.kIn, ?_⟩) he hpl
  exact run_fnG F hr hG hb hd hx I1 r q
end
end DQ

set_option Elab.async false
set_option linter.all false
set_option maxRecDepth 100000
set_option maxHeartbeats 1000000
namespace DQ
open PySem PySem.Spec PyProof.Rows L2
abbrev sCaught : Stmt := topS 45
abbrev NCa : List Str := ["which", "store", "column", "item", "error", "kept", "e", "kinds"]
theorem scCaught : FnScope NCa ["which", "store", "column", "item"] (defScope sCaught) := ⟨rfl, rfl, rfl, by decide +kernel, rfl, by decide +kernel, by decide +kernel⟩
section
variable {P : Program} {w : World} {K : PySem.W.Frag} {mg : Str → Option Value} {base : Heap}
/-- which error the call is refused with -/
def Refused (sp1 sp2 sp3 : Sp) (H : Hp) (wh : Int) (v cv iv : V) (C : Addr) (bad : V) : Prop := ∀ (H1 : Hp) (Q : VK) (E : XK), Same H H1 → (∀ H2, Same H1 H2 → Throws E C bad H2) →
  (wh = 0 → sp1 [v, iv] H1 Q E) ∧ (wh = 1 → sp2 [v, cv, iv] H1 Q E) ∧ (wh ≠ 0 → wh ≠ 1 → sp3 [v, cv, iv] H1 Q E)
def spCaught (K : PySem.W.Frag) (sp1 sp2 sp3 : Sp) (C0 C2 C3 : Addr) : Sp := fun vs H Q _ => ∃ (wh : Int) (v cv iv bad : V) (C : Addr) (ds : List PyData), vs = [.int wh, v, cv, iv] ∧ Refused sp1 sp2 sp3 H wh v cv iv C bad ∧ (C = C0 ∨ C = C2 ∨ C = C3) ∧
  DpAll K H [v, cv, iv] ds ∧ (PyData.list ds).showable = true ∧ (PyData.list ds).hasDict = false ∧ (PyData.list ds).depth ≤ 64 ∧ (PyData.list ds).shown.length ≤ sizeLine ∧
  ∀ (T L : Addr) (H' : Hp), Same H H' → H' T = some (.tup [.ref L, bad]) → H' L = some (.lst [.bl (decide (C = C0)), .bl (decide (C = C2)), .bl (decide (C = C3))]) → Q (.ref T) H'
theorem ok_caught {sp1 sp2 sp3 : Sp} {f f1 f2 f3 C0 C2 C3 S : Addr} {fd d1 d2 d3 : FuncData} (F : Fun K "_law_caught" "_law_caught" sCaught f fd)
    (G1 : FnOk P w K mg base (L2.CX P w) 8 f1 d1 ["store", "item"] sp1) (b1 : Binds K d1 ["store", "item"] []) (k1 : PySem.W.keepIn K (.ref f1) = true) (m1 : mg "facts_of" = some (.ref f1))
    (G2 : FnOk P w K mg base (L2.CX P w) 9 f2 d2 ["store", "column", "item"] sp2) (b2 : Binds K d2 ["store", "column", "item"] []) (k2 : PySem.W.keepIn K (.ref f2) = true) (m2 : mg "led_to" = some (.ref f2))
    (G3 : FnOk P w K mg base (L2.CX P w) 9 f3 d3 ["store", "column", "item"] sp3) (b3 : Binds K d3 ["store", "column", "item"] []) (k3 : PySem.W.keepIn K (.ref f3) = true) (m3 : mg "led_from" = some (.ref f3))
    (U0 : ErrUse P w K mg base "InvalidStore" C0) (U2 : ErrUse P w K mg base "InvalidName" C2) (U3 : ErrUse P w K mg base "InvalidItem" C3) (mS : mg "StoreError" = some (.ref S))
    (ex : ∀ C, C = C0 ∨ C = C2 ∨ C = C3 → PySem.W.exmOne K (.ref C) (.ref S) = some true) (kk : ∀ C D, C = C0 ∨ C = C2 ∨ C = C3 → D = C0 ∨ D = C2 ∨ D = C3 → PySem.W.kitOne K (.ref C) (.ref D) = some (decide (C = D)))
    (mR : mg "repr" = none) (mI : mg "isinstance" = none) : FnG P w K mg base CX0 10 f fd ["which", "store", "column", "item"] (spCaught K sp1 sp2 sp3 C0 C2 C3) := by
  refine fun_okG F scCaught (fun vs H Q E h => ?_) (fun cdv A outer s H vs Q E hr hG h => ?_)
  · obtain ⟨_, _, _, _, _, _, _, rfl, _⟩ := h
    rfl
  obtain ⟨wh, v, cv, iv, bad, C, ds, rfl, ref, hC, hd, sh, nod, dep, sz, q⟩ := h
  have nd := scCaught.nd
  refine ⟨_, (pss_cons (ps_par (i := 4) (j := 5) rfl nd rfl rfl (by decide) rfl rfl (pa_cons pe_non (pa_cons (pe_callB (call_reprD (room65 hr) hG) (by rfl) mR (by decide +kernel) (pa_cons (pe_lst (pa_cons (pv 1) (pa_cons (pv 2) (pa_cons (pv 3) pa_nil)))) pa_nil)) pa_nil)) (by rfl))
    (pss_cons (ps_try_keep (i := 6) (Wout := fun _ _ _ _ => False) (tb := fun W => tIfS _ _ _) rfl rfl nd rfl (by rfl) ⟨by rfl, by decide, .inl mS⟩ takes0
      (fun W pn xe tk po => pss_one (ps_if (pt_cmpR op_eq (pv 0) pe_int (nomark _)) (pss_one (ps_expr (pe_callS (E := WE W) G1 (hr.mono (by decide)) rfl m1 k1 b1 (fun σ => passAt tk σ) (pa_cons (pv 1) (pa_cons (pv 3) pa_nil)))))
        (pss_one (ps_if (pt_cmpR op_eq (pv 0) pe_int (nomark _)) (pss_one (ps_expr (pe_callS (E := WE W) G2 (hr.mono (by decide)) rfl m2 k2 b2 (fun σ => passAt tk σ) (pa_cons (pv 1) (pa_cons (pv 2) (pa_cons (pv 3) pa_nil))))))
          (pss_one (ps_expr (pe_callS (E := WE W) G3 (hr.mono (by decide)) rfl m3 k3 b3 (fun σ => passAt tk σ) (pa_cons (pv 1) (pa_cons (pv 2) (pa_cons (pv 3) pa_nil))))))))))
      (fun a oe cls d pn z hv => pss_one (ps_set (i := 4) nd rfl (.inl rfl) (pv 6))))
    (pss_cons (ps_if (pt_cmpR op_ne (pe_callB (call_reprD (room65 hr) hG) (by rfl) mR (by decide +kernel) (pa_cons (pe_lst (pa_cons (pv 1) (pa_cons (pv 2) (pa_cons (pv 3) pa_nil)))) pa_nil)) (pv 5) (nomark _)) (pss_one (ps_ret (pe_tup (pa_cons (pe_lst pa_nil) (pa_cons pe_non pa_nil))))) pss_nil)
    (pss_cons (ps_set (i := 7) nd rfl (.inl rfl) (pe_lst (pa_cons (pe_callB call_caughtIs (by rfl) mI (by decide +kernel) (pa_cons (pv 4) (pa_cons (pe_glob (v := .ref C0) (by rfl) U0.g rfl) pa_nil))) (pa_cons (pe_callB call_caughtIs (by rfl) mI (by decide +kernel) (pa_cons (pv 4) (pa_cons (pe_glob (v := .ref C2) (by rfl) U2.g rfl) pa_nil)))
      (pa_cons (pe_callB call_caughtIs (by rfl) mI (by decide +kernel) (pa_cons (pv 4) (pa_cons (pe_glob (v := .ref C3) (by rfl) U3.g rfl) pa_nil))) pa_nil)))))
    (pss_one (ps_ret (pe_tup (pa_cons (pv 7) (pa_cons (pe_ifExp (pt_cmpR op_isN (pv 4) pe_non (nomark _)) pe_non (pe_caught (pv 4))) pa_nil))))))))), ?_⟩
  have uC : ErrC K C ∧ XfC K C ∧ PySem.W.findIn K (.ref C) ("value" : Str) = some none := by
    rcases hC with rfl | rfl | rfl
    · exact ⟨U0.er, U0.xf, U0.noV⟩
    · exact ⟨U2.er, U2.xf, U2.noV⟩
    · exact ⟨U3.er, U3.xf, U3.noV⟩
  refine ⟨_, rfl, _, rfl, _, rfl, by show 3 ≤ sizeLine; decide, fun p1 n1 => ?_⟩
  have sm1 := same_new n1 (o := .lst [v, cv, iv])
  have ep1 : upd H p1 (.lst [v, cv, iv]) p1 = some (.lst [v, cv, iv]) := upd_same
  generalize upd H p1 (.lst [v, cv, iv]) = H1 at sm1 ep1 ⊢
  refine ⟨p1, .list ds, rfl, .lst (SqL.of ep1) (dpAll_same sm1 _ _ hd), sh, nod, dep, sz, ?_⟩
  have rd : ∀ (Q : VK) (E : XK), (∀ H2, Same H1 H2 → Throws E C bad H2) → (wh = 0 → sp1 [v, iv] H1 Q E) ∧ (wh = 1 → sp2 [v, cv, iv] H1 Q E) ∧ (wh ≠ 0 → wh ≠ 1 → sp3 [v, cv, iv] H1 Q E) := fun Q E => ref H1 Q E sm1
  refine ⟨_, _, rfl, _, rfl, rfl, _, rfl, ?_⟩
  refine ite2 (fun c1 => ?_) fun c1 => ⟨_, rfl, rfl, _, rfl, ite2 (fun c2 => ?_) fun c2 => ?_⟩
  · refine ⟨_, rfl, _, rfl, (rd _ _ fun H2 s2 dd H3 s3 nd3 e3 => ⟨true, ex C hC, fun _ a na => ⟨_, rfl, ?_⟩, (fun e => nomatch e)⟩).1 (by have c1 := of_decide_eq_true c1; injection c1)⟩
    have hne : a ≠ dd := fun z => by
      rw [z, e3] at na
      exact nomatch na
    have sT : L2.Same H (upd H3 a (exq a (.ref C) (some dd))) := ((sm1.trans s2).trans s3).trans (same_new na)
    have cau : Caught (upd H3 a (exq a (.ref C) (some dd))) a C bad := ⟨dd, hne, upd_same, by rw [upd_ne hne.symm]; exact e3⟩
    refine ⟨_, rfl, _, rfl, _, rfl, by show 3 ≤ sizeLine; decide, fun p2 n2 => ?_⟩
    have sm2 := same_new n2 (o := .lst [v, cv, iv])
    have ep2 : upd (upd H3 a (exq a (.ref C) (some dd))) p2 (.lst [v, cv, iv]) p2 = some (.lst [v, cv, iv]) := upd_same
    generalize upd (upd H3 a (exq a (.ref C) (some dd))) p2 (.lst [v, cv, iv]) = H5 at sm2 ep2 ⊢
    have s5 : L2.Same H H5 := sT.trans sm2
    have cau5 := cau.same sm2
    refine ⟨p2, .list ds, rfl, .lst (SqL.of ep2) (dpAll_same s5 _ _ hd), sh, nod, dep, sz, _, rfl, rfl, _, rfl, ?_⟩
    rw [decide_eq_true (rfl : V.str (PyData.list ds).shown = V.str (PyData.list ds).shown)]
    refine ⟨_, rfl, a, C, bad, .ref C0, .ref C0, _, rfl, cau5, uC.1, .own C0, kk C C0 hC (.inl rfl), _, rfl, a, C, bad, .ref C2, .ref C2, _, rfl, cau5, uC.1, .own C2, kk C C2 hC (.inr (.inl rfl)), _, rfl, a, C, bad, .ref C3, .ref C3, _, rfl, cau5, uC.1, .own C3, kk C C3 hC (.inr (.inr rfl)), by show 3 ≤ sizeLine; decide, fun L nL => ?_⟩
    have mL := same_new nL (o := .lst [.bl (decide (C = C0)), .bl (decide (C = C2)), .bl (decide (C = C3))])
    have eL : upd H5 L (.lst [.bl (decide (C = C0)), .bl (decide (C = C2)), .bl (decide (C = C3))]) L = some (.lst [.bl (decide (C = C0)), .bl (decide (C = C2)), .bl (decide (C = C3))]) := upd_same
    generalize upd H5 L (.lst [.bl (decide (C = C0)), .bl (decide (C = C2)), .bl (decide (C = C3))]) = H6 at mL eL ⊢
    have cau6 := cau5.same mL
    refine ⟨_, rfl, _, rfl, rfl, _, rfl, ite2 (fun z => absurd (of_decide_eq_true z) (fun h => by cases h)) fun _ => ⟨_, rfl, a, C, bad, rfl, cau6, uC.2.1, uC.2.2, by show 2 ≤ sizeLine; decide, fun T nT => ?_⟩⟩
    have mT := same_new nT (o := .tup [.ref L, bad])
    exact q T L _ ((s5.trans mL).trans mT) upd_same (mT _ _ eL)
  · refine ⟨_, rfl, _, rfl, _, rfl, (rd _ _ fun H2 s2 dd H3 s3 nd3 e3 => ⟨true, ex C hC, fun _ a na => ⟨_, rfl, ?_⟩, (fun e => nomatch e)⟩).2.1 (by have c2 := of_decide_eq_true c2; injection c2)⟩
    have hne : a ≠ dd := fun z => by
      rw [z, e3] at na
      exact nomatch na
    have sT : L2.Same H (upd H3 a (exq a (.ref C) (some dd))) := ((sm1.trans s2).trans s3).trans (same_new na)
    have cau : Caught (upd H3 a (exq a (.ref C) (some dd))) a C bad := ⟨dd, hne, upd_same, by rw [upd_ne hne.symm]; exact e3⟩
    refine ⟨_, rfl, _, rfl, _, rfl, by show 3 ≤ sizeLine; decide, fun p2 n2 => ?_⟩
    have sm2 := same_new n2 (o := .lst [v, cv, iv])
    have ep2 : upd (upd H3 a (exq a (.ref C) (some dd))) p2 (.lst [v, cv, iv]) p2 = some (.lst [v, cv, iv]) := upd_same
    generalize upd (upd H3 a (exq a (.ref C) (some dd))) p2 (.lst [v, cv, iv]) = H5 at sm2 ep2 ⊢
    have s5 : L2.Same H H5 := sT.trans sm2
    have cau5 := cau.same sm2
    refine ⟨p2, .list ds, rfl, .lst (SqL.of ep2) (dpAll_same s5 _ _ hd), sh, nod, dep, sz, _, rfl, rfl, _, rfl, ?_⟩
    rw [decide_eq_true (rfl : V.str (PyData.list ds).shown = V.str (PyData.list ds).shown)]
    refine ⟨_, rfl, a, C, bad, .ref C0, .ref C0, _, rfl, cau5, uC.1, .own C0, kk C C0 hC (.inl rfl), _, rfl, a, C, bad, .ref C2, .ref C2, _, rfl, cau5, uC.1, .own C2, kk C C2 hC (.inr (.inl rfl)), _, rfl, a, C, bad, .ref C3, .ref C3, _, rfl, cau5, uC.1, .own C3, kk C C3 hC (.inr (.inr rfl)), by show 3 ≤ sizeLine; decide, fun L nL => ?_⟩
    have mL := same_new nL (o := .lst [.bl (decide (C = C0)), .bl (decide (C = C2)), .bl (decide (C = C3))])
    have eL : upd H5 L (.lst [.bl (decide (C = C0)), .bl (decide (C = C2)), .bl (decide (C = C3))]) L = some (.lst [.bl (decide (C = C0)), .bl (decide (C = C2)), .bl (decide (C = C3))]) := upd_same
    generalize upd H5 L (.lst [.bl (decide (C = C0)), .bl (decide (C = C2)), .bl (decide (C = C3))]) = H6 at mL eL ⊢
    have cau6 := cau5.same mL
    refine ⟨_, rfl, _, rfl, rfl, _, rfl, ite2 (fun z => absurd (of_decide_eq_true z) (fun h => by cases h)) fun _ => ⟨_, rfl, a, C, bad, rfl, cau6, uC.2.1, uC.2.2, by show 2 ≤ sizeLine; decide, fun T nT => ?_⟩⟩
    have mT := same_new nT (o := .tup [.ref L, bad])
    exact q T L _ ((s5.trans mL).trans mT) upd_same (mT _ _ eL)
  · refine ⟨_, rfl, _, rfl, _, rfl, (rd _ _ fun H2 s2 dd H3 s3 nd3 e3 => ⟨true, ex C hC, fun _ a na => ⟨_, rfl, ?_⟩, (fun e => nomatch e)⟩).2.2 (fun e => c1 (decide_eq_true (by rw [e]))) fun e => c2 (decide_eq_true (by rw [e]))⟩
    have hne : a ≠ dd := fun z => by
      rw [z, e3] at na
      exact nomatch na
    have sT : L2.Same H (upd H3 a (exq a (.ref C) (some dd))) := ((sm1.trans s2).trans s3).trans (same_new na)
    have cau : Caught (upd H3 a (exq a (.ref C) (some dd))) a C bad := ⟨dd, hne, upd_same, by rw [upd_ne hne.symm]; exact e3⟩
    refine ⟨_, rfl, _, rfl, _, rfl, by show 3 ≤ sizeLine; decide, fun p2 n2 => ?_⟩
    have sm2 := same_new n2 (o := .lst [v, cv, iv])
    have ep2 : upd (upd H3 a (exq a (.ref C) (some dd))) p2 (.lst [v, cv, iv]) p2 = some (.lst [v, cv, iv]) := upd_same
    generalize upd (upd H3 a (exq a (.ref C) (some dd))) p2 (.lst [v, cv, iv]) = H5 at sm2 ep2 ⊢
    have s5 : L2.Same H H5 := sT.trans sm2
    have cau5 := cau.same sm2
    refine ⟨p2, .list ds, rfl, .lst (SqL.of ep2) (dpAll_same s5 _ _ hd), sh, nod, dep, sz, _, rfl, rfl, _, rfl, ?_⟩
    rw [decide_eq_true (rfl : V.str (PyData.list ds).shown = V.str (PyData.list ds).shown)]
    refine ⟨_, rfl, a, C, bad, .ref C0, .ref C0, _, rfl, cau5, uC.1, .own C0, kk C C0 hC (.inl rfl), _, rfl, a, C, bad, .ref C2, .ref C2, _, rfl, cau5, uC.1, .own C2, kk C C2 hC (.inr (.inl rfl)), _, rfl, a, C, bad, .ref C3, .ref C3, _, rfl, cau5, uC.1, .own C3, kk C C3 hC (.inr (.inr rfl)), by show 3 ≤ sizeLine; decide, fun L nL => ?_⟩
    have mL := same_new nL (o := .lst [.bl (decide (C = C0)), .bl (decide (C = C2)), .bl (decide (C = C3))])
    have eL : upd H5 L (.lst [.bl (decide (C = C0)), .bl (decide (C = C2)), .bl (decide (C = C3))]) L = some (.lst [.bl (decide (C = C0)), .bl (decide (C = C2)), .bl (decide (C = C3))]) := upd_same
    generalize upd H5 L (.lst [.bl (decide (C = C0)), .bl (decide (C = C2)), .bl (decide (C = C3))]) = H6 at mL eL ⊢
    have cau6 := cau5.same mL
    refine ⟨_, rfl, _, rfl, rfl, _, rfl, ite2 (fun z => absurd (of_decide_eq_true z) (fun h => by cases h)) fun _ => ⟨_, rfl, a, C, bad, rfl, cau6, uC.2.1, uC.2.2, by show 2 ≤ sizeLine; decide, fun T nT => ?_⟩⟩
    have mT := same_new nT (o := .tup [.ref L, bad])
    exact q T L _ ((s5.trans mL).trans mT) upd_same (mT _ _ eL)
end
end DQ

set_option Elab.async false
set_option linter.all false
set_option maxRecDepth 100000
set_option maxHeartbeats 1000000
namespace DQ
open PySem PySem.Spec PyProof.Rows L2
/-- what repr wants of data -/
structure Shows (d : PyData) : Prop where
  sh : d.showable = true
  nod : d.hasDict = false
  dep : d.depth ≤ 64
  sz : d.shown.length ≤ sizeLine
/-- repr of any data; the guards around are known to be none -/
def rReprV (K : PySem.W.Frag) : List V → Hp → VK → Prop := fun xs H Q => ∃ (v : V) (d : PyData), xs = [v] ∧ Dp K H v d ∧ Shows d ∧ Q (.str d.shown) H
theorem call_reprV {X : Cx} (hu : X.A.units + 65 < cLine) (hg : X.A.guards = some []) : CallR X (.builtin "repr") (rReprV X.K) := by
  intro pins s σ H xs us Q I r h
  obtain ⟨v, d, rfl, hd, ⟨sh, nod, dep, sz⟩, q⟩ := h
  cases hd with
  | non =>
    obtain ⟨u, rfl, ru⟩ := vals1 r
    obtain rfl : u = Value.none := ru
    exact PySem.P.repr_of_none ⟨.str _, H, I.tok _, ⟨_, rfl⟩, q⟩
  | bl b =>
    obtain ⟨u, rfl, ru⟩ := vals1 r
    obtain rfl : u = Value.bool b := ru
    exact PySem.P.repr_of_bool ⟨.str _, H, I.tok _, ⟨_, rfl⟩, q⟩
  | int i =>
    obtain ⟨u, rfl, t, rfl⟩ := vals1 r
    exact PySem.P.repr_of_int (by simpa [PyData.showable] using sh) ⟨.str _, H, I.tok _, ⟨_, rfl⟩, q⟩
  | str x =>
    obtain ⟨u, rfl, t, rfl⟩ := vals1 r
    exact PySem.P.repr_of_str ⟨.str _, H, I.tok _, ⟨_, rfl⟩, q⟩ sz
  | lst hs ha => exact call_reprD hu hg pins s σ H _ us Q I r ⟨_, _, rfl, .lst hs ha, sh, nod, dep, sz, q⟩
  | tup hs ha => exact call_reprD hu hg pins s σ H _ us Q I r ⟨_, _, rfl, .tup hs ha, sh, nod, dep, sz, q⟩
abbrev sOnly : Stmt := topS 46
abbrev NOn : List Str := ["told", "place", "bad", "at"]
theorem scOnly : FnScope NOn ["told", "place", "bad"] (defScope sOnly) := ⟨rfl, rfl, rfl, by decide +kernel, rfl, by decide +kernel, by decide +kernel⟩
theorem dp_bools {K : PySem.W.Frag} {H : Hp} : ∀ bs : List Bool, DpAll K H (bs.map V.bl) (bs.map PyData.bool)
  | [] => .nil
  | b :: r => .cons (.bl b) (dp_bools r)
def atsD (p : Int) : List Bool := [decide (0 = p), decide (1 = p), decide (2 = p)]
theorem ats_next {p : Int} {k : Nat} (h : k < 3) : (atsD p)[k]? = some (decide ((0 : Int) + (k : Int) = p)) := by
  match k, h with
  | 0, _ => rfl
  | 1, _ => rfl
  | 2, _ => rfl
theorem eqv_bools (bs : List Bool) : PyData.eqv (.list (bs.map PyData.bool)) (.list (bs.map PyData.bool)) = true := by
  induction bs with
  | nil => rfl
  | cons b r ih =>
    simp only [List.map_cons, PyData.eqv, PyData.eqvAll] at ih ⊢
    rw [ih]
    cases b <;> rfl
section
variable {P : Program} {w : World} {K : PySem.W.Frag} {mg : Str → Option Value} {base : Heap}
def spOnly (K : PySem.W.Frag) : Sp := fun vs H Q _ => ∃ (T L : Addr) (p : Int) (v : V) (d : PyData), vs = [.ref T, .int p, v] ∧ H T = some (.tup [.ref L, v]) ∧ H L = some (.lst ((atsD p).map V.bl)) ∧ Dp K H v d ∧ Shows d ∧ ∀ H', Same H H' → Q (.bl true) H'
theorem ok_only {f : Addr} {fd : FuncData} (F : Fun K "_law_only" "_law_only" sOnly f fd) (mRange : mg "range" = none) (mR : mg "repr" = none) : FnG P w K mg base CX0 1 f fd ["told", "place", "bad"] (spOnly K) := by
  refine fun_okG F scOnly (fun vs H Q E h => ?_) (fun cdv A outer s H vs Q E hr hG h => ?_)
  · obtain ⟨_, _, _, _, _, rfl, _⟩ := h
    rfl
  obtain ⟨T, L, p, v, d, rfl, hT, hL, hd, sh, q⟩ := h
  have nd := scOnly.nd
  refine ⟨_, pss_one (ps_ret (pe_and (pe_cmpR (op_eqD hr.units) (pe_ix (r := rIxT K) ix_tup (pv 0) pe_int (fun _ _ => rfl)) (pe_lc (own := [("at", 3)]) (g := gName 3) (tt := tYes) rfl nd (pi_range1 (by rfl) mRange (pa_cons pe_int pa_nil)) (blkOk_by (own := [("at", 3)]) (N := NOn) (sc := defScope sOnly) (by decide +kernel)) (fun _ _ _ _ _ => pg_name (i := 3) nd rfl (Or.inl rfl)) (fun _ _ _ _ _ => pts_nil) (fun _ _ _ _ _ => (pe_cmpR op_eq (pv 3) (pv 1) (nomark _)))) (nomark _))
    (pe_one (pe_cmpR op_eq (pe_callB (call_reprV (room65 hr) hG) (by rfl) mR (by decide +kernel) (pa_cons (pe_ix (r := rIxT K) ix_tup (pv 0) pe_int (fun _ _ => rfl)) pa_nil)) (pe_callB (call_reprV (room65 hr) hG) (by rfl) mR (by decide +kernel) (pa_cons (pv 2) pa_nil)) (nomark _))))), ?_⟩
  refine ⟨_, rfl, T, _, 0, .ref L, rfl, rfl, .inl (.inl hT), atI_nat (j := 0) rfl, 3, rfl, by decide, by decide, fun D nD => lc_range (lo := 0) (n := 3) (fun k H' => Same H H' ∧ H' D = some (.lst (((atsD p).take k).map V.bl))) ⟨same_new nD, upd_same⟩ (fun k H' hk hP => ?_) fun H1 hP => ?_⟩
  · obtain ⟨s', eD⟩ := hP
    refine ⟨rfl, _, rfl, _, rfl, rfl, _, eD, ?_, same_upd s' nD, ?_⟩
    · rw [List.length_map, List.length_take]
      exact small1000 (by omega)
    · rw [upd_same, take_next (ats_next hk), List.map_append, dec_ints]
      rfl
  obtain ⟨s1, eD⟩ := hP
  rw [List.take_of_length_le (show (atsD p).length ≤ 3 from Nat.le_refl 3)] at eD
  have sh3 : SeqAt.shaped (.list ((atsD p).map PyData.bool)) = true := rfl
  refine ⟨_, _, .lst (SqL.of (s1 _ _ hL)) (dp_bools _), .lst (SqL.of eD) (dp_bools _), sh3, sh3, _, rfl, ?_⟩
  rw [eqv_bools]
  refine ⟨_, rfl, T, _, 1, v, rfl, rfl, .inl (.inl (s1 _ _ hT)), atI_nat (j := 1) rfl, v, d, rfl, dp_same s1 _ _ hd, sh, _, rfl, v, d, rfl, dp_same s1 _ _ hd, sh, rfl, ?_⟩
  rw [decide_eq_true (rfl : V.str d.shown = V.str d.shown)]
  exact q H1 s1
end
end DQ

set_option Elab.async false
set_option linter.all false
set_option maxRecDepth 100000
set_option maxHeartbeats 1000000
namespace DQ
open PySem PySem.Spec PyProof.Rows L2
/-! ### small data: what repr, ==, sorted want of it, part by part -/
/-- data that nests at most k deep, of weight at most n, its ints short -/
structure Sm (k n : Nat) (d : PyData) : Prop where
  lay : d.canLay0 = true
  dep : d.depth ≤ k
  wt : d.weight ≤ n
  sh : d.showable = true
  short : d.intsShort 13 = true
theorem Sm.mono {k n k' n' : Nat} {d : PyData} (h : Sm k n d) (hk : k ≤ k') (hn : n ≤ n') : Sm k' n' d := ⟨h.lay, Nat.le_trans h.dep hk, Nat.le_trans h.wt hn, h.sh, h.short⟩
theorem Sm.shows {k n : Nat} {d : PyData} (h : Sm k n d) (hk : k ≤ 64) (hn : n ≤ 1048576) : Shows d := by
  have hl : PyData.layable0 d = true := by
    show (PyData.canLay0 d && decide (PyData.depth d ≤ 64) && decide (PyData.weight d ≤ 2 ^ 20)) = true
    rw [h.lay, decide_eq_true (Nat.le_trans h.dep hk), decide_eq_true (show PyData.weight d ≤ 2 ^ 20 from Nat.le_trans h.wt (by simpa using hn))]
    rfl
  exact ⟨h.sh, PyData.hasDict_of_canLay d h.lay, Nat.le_trans h.dep hk, PyData.shown_fits_of_layable0 (B := 13) (by decide) (by decide) hl h.short⟩
theorem Sm.shaped {k n : Nat} {d : PyData} (h : Sm k n d) (hk : k ≤ 64) : SeqAt.shaped d = true := by
  show (PyData.canLay0 d && decide (PyData.depth d ≤ 64)) = true
  rw [h.lay, decide_eq_true (Nat.le_trans h.dep hk)]
  rfl
theorem sm_none : Sm 0 0 .none := ⟨rfl, Nat.le_refl _, Nat.le_refl _, rfl, rfl⟩
theorem sm_bool (b : Bool) : Sm 0 0 (.bool b) := ⟨rfl, Nat.le_refl _, Nat.le_refl _, rfl, rfl⟩
theorem sm_int {i : Int} (h1 : -100000000000 ≤ i) (h2 : i ≤ 100000000000) : Sm 0 64 (.int i) := by
  have h : i.natAbs < 10 ^ 12 := by omega
  have hl : i.natAbs.log2 < 64 := by
    by_cases z : i.natAbs = 0
    · rw [z]; decide
    · exact (Nat.log2_lt z).mpr (Nat.lt_trans h (by decide))
  refine ⟨rfl, Nat.le_refl _, ?_, ?_, ?_⟩
  · simp only [PyData.weight]
    split <;> omega
  · simp only [PyData.showable]
    exact decide_eq_true (by omega)
  · simp only [PyData.intsShort]
    exact decide_eq_true (PyData.shown_int_le h)
theorem sm_str {x : Str} {n : Nat} (h : PyData.canLay0 (.str x) = true) (hn : x.cps.size ≤ n) : Sm 0 n (.str x) := ⟨h, Nat.le_refl _, by simpa only [PyData.weight] using hn, rfl, rfl⟩
structure SmAll (k n : Nat) (ds : List PyData) : Prop where
  lay : PyData.canLayAll0 ds = true
  dep : PyData.depthAll ds ≤ k
  wt : PyData.weightAll ds ≤ ds.length * (n + 1)
  sh : PyData.showableAll ds = true
  short : PyData.intsShortAll 13 ds = true
theorem smAll {k n : Nat} : ∀ {ds : List PyData}, (∀ d ∈ ds, Sm k n d) → SmAll k n ds
  | [], _ => ⟨rfl, Nat.zero_le _, Nat.zero_le _, rfl, rfl⟩
  | d :: ds, h => by
    have a := h d (List.mem_cons_self ..)
    have b := smAll (ds := ds) fun e he => h e (List.mem_cons_of_mem _ he)
    refine ⟨?_, ?_, ?_, ?_, ?_⟩
    · simp only [PyData.canLayAll0]
      rw [a.lay, b.lay]
      rfl
    · simp only [PyData.depthAll]
      exact Nat.max_le.mpr ⟨a.dep, b.dep⟩
    · simp only [PyData.weightAll, List.length_cons]
      have := a.wt
      have := b.wt
      rw [Nat.add_mul]
      omega
    · simp only [PyData.showableAll]
      rw [a.sh, b.sh]
      rfl
    · simp only [PyData.intsShortAll]
      rw [a.short, b.short]
      rfl
theorem SmAll.list {k n m : Nat} {ds : List PyData} (h : SmAll k n ds) (hm : ds.length ≤ m) : Sm (k + 1) (m * (n + 1)) (.list ds) := by
  refine ⟨by simpa only [PyData.canLay0] using h.lay, ?_, ?_, by simpa only [PyData.showable] using h.sh, by simpa only [PyData.intsShort] using h.short⟩
  · simp only [PyData.depth]
    have := h.dep
    omega
  · simp only [PyData.weight]
    exact Nat.le_trans h.wt (Nat.mul_le_mul_right _ hm)
theorem SmAll.tuple {k n m : Nat} {ds : List PyData} (h : SmAll k n ds) (hm : ds.length ≤ m) : Sm (k + 1) (m * (n + 1)) (.tuple ds) := by
  refine ⟨by simpa only [PyData.canLay0] using h.lay, ?_, ?_, by simpa only [PyData.showable] using h.sh, by simpa only [PyData.intsShort] using h.short⟩
  · simp only [PyData.depth]
    have := h.dep
    omega
  · simp only [PyData.weight]
    exact Nat.le_trans h.wt (Nat.mul_le_mul_right _ hm)
theorem Sm.eqv {k n : Nat} {d : PyData} (h : Sm k n d) (hk : k ≤ 64) : PyData.eqv d d = true := SeqAt.eqv_refl d (SeqAt.canLay_of_shaped (h.shaped hk))
theorem sm_word {x : Str} (h : x ∈ drawnWords) : Sm 0 10 (.str x) := by
  simp only [drawnWords, List.mem_cons, List.not_mem_nil, or_false] at h
  rcases h with rfl | rfl | rfl | rfl | rfl <;> exact sm_str (by decide +kernel) (by decide +kernel)
theorem sm_item {i : Int} (h : 0 ≤ i ∧ i ≤ 1000000000) : Sm 0 64 (.int i) := sm_int (by omega) (by omega)
theorem sm_fact {m : Nat} {S : Store} (D : Drawn m S) {x : Fact} (h : x ∈ S.facts) : Sm 1 260 x.d := by
  have wd := sm_word (D.factWord h)
  have z := D.facts x h
  have it : ∀ i, i ∈ S.items → Sm 0 64 (.int i) := fun i hi => sm_item (D.items.2 i hi)
  have s1 : Sm 0 64 (.str "mark") := sm_str (by decide +kernel) (by decide +kernel)
  have s2 : Sm 0 64 (.str "link") := sm_str (by decide +kernel) (by decide +kernel)
  cases x with
  | mark c i =>
    refine (SmAll.tuple (k := 0) (n := 64) (m := 4) (ds := [.str "mark", .str c, .int i]) (smAll fun d hd => ?_) (show 3 ≤ 4 by decide)).mono (by decide) (by decide)
    simp only [List.mem_cons, List.not_mem_nil, or_false] at hd
    rcases hd with rfl | rfl | rfl
    · exact s1
    · exact wd.mono (by decide) (by decide)
    · exact it _ z.2
  | link c a b =>
    refine (SmAll.tuple (k := 0) (n := 64) (m := 4) (ds := [.str "link", .str c, .int a, .int b]) (smAll fun d hd => ?_) (show 4 ≤ 4 by decide)).mono (by decide) (by decide)
    simp only [List.mem_cons, List.not_mem_nil, or_false] at hd
    rcases hd with rfl | rfl | rfl | rfl
    · exact s2
    · exact wd.mono (by decide) (by decide)
    · exact it _ z.2.1
    · exact it _ z.2.2
theorem sm_facts {m : Nat} {S : Store} (D : Drawn m S) {fs : List Fact} (h : ∀ x ∈ fs, x ∈ S.facts) (hl : fs.length ≤ 1000) : Sm 2 261000 (.list (fs.map Fact.d)) := by
  refine (SmAll.list (k := 1) (n := 260) (m := 1000) (smAll fun d hd => ?_) (by rw [List.length_map]; exact hl)).mono (by decide) (by decide)
  obtain ⟨x, hx, rfl⟩ := List.mem_map.mp hd
  exact sm_fact D (h x hx)
theorem sm_words {ms : List Str} (h : ∀ x ∈ ms, x ∈ drawnWords) (hl : ms.length ≤ 10) : Sm 1 110 (.list (ms.map PyData.str)) := by
  refine (SmAll.list (k := 0) (n := 10) (m := 10) (smAll fun d hd => ?_) (by rw [List.length_map]; exact hl)).mono (by decide) (by decide)
  obtain ⟨x, hx, rfl⟩ := List.mem_map.mp hd
  exact sm_word (h x hx)
theorem sm_items {ns : List Int} (h : ∀ x ∈ ns, 0 ≤ x ∧ x ≤ 1000000000) (hl : ns.length ≤ 1000) : Sm 1 65000 (.list (ns.map PyData.int)) := by
  refine (SmAll.list (k := 0) (n := 64) (m := 1000) (smAll fun d hd => ?_) (by rw [List.length_map]; exact hl)).mono (by decide) (by decide)
  obtain ⟨x, hx, rfl⟩ := List.mem_map.mp hd
  exact sm_item (h x hx)
/-- the data of a store -/
def Store.d (S : Store) : PyData := .tuple [.str "store", .list (S.marks.map PyData.str), .list (S.columns.map PyData.str), .list (S.items.map PyData.int), .list (S.facts.map Fact.d)]
theorem store_dp {K : PySem.W.Frag} {H : Hp} {v : V} {S : Store} (A : StoAt H v S) : Dp K H v S.d := by
  obtain ⟨t, ma, ca, ia, fa, rs, rfl, ht, hma, hca, hia, hfa, tp⟩ := A
  exact .tup (.inl (.inl ht)) (.cons (.str _) (.cons (.lst (SqL.of hma) (dp_texts S.marks)) (.cons (.lst (SqL.of hca) (dp_texts S.columns)) (.cons (.lst (SqL.of hia) (dp_intsL S.items)) (.cons (.lst (SqL.of hfa) (dp_facts tp)) .nil)))))
theorem Drawn.fewMarks {m : Nat} {S : Store} (D : Drawn m S) : S.marks.length ≤ 10 := by
  obtain ⟨k, hk, ek⟩ := D.marks
  rw [ek, List.length_take]
  omega
theorem Drawn.fewColumns {m : Nat} {S : Store} (D : Drawn m S) : S.columns.length ≤ 10 := by
  obtain ⟨k, h1, hk, ek⟩ := D.columns
  rw [ek, List.length_take]
  omega
theorem sm_store {m : Nat} {S : Store} (D : Drawn m S) (hm : m ≤ 1000) : Sm 3 400000 S.d := by
  have a := sm_words (ms := S.marks) (fun x h => D.word (.inl h)) D.fewMarks
  have b := sm_words (ms := S.columns) (fun x h => D.word (.inr h)) D.fewColumns
  have c := sm_items D.items.2 (Nat.le_trans D.few hm)
  have d := sm_facts D (fs := S.facts) (fun x h => h) D.short
  have e : Sm 0 10 (.str "store") := sm_str (by decide +kernel) (by decide +kernel)
  refine ⟨?_, ?_, ?_, ?_, ?_⟩
  · simp only [Store.d, PyData.canLay0, PyData.canLayAll0]
    have := e.lay; have := a.lay; have := b.lay; have := c.lay; have := d.lay
    simp_all [PyData.canLay0]
  · simp only [Store.d, PyData.depth, PyData.depthAll]
    have := e.dep; have := a.dep; have := b.dep; have := c.dep; have := d.dep
    simp only [PyData.depth] at *
    omega
  · simp only [Store.d, PyData.weight, PyData.weightAll]
    have := e.wt; have := a.wt; have := b.wt; have := c.wt; have := d.wt
    simp only [PyData.weight] at *
    omega
  · simp only [Store.d, PyData.showable, PyData.showableAll]
    have := e.sh; have := a.sh; have := b.sh; have := c.sh; have := d.sh
    simp_all [PyData.showable]
  · simp only [Store.d, PyData.intsShort, PyData.intsShortAll]
    have := e.short; have := a.short; have := b.short; have := c.short; have := d.short
    simp_all [PyData.intsShort]
end DQ

set_option Elab.async false
set_option linter.all false
set_option maxRecDepth 100000
set_option maxHeartbeats 1000000
namespace DQ
open PySem PySem.Spec PyProof.Rows L2
/-! ### f(k = v, ..): keywords alone -/
def tCallK0 (m : Nat) (sp : Sp) (gV : List V → List V → List V) (E : L2.St → XK) (tk : TA) : TE := fun σ H Q => tk σ H fun zs H2 => zs.length = m ∧ sp (gV [] zs) H2 Q (E σ)
section
variable {X : Cx} {CX : CXT} {k : Nat} {f : Addr} {fd : FuncData} {ps ks : List Str} {sp : Sp} {E : L2.St → XK} {x : Str} {p pos : Pos} {kws : List Keyword} {tk : TA} {g : List Value → List Value → List Value} {gV : List V → List V → List V}
theorem pe_callK0 (F : FnOk X.prog X.w X.K X.mg X.base CX k f fd ps sp) (hr : Room k X.A) (hg : Gl X x) (hm : X.mg x = some (.ref f)) (hk : PySem.W.keepIn X.K (.ref f) = true) (hb : KBn X.K fd ps 0 ks g gV) (hx : ∀ σ, PassesAt CX X σ (E σ)) (hkw : PK X kws tk)
    (hall : (backToKw pos (keywordEach kws X.env)).all (·.1.isSome) = true := by rfl) (hks : (backToKw pos (keywordEach kws X.env)).filterMap (·.1) = ks := by rfl) (hdb : (x == ("__debug__" : Str)) = false := by decide)
    (hpl : ((backTo pos (starEach [] X.env)).any (·.1) || (backToKw pos (keywordEach kws X.env)).any (·.1.isNone)) = false := by rfl) :
    PE X (.Call (.Name x p) [] kws pos) (tCallK0 ks.length sp gV E tk) := ⟨fun pins s σ H Q I h => by
  refine wpAny_Call_Name_kw (ld_glob I hg hm (PySem.W.callWith_KW0 (h₀ := X.base) I.ok.mod.kin hk hall (thn (hkw.run pos pins s σ H _ I h) fun ws s1 h1 => ?_) hpl) hdb)
  obtain ⟨zs, H1, I1, rz, lz, q1⟩ := h1
  refine ⟨I1.kIn, ?_⟩
  rw [hks]
  have e2 : ws.length = ks.length := rz.length.symm.trans lz
  show wpAny _ _ (call (.ref f) [] (ks.zip ws)) _ _ _
  refine wpAny_call (codeAny_mono (F.run X.A X.stack s1 H1 ⟨[], ks.zip ws⟩ (g [] ws) (gV [] zs) Q (E σ) hr I1.env0 (hb.to s1 [] ws I1.kIn rfl e2) (hb.rel .nil rz) q1) fun r s' hq => ?_)
  cases r with
  | error e => exact hx σ pins H1 s1 e s' I1 hq
  | ok fl =>
    cases fl with
    | ret u => exact I1.after hq
    | next => exact False.elim hq
    | brk => exact False.elim hq
    | cont => exact False.elim hq⟩
end
/-- the second, then the first; the third, the second, the first -/
def turn2 {α : Type} : List α → List α
  | [a, b] => [b, a]
  | l => l
def turn3 {α : Type} : List α → List α
  | [a, b, c] => [c, b, a]
  | l => l
theorem vals_turn2 {vs : List V} {us : List Value} (r : Vals vs us) : Vals (turn2 vs) (turn2 us) := by
  match r with
  | .nil => exact .nil
  | .cons a .nil => exact .cons a .nil
  | .cons a (.cons b .nil) => exact .cons b (.cons a .nil)
  | .cons a (.cons b (.cons c r)) => exact .cons a (.cons b (.cons c r))
theorem vals_turn3 {vs : List V} {us : List Value} (r : Vals vs us) : Vals (turn3 vs) (turn3 us) := by
  match r with
  | .nil => exact .nil
  | .cons a .nil => exact .cons a .nil
  | .cons a (.cons b .nil) => exact .cons a (.cons b .nil)
  | .cons a (.cons b (.cons c .nil)) => exact .cons c (.cons b (.cons a .nil))
  | .cons a (.cons b (.cons c (.cons d r))) => exact .cons a (.cons b (.cons c (.cons d r)))
section
variable {K : PySem.W.Frag} {f : Addr} {fd : FuncData}
theorem kb_facts (F : Fun K "facts_of" "facts_of" sFactsOf f fd) : KBn K fd ["store", "item"] 0 ["item", "store"] (fun us ws => us ++ turn2 ws) (fun vs zs => vs ++ turn2 zs) := by
  obtain ⟨oc, od, kV, doc, pm, an, cdv, ct, osl, rfl, lk, hcd⟩ := F.ex
  exact ⟨fun s us ws X l1 l2 => match us, l1, ws, l2 with
    | [], _, [_, _], _ => .of_eq rfl, fun r1 r2 => r1.append (vals_turn2 r2)⟩
theorem kb_to (F : Fun K "led_to" "led_to" sTo f fd) : KBn K fd ["store", "column", "item"] 0 ["item", "column", "store"] (fun us ws => us ++ turn3 ws) (fun vs zs => vs ++ turn3 zs) := by
  obtain ⟨oc, od, kV, doc, pm, an, cdv, ct, osl, rfl, lk, hcd⟩ := F.ex
  exact ⟨fun s us ws X l1 l2 => match us, l1, ws, l2 with
    | [], _, [_, _, _], _ => .of_eq rfl, fun r1 r2 => r1.append (vals_turn3 r2)⟩
theorem kb_from (F : Fun K "led_from" "led_from" sFrom f fd) : KBn K fd ["store", "column", "item"] 0 ["item", "column", "store"] (fun us ws => us ++ turn3 ws) (fun vs zs => vs ++ turn3 zs) := by
  obtain ⟨oc, od, kV, doc, pm, an, cdv, ct, osl, rfl, lk, hcd⟩ := F.ex
  exact ⟨fun s us ws X l1 l2 => match us, l1, ws, l2 with
    | [], _, [_, _, _], _ => .of_eq rfl, fun r1 r2 => r1.append (vals_turn3 r2)⟩
end
end DQ

set_option Elab.async false
set_option linter.all false
set_option maxRecDepth 100000
set_option maxHeartbeats 1000000
namespace DQ
open PySem PySem.Spec PyProof.Rows L2
/-! ### [e for fact in facts if p(fact)] -/
theorem filter_yes {fs : List Fact} {k : Nat} {x : Fact} {p : Fact → Bool} (h : fs[k]? = some x) (e : p x = true) : (fs.take (k + 1)).filter p = (fs.take k).filter p ++ [x] := by
  rw [filter_next h, if_pos e]
theorem filter_not {fs : List Fact} {k : Nat} {x : Fact} {p : Fact → Bool} (h : fs[k]? = some x) (e : p x = false) : (fs.take (k + 1)).filter p = (fs.take k).filter p := by
  rw [filter_next h, if_neg (by rw [e]; exact Bool.false_ne_true), List.append_nil]
/-- the facts themselves -/
theorem lc_facts {K : PySem.W.Frag} {fa D : Addr} {rs : List V} {fs : List Fact} {H1 : Hp} {g : TG} {tt : TT} {te : TE} {vs : List Nat} {σ : L2.St} {Qd : Hp → Prop} (p : Fact → Bool) (hfa : H1 fa = some (.lst rs)) (tp : Tups H1 rs (fs.map Fact.v)) (few : fs.length ≤ 1000) (nD : H1 D = none)
    (hs : ∀ (a : Addr) (y : Fact) (H' : Hp), y ∈ fs → Same H1 H' → H' a = some (.tup y.v) → ∀ (W : V → Hp → Prop) (N : Hp → Prop), (p y = true → ∀ H3, Same H' H3 → W (.ref a) H3) → (p y = false → ∀ H3, Same H' H3 → N H3) → g (.ref a) (wipe σ vs) H' fun σ2 H2 => wipe σ2 vs = wipe σ vs ∧ tt σ2 H2 fun b H3 => if b = true then te σ2 H3 W else N H3)
    (hd : ∀ (H' : Hp) (rs' : List V), Same H1 H' → H' D = some (.lst rs') → Tups H' rs' ((fs.filter p).map Fact.v) → Qd H') :
    ∃ W : Nat → Nat → Hp → Prop, (∃ m, W 0 m (upd H1 D (.lst []))) ∧ ∀ i m H, W i m H →
      ((Itl K fa).stop i H ∧ Qd H) ∨ ((Itl K fa).go i H ∧ ∃ Nx : Hp → Prop, (∀ H', Nx H' → ∃ m', m' < m ∧ W (i + 1) m' H') ∧ ∀ x H', (Itl K fa).yld i H x H' → g x (wipe σ vs) H' fun σ2 H2 => wipe σ2 vs = wipe σ vs ∧ tt σ2 H2 fun b H3 =>
        if b = true then te σ2 H3 fun y H4 => ∃ acc, H4 D = some (.lst acc) ∧ acc.length < sizeLine ∧ Nx (upd H4 D (.lst (acc ++ [y]))) else Nx H3) := by
  refine lc_list (K := K) (a := fa) (xs := rs) (fun k H' => ∃ rs' : List V, H' D = some (.lst rs') ∧ rs'.length ≤ k ∧ Tups H' rs' (((fs.take k).filter p).map Fact.v) ∧ Same H1 H')
    ⟨[], upd_same, Nat.le_refl _, .nil, same_new nD⟩ (fun k H' _ hP => ?_) (fun k x H' hx hP => ?_) fun H' hP => ?_
  · obtain ⟨rs', eD, l, tp', s'⟩ := hP
    exact SqL.of (s' _ _ hfa)
  · obtain ⟨rs', eD, l, tp', s'⟩ := hP
    obtain ⟨a, tv, rfl, ha, hv⟩ := tp.get hx
    obtain ⟨y, hy, rfl⟩ := at_map hv
    have ha' : H' a = some (.tup y.v) := s' _ _ ha
    have lk : k < 1000 := Nat.lt_of_lt_of_le (List.getElem?_eq_some_iff.mp hy).1 few
    refine hs a y H' (List.mem_of_getElem? hy) s' ha' _ _ (fun c H3 s3 => ?_) fun c H3 s3 => ?_
    · have eD3 := s3 _ _ eD
      refine ⟨rs', eD3, small1000 (by omega), rs' ++ [.ref a], upd_same, ?_, ?_, same_upd (s'.trans s3) nD⟩
      · rw [List.length_append, List.length_singleton]
        omega
      · rw [filter_yes hy c, List.map_append]
        exact (Tups.put (s3 _ _ ha') (tp'.keep (tk_same s3))).keep (tk_lst eD3)
    · refine ⟨rs', s3 _ _ eD, by omega, ?_, s'.trans s3⟩
      rw [filter_not hy c]
      exact tp'.keep (tk_same s3)
  · obtain ⟨rs', eD, l, tp', s'⟩ := hP
    rw [show rs.length = fs.length by rw [tp.length, List.length_map], List.take_length] at tp'
    exact hd H' rs' s' eD tp'
/-- something of each fact -/
theorem lc_of_facts {K : PySem.W.Frag} {fa D : Addr} {rs : List V} {fs : List Fact} {H1 : Hp} {g : TG} {tt : TT} {te : TE} {vs : List Nat} {σ : L2.St} {Qd : Hp → Prop} (p : Fact → Bool) (e : Fact → V) (hfa : H1 fa = some (.lst rs)) (tp : Tups H1 rs (fs.map Fact.v)) (few : fs.length ≤ 1000) (nD : H1 D = none)
    (hs : ∀ (a : Addr) (y : Fact) (H' : Hp), y ∈ fs → Same H1 H' → H' a = some (.tup y.v) → ∀ (W : V → Hp → Prop) (N : Hp → Prop), (p y = true → ∀ H3, Same H' H3 → W (e y) H3) → (p y = false → ∀ H3, Same H' H3 → N H3) → g (.ref a) (wipe σ vs) H' fun σ2 H2 => wipe σ2 vs = wipe σ vs ∧ tt σ2 H2 fun b H3 => if b = true then te σ2 H3 W else N H3)
    (hd : ∀ (H' : Hp), Same H1 H' → H' D = some (.lst ((fs.filter p).map e)) → Qd H') :
    ∃ W : Nat → Nat → Hp → Prop, (∃ m, W 0 m (upd H1 D (.lst []))) ∧ ∀ i m H, W i m H →
      ((Itl K fa).stop i H ∧ Qd H) ∨ ((Itl K fa).go i H ∧ ∃ Nx : Hp → Prop, (∀ H', Nx H' → ∃ m', m' < m ∧ W (i + 1) m' H') ∧ ∀ x H', (Itl K fa).yld i H x H' → g x (wipe σ vs) H' fun σ2 H2 => wipe σ2 vs = wipe σ vs ∧ tt σ2 H2 fun b H3 =>
        if b = true then te σ2 H3 fun y H4 => ∃ acc, H4 D = some (.lst acc) ∧ acc.length < sizeLine ∧ Nx (upd H4 D (.lst (acc ++ [y]))) else Nx H3) := by
  refine lc_list (K := K) (a := fa) (xs := rs) (fun k H' => H' D = some (.lst (((fs.take k).filter p).map e)) ∧ Same H1 H') ⟨upd_same, same_new nD⟩ (fun k H' _ hP => SqL.of (hP.2 _ _ hfa)) (fun k x H' hx hP => ?_) fun H' hP => ?_
  · obtain ⟨eD, s'⟩ := hP
    obtain ⟨a, tv, rfl, ha, hv⟩ := tp.get hx
    obtain ⟨y, hy, rfl⟩ := at_map hv
    have ha' : H' a = some (.tup y.v) := s' _ _ ha
    have lk : k < 1000 := Nat.lt_of_lt_of_le (List.getElem?_eq_some_iff.mp hy).1 few
    refine hs a y H' (List.mem_of_getElem? hy) s' ha' _ _ (fun c H3 s3 => ?_) fun c H3 s3 => ?_
    · have eD3 := s3 _ _ eD
      refine ⟨_, eD3, ?_, ?_, same_upd (s'.trans s3) nD⟩
      · rw [List.length_map]
        have l1 := List.length_filter_le p (fs.take k)
        rw [List.length_take] at l1
        exact small1000 (by omega)
      · rw [upd_same, filter_yes hy c, List.map_append]
        rfl
    · refine ⟨?_, s'.trans s3⟩
      rw [filter_not hy c]
      exact s3 _ _ eD
  · obtain ⟨eD, s'⟩ := hP
    rw [show rs.length = fs.length by rw [tp.length, List.length_map], List.take_length] at eD
    exact hd H' s' eD
end DQ

set_option Elab.async false
set_option linter.all false
set_option maxRecDepth 100000
set_option maxHeartbeats 1000000
namespace DQ
open PySem PySem.Spec PyProof.Rows L2
abbrev sRight : Stmt := topS 47
abbrev NR : List Str := ["store", "item", "due", "fact", "told", "column", "ahead", "behind"]
theorem scRight : FnScope NR ["store", "item"] (defScope sRight) := ⟨rfl, rfl, rfl, by decide +kernel, rfl, by decide +kernel, by decide +kernel⟩
/-- the item to which a link leads, the one from which it does -/
def Fact.endV : Fact → V
  | .mark _ _ => .non
  | .link _ _ b => .int b
def Fact.startV : Fact → V
  | .mark _ _ => .non
  | .link _ a _ => .int a
theorem head_find {fs : List Fact} {p : Fact → Bool} {e : Fact → V} : (((fs.filter p).map e) ++ [V.non])[0]? = some (match fs.find? p with | some x => e x | none => .non) := by
  rw [← List.head?_filter]
  cases fs.filter p <;> rfl
theorem ahead_head (fs : List Fact) (c : Str) (i : Int) : atI (((fs.filter (isFrom c i)).map Fact.endV) ++ [V.non]) 0 = some (toV fs c i) := by
  refine (atI_nat (j := 0) head_find).trans (congrArg some ?_)
  unfold toV
  cases fs.find? (isFrom c i) with
  | none => rfl
  | some x => cases x <;> rfl
theorem behind_head (fs : List Fact) (c : Str) (i : Int) : atI (((fs.filter (isTo c i)).map Fact.startV) ++ [V.non]) 0 = some (fromV fs c i) := by
  refine (atI_nat (j := 0) head_find).trans (congrArg some ?_)
  unfold fromV
  cases fs.find? (isTo c i) with
  | none => rfl
  | some x => cases x <;> rfl
/-- None or an item -/
theorem to_data {m : Nat} {S : Store} (D : Drawn m S) (c : Str) (i : Int) : ∃ d, Sm 0 64 d ∧ ∀ (K : PySem.W.Frag) (H : Hp), Dp K H (toV S.facts c i) d := by
  unfold toV
  split
  · rename_i a b e
    have z := D.facts _ (List.mem_of_find?_eq_some e)
    exact ⟨_, sm_item (D.items.2 _ z.2.2), fun K H => .int _⟩
  · exact ⟨_, sm_none.mono (Nat.le_refl _) (Nat.zero_le _), fun K H => .non⟩
theorem from_data {m : Nat} {S : Store} (D : Drawn m S) (c : Str) (i : Int) : ∃ d, Sm 0 64 d ∧ ∀ (K : PySem.W.Frag) (H : Hp), Dp K H (fromV S.facts c i) d := by
  unfold fromV
  split
  · rename_i a b e
    have z := D.facts _ (List.mem_of_find?_eq_some e)
    exact ⟨_, sm_item (D.items.2 _ z.2.1), fun K H => .int _⟩
  · exact ⟨_, sm_none.mono (Nat.le_refl _) (Nat.zero_le _), fun K H => .non⟩
theorem filter_few {m : Nat} {S : Store} (D : Drawn m S) (p : Fact → Bool) : (S.facts.filter p).length ≤ 1000 := Nat.le_trans (List.length_filter_le _ _) D.short
theorem storeAt_same {H H' : Hp} {v : V} {S : Store} (A : StoAt H v S) (s : Same H H') : StoAt H' v S := by
  obtain ⟨t, ma, ca, ia, fa, rs, rfl, ht, hma, hca, hia, hfa, tp⟩ := A
  exact ⟨t, ma, ca, ia, fa, rs, rfl, s _ _ ht, s _ _ hma, s _ _ hca, s _ _ hia, s _ _ hfa, tp.keep (tk_same s)⟩
/-- what facts_of asks, for an item of a drawn store -/
theorem facts_asks {K : PySem.W.Frag} {C0 C3 : Addr} {H : Hp} {v : V} {m : Nat} {S : Store} {i : Int} {Q : VK} {E : XK} (hm : m ≤ 2000) (D : Drawn m S) (A : StoAt H v S) (hi : i ∈ S.items)
    (q : ∀ (p : Addr) (rs : List V) (H1 : Hp), Same H H1 → H p = none → H1 p = some (.lst rs) → Tups H1 rs ((S.facts.filter (Fact.has i)).map Fact.v) → Q (.ref p) H1) : spFactsOf K C0 C3 [v, .int i] H Q E :=
  ⟨v, .int i, rfl, .inr ⟨m, S, .int i, hm, D, A, .int i, (fun h => by
    rw [okItem_of D.items.2 hi] at h
    exact nomatch h), fun j e hj p rs H1 s np ep tp => by
    injection e with e
    subst e
    exact q p rs H1 s np ep tp⟩⟩
theorem led_asks {K : PySem.W.Frag} {C0 C2 C3 : Addr} {H : Hp} {v : V} {m : Nat} {S : Store} {c : Str} {i : Int} {Q : VK} {E : XK} {f : List Fact → Str → Int → V} (hm : m ≤ 2000) (D : Drawn m S) (A : StoAt H v S) (hc : c ∈ S.columns) (hi : i ∈ S.items)
    (q : ∀ H1, Same H H1 → Q (f S.facts c i) H1) : spTo K C0 C2 C3 f [v, .str c, .int i] H Q E :=
  ⟨v, .str c, .int i, rfl, .inr ⟨m, S, .str c, .int i, hm, D, A, .str c, (sm_word (D.word (.inr hc))).shaped (by decide), .int i, (fun h => by
    rw [hasD_of hc] at h
    exact nomatch h), (fun _ h => by
    rw [okItem_of D.items.2 hi] at h
    exact nomatch h), fun c' i' e1 e2 _ _ H1 s => by
    injection e1 with e1
    injection e2 with e2
    subst e1 e2
    exact q H1 s⟩⟩
theorem dec_strs {a b : Str} : decide (V.str a = V.str b) = decide (a = b) := decide_eq_decide.mpr ⟨fun h => by injection h, fun h => by rw [h]⟩
theorem nil_read {σ : L2.St} {H : Hp} {Q : List V → Hp → Prop} (h : Q [] H) : tNil σ H Q := h
section
variable {P : Program} {w : World} {K : PySem.W.Frag} {mg : Str → Option Value} {base : Heap}
def spRight : Sp := fun vs H Q _ => ∃ (v : V) (i : Int) (m : Nat) (S : Store), vs = [v, .int i] ∧ m ≤ 1000 ∧ Drawn m S ∧ StoAt H v S ∧ i ∈ S.items ∧ ∀ H', Same H H' → Q (.bl true) H'
theorem ok_right {f f1 f2 f3 C0 C2 C3 : Addr} {fd d1 d2 d3 : FuncData} (F : Fun K "_law_item_right" "_law_item_right" sRight f fd)
    (G1 : FnOk P w K mg base (L2.CX P w) 8 f1 d1 ["store", "item"] (spFactsOf K C0 C3)) (b1 : Binds K d1 ["store", "item"] []) (k1 : PySem.W.keepIn K (.ref f1) = true) (m1 : mg "facts_of" = some (.ref f1)) (kb1 : KBn K d1 ["store", "item"] 0 ["item", "store"] (fun us ws => us ++ turn2 ws) (fun vs zs => vs ++ turn2 zs))
    (G2 : FnOk P w K mg base (L2.CX P w) 9 f2 d2 ["store", "column", "item"] (spTo K C0 C2 C3 toV)) (b2 : Binds K d2 ["store", "column", "item"] []) (k2 : PySem.W.keepIn K (.ref f2) = true) (m2 : mg "led_to" = some (.ref f2)) (kb2 : KBn K d2 ["store", "column", "item"] 0 ["item", "column", "store"] (fun us ws => us ++ turn3 ws) (fun vs zs => vs ++ turn3 zs))
    (G3 : FnOk P w K mg base (L2.CX P w) 9 f3 d3 ["store", "column", "item"] (spTo K C0 C2 C3 fromV)) (b3 : Binds K d3 ["store", "column", "item"] []) (k3 : PySem.W.keepIn K (.ref f3) = true) (m3 : mg "led_from" = some (.ref f3)) (kb3 : KBn K d3 ["store", "column", "item"] 0 ["item", "column", "store"] (fun us ws => us ++ turn3 ws) (fun vs zs => vs ++ turn3 zs))
    (mR : mg "repr" = none) : FnG P w K mg base CX0 10 f fd ["store", "item"] spRight := by
  refine fun_okG F scRight (fun vs H Q E h => ?_) (fun cdv A outer s H vs Q E hr hG h => ?_)
  · obtain ⟨_, _, _, _, rfl, _⟩ := h
    rfl
  obtain ⟨v, i, m, S, rfl, hm, D, A', hi, q⟩ := h
  have nd := scRight.nd
  refine ⟨_, (pss_cons (ps_setLc (i := 2) (own := [("fact", 3)]) (g := gName 3) rfl nd rfl rfl (sw_true rfl rfl rfl rfl) (pi_list (pe_ix (r := rIxT K) ix_tup (pv 0) pe_int (fun _ _ => rfl))) (blkOk_by (own := [("fact", 3)]) (N := NR) (sc := defScope sRight) (by decide +kernel)) (fun _ _ _ _ _ => pg_name (i := 3) nd rfl (Or.inl rfl))
      (fun _ _ _ _ _ => pts_one (pt_cmpR (r := rIn K false) op_in_seq (pv 1) (pe_slice (r := rSlT K) sl_tup (pv 3) (po_some pe_int) po_none) (by rfl))) (fun _ _ _ _ _ => pv 3))
    (pss_cons (ps_set (i := 4) nd rfl (.inl rfl) (pe_callS (E := WE fun _ _ _ _ => False) G1 (hr.mono (by decide)) rfl m1 k1 b1 (fun σ => passAt takes0 σ) (pa_cons (pv 0) (pa_cons (pv 1) pa_nil))))
    (pss_cons (ps_if (PW.pt (pw_or (pt_cmpR op_ne (pe_callB (call_reprV (room65 hr) hG) (by rfl) mR (by decide +kernel) (pa_cons (pv 4) pa_nil)) (pe_callB (call_reprV (room65 hr) hG) (by rfl) mR (by decide +kernel) (pa_cons (pv 2) pa_nil)) (nomark _))
      (pw_or1 (pt_cmpR (op_neD hr.units) (pe_callK0 (ks := ["item", "store"]) (E := WE fun _ _ _ _ => False) G1 (hr.mono (by decide)) rfl m1 k1 kb1 (fun σ => passAt takes0 σ) (pk_cons (pv 1) (pk_cons (pv 0) pk_nil))) (pv 2) (nomark _))))) (pss_one (ps_ret pe_bl)) pss_nil)
    (pss_cons (ps_expr (pe_bm PySem.F.plainAttrs_list PySem.F.slot_list_append PySem.F.type_list_append mt_append (pv 4) (pa_cons pe_non pa_nil)))
    (pss_cons (ps_for (passes_of rfl) rfl (pi_list (pe_ix (r := rIxT K) ix_tup (pv 0) pe_int (fun _ _ => rfl))) (pg_name (i := 5) nd rfl (.inr rfl))
      (pss_cons (ps_set (i := 6) nd rfl (.inl rfl) (pe_op op_cat (pe_lc (own := [("fact", 3)]) (g := gName 3) rfl nd (pi_list (pe_ix (r := rIxT K) ix_tup (pv 0) pe_int (fun _ _ => rfl))) (blkOk_by (own := [("fact", 3)]) (N := NR) (sc := defScope sRight) (by decide +kernel)) (fun _ _ _ _ _ => pg_name (i := 3) nd rfl (Or.inl rfl))
          (fun _ _ _ _ _ => pts_one (pt_cmpR (r := rEqD K) (op_eqD hr.units) (pe_slice (r := rSlA K) sl_tupA (pv 3) po_none (po_some pe_int)) (pe_tup (pa_cons pe_str (pa_cons (pv 5) (pa_cons (pv 1) pa_nil)))) (nomark _))) (fun _ _ _ _ _ => pe_ix (r := rIxT K) ix_tup (pv 3) pe_int (fun _ _ => rfl))) (pe_lst (pa_cons pe_non pa_nil))))
      (pss_cons (ps_set (i := 7) nd rfl (.inl rfl) (pe_op op_cat (pe_lc (own := [("fact", 3)]) (g := gName 3) rfl nd (pi_list (pe_ix (r := rIxT K) ix_tup (pv 0) pe_int (fun _ _ => rfl))) (blkOk_by (own := [("fact", 3)]) (N := NR) (sc := defScope sRight) (by decide +kernel)) (fun _ _ _ _ _ => pg_name (i := 3) nd rfl (Or.inl rfl))
          (fun _ _ _ _ _ => pts_one (PW.pt (pw_and (pt_cmpR op_eq (pe_ix (r := rIxT K) ix_tup (pv 3) pe_int (fun _ _ => rfl)) pe_str (nomark _)) (pw_and (pt_cmpR op_eq (pe_ix (r := rIxT K) ix_tup (pv 3) pe_int (fun _ _ => rfl)) (pv 5) (nomark _)) (pw_and1 (pt_cmpR op_eq (pe_ix (r := rIxT K) ix_tup (pv 3) pe_int (fun _ _ => rfl)) (pv 1) (nomark _))))))) (fun _ _ _ _ _ => pe_ix (r := rIxT K) ix_tup (pv 3) pe_int (fun _ _ => rfl))) (pe_lst (pa_cons pe_non pa_nil))))
      (pss_cons (ps_if (pt_cmpR op_ne (pe_callB (call_reprV (room65 hr) hG) (by rfl) mR (by decide +kernel) (pa_cons (pe_lst (pa_cons (pe_callS (E := WE fun _ _ _ _ => False) G2 (hr.mono (by decide)) rfl m2 k2 b2 (fun σ => passAt takes0 σ) (pa_cons (pv 0) (pa_cons (pv 5) (pa_cons (pv 1) pa_nil)))) (pa_cons (pe_callS (E := WE fun _ _ _ _ => False) G3 (hr.mono (by decide)) rfl m3 k3 b3 (fun σ => passAt takes0 σ) (pa_cons (pv 0) (pa_cons (pv 5) (pa_cons (pv 1) pa_nil)))) pa_nil))) pa_nil))
          (pe_callB (call_reprV (room65 hr) hG) (by rfl) mR (by decide +kernel) (pa_cons (pe_lst (pa_cons (pe_ix (r := rIxL K) ix_list (pv 6) pe_int (fun _ _ => rfl)) (pa_cons (pe_ix (r := rIxL K) ix_list (pv 7) pe_int (fun _ _ => rfl)) pa_nil))) pa_nil)) (nomark _)) (pss_one (ps_ret pe_bl)) pss_nil)
      (pss_one (ps_if (PW.pt (pw_or (pt_cmpR (op_neD hr.units) (pe_callK0 (ks := ["item", "column", "store"]) (E := WE fun _ _ _ _ => False) G2 (hr.mono (by decide)) rfl m2 k2 kb2 (fun σ => passAt takes0 σ) (pk_cons (pv 1) (pk_cons (pv 5) (pk_cons (pv 0) pk_nil)))) (pe_ix (r := rIxL K) ix_list (pv 6) pe_int (fun _ _ => rfl)) (nomark _))
          (pw_or1 (pt_cmpR (op_neD hr.units) (pe_callK0 (ks := ["item", "column", "store"]) (E := WE fun _ _ _ _ => False) G3 (hr.mono (by decide)) rfl m3 k3 kb3 (fun σ => passAt takes0 σ) (pk_cons (pv 1) (pk_cons (pv 5) (pk_cons (pv 0) pk_nil)))) (pe_ix (r := rIxL K) ix_list (pv 7) pe_int (fun _ _ => rfl)) (nomark _))))) (pss_one (ps_ret pe_bl)) pss_nil))))))
    (pss_one (ps_ret (pe_cmpR (op_eqD hr.units) (pe_callS (E := WE fun _ _ _ _ => False) G1 (hr.mono (by decide)) rfl m1 k1 b1 (fun σ => passAt takes0 σ) (pa_cons (pv 0) (pa_cons (pv 1) pa_nil))) (pv 2) (nomark _))))))))), ?_⟩
  have A := A'
  obtain ⟨t, ma, ca, ia, fa, rs, rfl, ht, hma, hca, hia, hfa, tp⟩ := A
  have smF := sm_facts D (fs := S.facts.filter (Fact.has i)) (fun x h => (List.mem_filter.mp h).1) (filter_few D _)
  have shF := smF.shows (by decide) (by decide)
  have hm2 : m ≤ 2000 := by omega
  -- due
  refine ⟨_, rfl, t, _, 4, .ref fa, rfl, rfl, .inl (.inl ht), atI_nat (j := 4) rfl, fa, rfl, ⟨_, SqL.of hfa⟩, fun D1 nD1 => lc_facts (K := K) (Fact.has i) hfa tp D.short nD1 (fun a y H' hy s1 ha' W N yes no => ?_) fun H1 rs1 s1 eD1 tp1 => ?_⟩
  · refine ⟨rfl, _, rfl, _, rfl, _, rfl, a, _, rfl, .inl (.inl ha'), fun z => ?_, fun p np => ?_⟩
    · have z := z.1
      rw [show (some (2 : Int)) = some ((2 : Nat) : Int) from rfl, HT.sIx_nat] at z
      have := fact_len y
      omega
    rw [show (some (2 : Int)) = some ((2 : Nat) : Int) from rfl, cut_drop, fact_drop]
    have mp := same_new np (o := .tup (y.its.map V.int))
    have ep : upd H' p (.tup (y.its.map V.int)) p = some (.tup (y.its.map V.int)) := upd_same
    generalize upd H' p (.tup (y.its.map V.int)) = H2 at mp ep ⊢
    have e1 : inV (.int i) (y.its.map V.int) = Fact.has i y := inV_int i y.its
    refine ⟨p, _, rfl, .inr (.inl (.inl ep)), rfl, flat_intsV _, _, rfl, ?_⟩
    show if inV (.int i) (y.its.map V.int) = true then _ else _
    rw [e1]
    exact ite2 (fun c2 => ⟨_, rfl, yes c2 _ mp⟩) fun c2 => no (Bool.eq_false_iff.mpr c2) _ mp
  refine ⟨_, rfl, _, rfl, nil_read ?_⟩
  refine facts_asks hm2 D (storeAt_same A' s1) hi fun p4 rs4 H4 s4 n4 e4 tp4 => ?_
  have sm4 : L2.Same H H4 := s1.trans s4
  have dpT : Dp K H4 (.ref p4) (.list ((S.facts.filter (Fact.has i)).map Fact.d)) := .lst (SqL.of e4) (dp_facts tp4)
  have eD4 := s4 _ _ eD1
  have dpD : Dp K H4 (.ref D1) (.list ((S.facts.filter (Fact.has i)).map Fact.d)) := .lst (SqL.of eD4) (dp_facts (tp1.keep (tk_same s4)))
  refine ⟨_, rfl, _, _, rfl, dpT, shF, _, rfl, _, _, rfl, dpD, shF, rfl, false, ?_, ?_⟩
  · rw [decide_eq_true (rfl : V.str (PyData.list ((S.facts.filter (Fact.has i)).map Fact.d)).shown = V.str (PyData.list ((S.facts.filter (Fact.has i)).map Fact.d)).shown)]
    rfl
  refine ⟨_, rfl, _, rfl, nil_read ⟨rfl, facts_asks hm2 D (storeAt_same A' sm4) hi fun p5 rs5 H5 s5 n5 e5 tp5 => ?_⟩⟩
  have sm5 : L2.Same H H5 := sm4.trans s5
  refine ⟨_, rfl, _, _, .lst (SqL.of e5) (dp_facts tp5), dp_same s5 _ _ dpD, smF.shaped (by decide), smF.shaped (by decide), false, ?_, ?_⟩
  · rw [smF.eqv (by decide)]
    rfl
  -- told.append(None)
  have l4 : rs4.length ≤ 1000 := by
    rw [tp4.length, List.length_map]
    exact filter_few D _
  refine ⟨_, rfl, .inl ⟨rfl, _, SqL.of (s5 _ _ e4)⟩, p4, rs4, _, rfl, rfl, s5 _ _ e4, small1000 (by omega), ?_⟩
  have n1 : H p4 = none := L2.Same.free s1 n4
  have nDp : D1 ≠ p4 := ne_of_none eD1 n4
  have sm6 : L2.Same H1 (upd H5 p4 (.lst (rs4 ++ [.non]))) := same_upd (s4.trans s5) n4
  generalize upd H5 p4 (.lst (rs4 ++ [.non])) = H6 at sm6 ⊢
  -- the columns
  refine ⟨_, rfl, t, _, 2, .ref ca, rfl, rfl, .inl (.inl (sm6 _ _ (s1 _ _ ht))), atI_nat (j := 2) rfl, ca, rfl, ⟨_, SqL.of (sm6 _ _ (s1 _ _ hca))⟩, for_list (K := K) (a := ca) (xs := S.columns.map V.str) (fun k σ H' => ∃ y5 y6 y7 : Option V, σ = [some (.ref t), some (.int i), some (.ref D1), none, some (.ref p4), y5, y6, y7] ∧ Same H1 H')
    ⟨none, none, none, rfl, sm6⟩ (fun k σ H' _ hP => ?_) (fun k x σ H' hx hP => ?_) fun σ H' hP => ?_⟩
  · obtain ⟨y5, y6, y7, rfl, s'⟩ := hP
    exact SqL.of (s' _ _ (s1 _ _ hca))
  · obtain ⟨y5, y6, y7, rfl, s'⟩ := hP
    obtain ⟨cc, hcc, rfl⟩ := at_map hx
    have hc : cc ∈ S.columns := List.mem_of_getElem? hcc
    have lc := (lay_words _ (D.word (.inr hc))).1
    have sH : L2.Same H H' := s1.trans s'
    -- ahead
    refine ⟨_, rfl, t, _, 4, .ref fa, rfl, rfl, .inl (.inl (sH _ _ ht)), atI_nat (j := 4) rfl, fa, rfl, ⟨_, SqL.of (sH _ _ hfa)⟩, fun Da nDa => lc_of_facts (K := K) (isFrom cc i) Fact.endV (sH _ _ hfa) (tp.keep (tk_same sH)) D.short nDa (fun a y H2 hy s2 ha2 W N yes no => ?_) fun Ha sa eDa => ?_⟩
    · have ly := (lay_words _ (D.factWord hy)).1
      cases y with
      | mark mm j =>
        refine ⟨rfl, _, rfl, _, rfl, a, _, rfl, .inl (.inl ha2), fun _ => ?_, fun z => absurd ⟨rfl, rfl⟩ z⟩
        refine ⟨_, rfl, _, rfl, by show 3 ≤ sizeLine; decide, fun T nT => ?_⟩
        have mT := same_new nT (o := .tup [.str "link", .str cc, .int i])
        have eT : upd H2 T (.tup [.str "link", .str cc, .int i]) T = some (.tup [.str "link", .str cc, .int i]) := upd_same
        generalize upd H2 T (.tup [.str "link", .str cc, .int i]) = H3 at mT eT ⊢
        refine ⟨(Fact.mark mm j).d, .tuple [.str "link", .str cc, .int i], fact_dp (mT _ _ ha2), .tup (.inl (.inl eT)) (.cons (.str _) (.cons (.str _) (.cons (.int _) .nil))), fact_shaped _ ly, shaped3 lay_link lc, _, rfl, ?_⟩
        have e : PyData.eqv (Fact.mark mm j).d (.tuple [.str "link", .str cc, .int i]) = false := by
          simp only [Fact.d, PyData.eqv, PyData.eqvAll]
          rw [show (("mark" : Str) == "link") = false by decide]
          rfl
        rw [e]
        exact no rfl _ mT
      | link c' p r =>
        refine ⟨rfl, _, rfl, _, rfl, a, _, rfl, .inl (.inl ha2), fun z => absurd z.2 (show ¬ HT.sIx 4 4 (some 3) = 4 by decide), fun _ T nT => ?_⟩
        rw [cut_take (show (0 : Int) ≤ 3 by decide)]
        have mT := same_new nT (o := .tup ((Fact.link c' p r).v.take (3 : Int).toNat))
        have eT : upd H2 T (.tup ((Fact.link c' p r).v.take (3 : Int).toNat)) T = some (.tup [.str "link", .str c', .int p]) := upd_same
        generalize upd H2 T (.tup ((Fact.link c' p r).v.take (3 : Int).toNat)) = H3 at mT eT ⊢
        refine ⟨_, rfl, _, rfl, by show 3 ≤ sizeLine; decide, fun T2 nT2 => ?_⟩
        have mT2 := same_new nT2 (o := .tup [.str "link", .str cc, .int i])
        have eT2 : upd H3 T2 (.tup [.str "link", .str cc, .int i]) T2 = some (.tup [.str "link", .str cc, .int i]) := upd_same
        generalize upd H3 T2 (.tup [.str "link", .str cc, .int i]) = H4' at mT2 eT2 ⊢
        refine ⟨.tuple [.str "link", .str c', .int p], .tuple [.str "link", .str cc, .int i], .tup (.inl (.inl (mT2 _ _ eT))) (.cons (.str _) (.cons (.str _) (.cons (.int _) .nil))), .tup (.inl (.inl eT2)) (.cons (.str _) (.cons (.str _) (.cons (.int _) .nil))), shaped3 lay_link ly, shaped3 lay_link lc, _, rfl, ?_⟩
        have e : PyData.eqv (.tuple [.str "link", .str c', .int p]) (.tuple [.str "link", .str cc, .int i]) = isFrom cc i (.link c' p r) := by
          show _ = (decide (c' = cc) && decide (p = i))
          simp only [PyData.eqv, PyData.eqvAll, Bool.and_true]
          rw [show (("link" : Str) == "link") = true by decide, Bool.true_and]
          congr 1
        rw [e]
        exact ite2 (fun c2 => ⟨_, rfl, a, _, 3, .int r, rfl, rfl, .inl (.inl (mT2 _ _ (mT _ _ ha2))), atI_nat (j := 3) rfl, yes c2 _ (mT.trans mT2)⟩) fun c2 => no (Bool.eq_false_iff.mpr c2) _ (mT.trans mT2)
    have flen : ((S.facts.filter (isFrom cc i)).map Fact.endV).length ≤ 1000 := by
      rw [List.length_map]
      exact filter_few D _
    refine ⟨by show 1 ≤ sizeLine; decide, fun P0 nP0 => ⟨Da, P0, _, _, rfl, rfl, same_new nP0 _ _ eDa, upd_same, Nat.le_trans (show _ + 1 ≤ 1001 by omega) (by decide), fun p6 n6 => ?_⟩⟩
    have s6 := (same_new nP0 (o := .lst [.non])).trans (same_new n6 (o := .lst (((S.facts.filter (isFrom cc i)).map Fact.endV) ++ [.non])))
    have e6 : upd (upd Ha P0 (.lst [.non])) p6 (.lst (((S.facts.filter (isFrom cc i)).map Fact.endV) ++ [.non])) p6 = some (.lst (((S.facts.filter (isFrom cc i)).map Fact.endV) ++ [.non])) := upd_same
    generalize upd (upd Ha P0 (.lst [.non])) p6 (.lst (((S.facts.filter (isFrom cc i)).map Fact.endV) ++ [.non])) = H7 at s6 e6 ⊢
    have s7 : L2.Same H1 H7 := (s'.trans sa).trans s6
    have sH7 : L2.Same H H7 := s1.trans s7
    -- behind
    refine ⟨_, rfl, t, _, 4, .ref fa, rfl, rfl, .inl (.inl (sH7 _ _ ht)), atI_nat (j := 4) rfl, fa, rfl, ⟨_, SqL.of (sH7 _ _ hfa)⟩, fun Db nDb => lc_of_facts (K := K) (isTo cc i) Fact.startV (sH7 _ _ hfa) (tp.keep (tk_same sH7)) D.short nDb (fun a y H2 hy s2 ha2 W N yes no => ?_) fun Hb sb eDb => ?_⟩
    · cases y with
      | mark mm j =>
        refine ⟨rfl, _, rfl, a, _, 0, .str "mark", rfl, rfl, .inl (.inl ha2), atI_nat (j := 0) rfl, rfl, _, rfl, ?_⟩
        rw [show decide (V.str ("mark" : Str) = V.str ("link" : Str)) = false by decide +kernel]
        exact no rfl _ (L2.Same.refl _)
      | link c' p r =>
        have et : isTo cc i (.link c' p r) = (decide (c' = cc) && decide (r = i)) := rfl
        refine ⟨rfl, _, rfl, a, _, 0, .str "link", rfl, rfl, .inl (.inl ha2), atI_nat (j := 0) rfl, rfl, _, rfl, ?_⟩
        rw [show decide (V.str ("link" : Str) = V.str ("link" : Str)) = true by decide +kernel]
        refine ⟨_, rfl, a, _, 1, .str c', rfl, rfl, .inl (.inl ha2), atI_nat (j := 1) rfl, _, rfl, rfl, _, rfl, ?_⟩
        rw [dec_strs]
        refine ite2 (fun c2 => ?_) fun c2 => ?_
        · rw [c2, Bool.true_and] at et
          refine ⟨_, rfl, a, _, 3, .int r, rfl, rfl, .inl (.inl ha2), atI_nat (j := 3) rfl, _, rfl, rfl, _, rfl, ?_⟩
          rw [dec_ints]
          exact ite2 (fun c3 => ⟨_, rfl, a, _, 2, .int p, rfl, rfl, .inl (.inl ha2), atI_nat (j := 2) rfl, yes (et.trans c3) _ (L2.Same.refl _)⟩) fun c3 => no (et.trans (Bool.eq_false_iff.mpr c3)) _ (L2.Same.refl _)
        · rw [Bool.eq_false_iff.mpr c2, Bool.false_and] at et
          exact no et _ (L2.Same.refl _)
    have flen2 : ((S.facts.filter (isTo cc i)).map Fact.startV).length ≤ 1000 := by
      rw [List.length_map]
      exact filter_few D _
    refine ⟨by show 1 ≤ sizeLine; decide, fun P1 nP1 => ⟨Db, P1, _, _, rfl, rfl, same_new nP1 _ _ eDb, upd_same, Nat.le_trans (show _ + 1 ≤ 1001 by omega) (by decide), fun p7 n7 => ?_⟩⟩
    have s8 := (same_new nP1 (o := .lst [.non])).trans (same_new n7 (o := .lst (((S.facts.filter (isTo cc i)).map Fact.startV) ++ [.non])))
    have e7 : upd (upd Hb P1 (.lst [.non])) p7 (.lst (((S.facts.filter (isTo cc i)).map Fact.startV) ++ [.non])) p7 = some (.lst (((S.facts.filter (isTo cc i)).map Fact.startV) ++ [.non])) := upd_same
    generalize upd (upd Hb P1 (.lst [.non])) p7 (.lst (((S.facts.filter (isTo cc i)).map Fact.startV) ++ [.non])) = H8 at s8 e7 ⊢
    have s78 : L2.Same H7 H8 := sb.trans s8
    have e68 := s78 _ _ e6
    have sH8 : L2.Same H H8 := sH7.trans s78
    -- repr([led_to, led_from]) != repr([ahead[0], behind[0]])
    obtain ⟨d1, sm1, dp1⟩ := to_data D cc i
    obtain ⟨d2, sm2, dp2⟩ := from_data D cc i
    have sm12 : Sm 1 130 (.list [d1, d2]) := (SmAll.list (k := 0) (n := 64) (m := 2) (ds := [d1, d2]) (smAll fun d hd => by
      simp only [List.mem_cons, List.not_mem_nil, or_false] at hd
      rcases hd with rfl | rfl
      · exact sm1
      · exact sm2) (show 2 ≤ 2 by decide)).mono (by decide) (by decide)
    have sh12 := sm12.shows (by decide) (by decide)
    refine ⟨_, rfl, _, rfl, _, rfl, nil_read (led_asks (by omega) D (storeAt_same A' sH8) hc hi fun H9 s9 => ?_)⟩
    have sH9 := sH8.trans s9
    refine ⟨_, rfl, _, rfl, _, rfl, nil_read (led_asks (by omega) D (storeAt_same A' sH9) hc hi fun H10 s10 => ?_)⟩
    have sH10 := sH9.trans s10
    refine ⟨by show 2 ≤ sizeLine; decide, fun L nL => ?_⟩
    have mL := same_new nL (o := .lst [toV S.facts cc i, fromV S.facts cc i])
    have eL : upd H10 L (.lst [toV S.facts cc i, fromV S.facts cc i]) L = some (.lst [toV S.facts cc i, fromV S.facts cc i]) := upd_same
    generalize upd H10 L (.lst [toV S.facts cc i, fromV S.facts cc i]) = H11 at mL eL ⊢
    have s8_11 : L2.Same H8 H11 := (s9.trans s10).trans mL
    refine ⟨_, .list [d1, d2], rfl, .lst (SqL.of eL) (.cons (dp1 _ _) (.cons (dp2 _ _) .nil)), sh12, ?_⟩
    refine ⟨_, rfl, p6, _, 0, _, rfl, rfl, SqL.of (s8_11 _ _ e68), ahead_head S.facts cc i, _, rfl, p7, _, 0, _, rfl, rfl, SqL.of (s8_11 _ _ e7), behind_head S.facts cc i, by show 2 ≤ sizeLine; decide, fun Lb nL2 => ?_⟩
    have mL2 := same_new nL2 (o := .lst [toV S.facts cc i, fromV S.facts cc i])
    have eL2 : upd H11 Lb (.lst [toV S.facts cc i, fromV S.facts cc i]) Lb = some (.lst [toV S.facts cc i, fromV S.facts cc i]) := upd_same
    generalize upd H11 Lb (.lst [toV S.facts cc i, fromV S.facts cc i]) = H12 at mL2 eL2 ⊢
    have s8_12 : L2.Same H8 H12 := s8_11.trans mL2
    refine ⟨_, .list [d1, d2], rfl, .lst (SqL.of eL2) (.cons (dp1 _ _) (.cons (dp2 _ _) .nil)), sh12, rfl, false, ?_, ?_⟩
    · rw [decide_eq_true (rfl : V.str (PyData.list [d1, d2]).shown = V.str (PyData.list [d1, d2]).shown)]
      rfl
    have sH12 := sH8.trans s8_12
    refine ⟨_, rfl, _, rfl, _, rfl, nil_read ⟨rfl, led_asks (by omega) D (storeAt_same A' sH12) hc hi fun H13 s13 => ?_⟩⟩
    have s8_13 := s8_12.trans s13
    refine ⟨_, rfl, p6, _, 0, _, rfl, rfl, SqL.of (s8_13 _ _ e68), ahead_head S.facts cc i, d1, d1, dp1 _ _, dp1 _ _, sm1.shaped (by decide), sm1.shaped (by decide), false, ?_, ?_⟩
    · rw [sm1.eqv (by decide)]
      rfl
    have sH13 := sH12.trans s13
    refine ⟨_, rfl, _, rfl, _, rfl, nil_read ⟨rfl, led_asks (by omega) D (storeAt_same A' sH13) hc hi fun H14 s14 => ?_⟩⟩
    have s8_14 := s8_13.trans s14
    refine ⟨_, rfl, p7, _, 0, _, rfl, rfl, SqL.of (s8_14 _ _ e7), behind_head S.facts cc i, d2, d2, dp2 _ _, dp2 _ _, sm2.shaped (by decide), sm2.shaped (by decide), false, ?_, ?_⟩
    · rw [sm2.eqv (by decide)]
      rfl
    exact ⟨_, _, _, rfl, (s7.trans s78).trans s8_14⟩
  · obtain ⟨y5, y6, y7, rfl, s'⟩ := hP
    have sH : L2.Same H H' := s1.trans s'
    refine ⟨_, rfl, _, rfl, nil_read (facts_asks hm2 D (storeAt_same A' sH) hi fun p9 rs9 H9 s9 n9 e9 tp9 => ?_)⟩
    have s19 : L2.Same H1 H9 := s'.trans s9
    refine ⟨_, rfl, _, _, .lst (SqL.of e9) (dp_facts tp9), .lst (SqL.of (s19 _ _ eD1)) (dp_facts (tp1.keep (tk_same s19))), smF.shaped (by decide), smF.shaped (by decide), ?_⟩
    rw [smF.eqv (by decide)]
    exact q H9 (s1.trans s19)
end
end DQ

set_option Elab.async false
set_option linter.all false
set_option maxRecDepth 100000
set_option maxHeartbeats 1000000
namespace DQ
open PySem PySem.Spec PyProof.Rows L2
/-! ### values near a store that are none -/
/-- a row of small data -/
structure SmL (k n : Nat) (ds : List PyData) : Prop where
  lay : PyData.canLayAll0 ds = true
  dep : PyData.depthAll ds ≤ k
  wt : PyData.weightAll ds ≤ n
  sh : PyData.showableAll ds = true
  short : PyData.intsShortAll 13 ds = true
theorem sml_nil {k : Nat} : SmL k 0 [] := ⟨rfl, Nat.zero_le _, Nat.le_refl _, rfl, rfl⟩
theorem Sm.cons {k j a b : Nat} {d : PyData} {ds : List PyData} (x : Sm j a d) (r : SmL k b ds) (hj : j ≤ k) : SmL k (a + 1 + b) (d :: ds) := by
  refine ⟨?_, ?_, ?_, ?_, ?_⟩
  · simp only [PyData.canLayAll0]
    rw [x.lay, r.lay]
    rfl
  · simp only [PyData.depthAll]
    exact Nat.max_le.mpr ⟨Nat.le_trans x.dep hj, r.dep⟩
  · simp only [PyData.weightAll]
    have := x.wt
    have := r.wt
    omega
  · simp only [PyData.showableAll]
    rw [x.sh, r.sh]
    rfl
  · simp only [PyData.intsShortAll]
    rw [x.short, r.short]
    rfl
theorem SmL.list {k n : Nat} {ds : List PyData} (h : SmL k n ds) : Sm (k + 1) n (.list ds) := by
  refine ⟨by simpa only [PyData.canLay0] using h.lay, ?_, by simpa only [PyData.weight] using h.wt, by simpa only [PyData.showable] using h.sh, by simpa only [PyData.intsShort] using h.short⟩
  simp only [PyData.depth]
  have := h.dep
  omega
theorem SmL.tuple {k n : Nat} {ds : List PyData} (h : SmL k n ds) : Sm (k + 1) n (.tuple ds) := by
  refine ⟨by simpa only [PyData.canLay0] using h.lay, ?_, by simpa only [PyData.weight] using h.wt, by simpa only [PyData.showable] using h.sh, by simpa only [PyData.intsShort] using h.short⟩
  simp only [PyData.depth]
  have := h.dep
  omega
/-- a tuple of the form of a store, part by part -/
theorem five_asks {K : PySem.W.Frag} {H : Hp} {t m c i f : Addr} {ms cs : List Str} {ns : List Int} {rs : List V} {fs : List Fact} (ht : H t = some (.tup [.str "store", .ref m, .ref c, .ref i, .ref f])) (hm : H m = some (.lst (ms.map V.str))) (hc : H c = some (.lst (cs.map V.str)))
    (hi : H i = some (.lst (ns.map V.int))) (hf : H f = some (.lst rs)) (tp : Tups H rs (fs.map Fact.v)) (wm : ∀ x ∈ ms, PyData.canLay0 (.str x) = true ∧ x.length ≤ 1000) (lm : ms.length ≤ 10000) (wc : ∀ x ∈ cs, PyData.canLay0 (.str x) = true ∧ x.length ≤ 1000) (lc : cs.length ≤ 10000) (ln : ns.length ≤ 10000)
    (lf : fs.length ≤ 10000) (wf : ∀ x ∈ fs, PyData.canLay0 (.str x.word) = true) {Q : VK} {E : XK} (q : ∀ H', Same H H' → Q (.bl (isStoreD (.str "store") (.list (ms.map PyData.str)) (.list (cs.map PyData.str)) (.list (ns.map PyData.int)) (.list (fs.map Fact.d)))) H') : spIsStore K [.ref t] H Q E := by
  have fitsS : ∀ ms : List Str, ms.length ≤ 10000 → (∀ x ∈ ms, PyData.canLay0 (.str x) = true ∧ x.length ≤ 1000) → Fits (.list (ms.map PyData.str)) ∧ Lays (.list (ms.map PyData.str)) := fun ms l h => by
    refine ⟨fun ds e => ?_, fun ds e d hd => ?_⟩
    · injection e with e
      subst e
      refine ⟨by rw [List.length_map]; exact l, fun d hd x ex => ?_⟩
      obtain ⟨y, hy, e⟩ := List.mem_map.mp hd
      rw [ex] at e
      injection e with e
      rw [← e]
      exact (h y hy).2
    · injection e with e
      subst e
      obtain ⟨y, hy, rfl⟩ := List.mem_map.mp hd
      exact (h y hy).1
  obtain ⟨f1, l1⟩ := fitsS ms lm wm
  obtain ⟨f2, l2⟩ := fitsS cs lc wc
  have f3 : Fits (.list (ns.map PyData.int)) := fun ds e => by
    injection e with e
    subst e
    refine ⟨by rw [List.length_map]; exact ln, fun d hd x ex => ?_⟩
    obtain ⟨y, hy, e⟩ := List.mem_map.mp hd
    rw [ex] at e
    exact nomatch e
  refine ⟨_, rfl, .inr ⟨t, .str "store", .ref m, .ref c, .ref i, .ref f, .str "store", _, _, _, .list (fs.map Fact.d), rfl, .inl (.inl ht), .str _, by decide +kernel, .lst (SqL.of hm) (dp_texts ms), f1, l1, .lst (SqL.of hc) (dp_texts cs), f2, l2, .lst (SqL.of hi) (dp_intsL ns), f3, ?_, q⟩⟩
  refine .inl ⟨f, rs, fs.map Fact.d, rfl, rfl, SqL.of hf, dp_facts tp, by rw [List.length_map]; exact lf, fun e he => ?_, fun gs e => by rw [← facts_inj e]; exact tp⟩
  obtain ⟨x, hx, rfl⟩ := List.mem_map.mp he
  exact fact_parts x (wf x hx)
/-- at v stands what is no store -/
def NoStore (K : PySem.W.Frag) (H : Hp) (v : V) : Prop := ∀ (H' : Hp) (Q : VK) (E : XK), Same H H' → (∀ H'', Same H' H'' → Q (.bl false) H'') → spIsStore K [v] H' Q E
theorem noStore_of {K : PySem.W.Frag} {H : Hp} {v : V} {d : PyData} (hd : Dp K H v d) (n5 : ∀ ds, d = .tuple ds → ds.length ≠ 5) : NoStore K H v := fun H' Q E s q => ⟨v, rfl, .inl ⟨d, dp_same s _ _ hd, n5, q⟩⟩
theorem NoStore.same {K : PySem.W.Frag} {H H1 : Hp} {v : V} (h : NoStore K H v) (s : Same H H1) : NoStore K H1 v := fun H' Q E s' q => h H' Q E (s.trans s') q
/-- a value that is no store, small data -/
def BadAt (K : PySem.W.Frag) (H : Hp) (v : V) : Prop := ∃ d, Dp K H v d ∧ Sm 4 400000 d ∧ NoStore K H v
theorem BadAt.same {K : PySem.W.Frag} {H H1 : Hp} {v : V} (h : BadAt K H v) (s : Same H H1) : BadAt K H1 v := by
  obtain ⟨d, hd, sm, no⟩ := h
  exact ⟨d, dp_same s _ _ hd, sm, no.same s⟩
theorem bad_of {K : PySem.W.Frag} {H : Hp} {v : V} {d : PyData} {k n : Nat} (hd : Dp K H v d) (sm : Sm k n d) (hk : k ≤ 4) (hn : n ≤ 400000) (n5 : ∀ ds, d = .tuple ds → ds.length ≠ 5) : BadAt K H v := ⟨d, hd, sm.mono hk hn, noStore_of hd n5⟩
section
variable {K : PySem.W.Frag} {H : Hp} {t ma ca ia fa : Addr} {rs : List V} {m : Nat} {S : Store}
theorem sm_parts (D : Drawn m S) (hm : m ≤ 1000) : Sm 0 10 (.str "store") ∧ Sm 1 110 (.list (S.marks.map PyData.str)) ∧ Sm 1 110 (.list (S.columns.map PyData.str)) ∧ Sm 1 65000 (.list (S.items.map PyData.int)) ∧ Sm 2 261000 (.list (S.facts.map Fact.d)) :=
  ⟨sm_str (by decide +kernel) (by decide +kernel), sm_words (fun x h => D.word (.inl h)) D.fewMarks, sm_words (fun x h => D.word (.inr h)) D.fewColumns, sm_items D.items.2 (Nat.le_trans D.few hm), sm_facts D (fun x h => h) D.short⟩
/-- one item more, below 0 -/
theorem bad_items {T i2 : Addr} (D : Drawn m S) (hm : m ≤ 500) (hT : H T = some (.tup [.str "store", .ref ma, .ref ca, .ref i2, .ref fa])) (hma : H ma = some (.lst (S.marks.map V.str))) (hca : H ca = some (.lst (S.columns.map V.str)))
    (hi2 : H i2 = some (.lst (S.items.map V.int ++ [.int (-1)]))) (hfa : H fa = some (.lst rs)) (tp : Tups H rs (S.facts.map Fact.v)) : BadAt K H (.ref T) := by
  obtain ⟨p1, p2, p3, p4, p5⟩ := sm_parts D (Nat.le_trans hm (by decide))
  have e : S.items.map V.int ++ [V.int (-1)] = (S.items ++ [-1]).map V.int := by rw [List.map_append]; rfl
  rw [e] at hi2
  have few := D.few
  have smI : Sm 1 65065 (.list ((S.items ++ [-1]).map PyData.int)) := by
    refine (SmAll.list (k := 0) (n := 64) (m := 1001) (smAll fun d hd => ?_) (by rw [List.length_map, List.length_append, List.length_singleton]; omega)).mono (by decide) (by decide)
    obtain ⟨x, hx, rfl⟩ := List.mem_map.mp hd
    rcases List.mem_append.mp hx with h | h
    · exact sm_item (D.items.2 x h)
    · rw [List.mem_singleton.mp h]
      exact sm_int (by decide) (by decide)
  refine ⟨_, .tup (.inl (.inl hT)) (.cons (.str _) (.cons (.lst (SqL.of hma) (dp_texts S.marks)) (.cons (.lst (SqL.of hca) (dp_texts S.columns)) (.cons (.lst (SqL.of hi2) (dp_intsL _)) (.cons (.lst (SqL.of hfa) (dp_facts tp)) .nil))))), (SmL.tuple (k := 2) (p1.cons (p2.cons (p3.cons (smI.cons (p5.cons sml_nil (by decide)) (by decide)) (by decide)) (by decide)) (by decide))).mono (by decide) (by decide), fun H' Q E s q => ?_⟩
  refine five_asks (s _ _ hT) (s _ _ hma) (s _ _ hca) (s _ _ hi2) (s _ _ hfa) (tp.keep (tk_same s)) (fun x h => lay_words _ (D.word (.inl h))) (Nat.le_trans D.fewMarks (by decide)) (fun x h => lay_words _ (D.word (.inr h))) (Nat.le_trans D.fewColumns (by decide)) (by rw [List.length_append, List.length_singleton]; omega) (Nat.le_trans D.short (by decide)) (fun x h => (lay_words _ (D.factWord h)).1) fun H'' s' => ?_
  have no : numsD (.list ((S.items ++ [-1]).map PyData.int)) = false := by
    show ((S.items ++ [-1]).map PyData.int).all numD = false
    rw [List.map_append, List.all_append]
    have : ([(-1 : Int)].map PyData.int).all numD = false := by decide
    rw [this, Bool.and_false]
  unfold isStoreD
  rw [no]
  simp only [Bool.false_and, Bool.and_false]
  exact q H'' s'
/-- a mark twice -/
theorem bad_marks {T m2 f2 : Addr} (D : Drawn m S) (hm : m ≤ 500) (hT : H T = some (.tup [.str "store", .ref m2, .ref ca, .ref ia, .ref f2])) (hm2 : H m2 = some (.lst [.str "a", .str "a"])) (hca : H ca = some (.lst (S.columns.map V.str)))
    (hia : H ia = some (.lst (S.items.map V.int))) (hf2 : H f2 = some (.lst [])) : BadAt K H (.ref T) := by
  obtain ⟨p1, p2, p3, p4, p5⟩ := sm_parts D (Nat.le_trans hm (by decide))
  have few := D.few
  have hm3 : H m2 = some (.lst ((["a", "a"] : List Str).map V.str)) := hm2
  have smA : Sm 0 10 (.str "a") := sm_str (by decide +kernel) (by decide +kernel)
  have smM : Sm 1 22 (.list ((["a", "a"] : List Str).map PyData.str)) := (SmL.list (smA.cons (smA.cons (k := 0) sml_nil (by decide)) (by decide)))
  have sm0 : Sm 1 0 (.list []) := SmL.list (k := 0) sml_nil
  refine ⟨_, .tup (.inl (.inl hT)) (.cons (.str _) (.cons (.lst (SqL.of hm3) (dp_texts _)) (.cons (.lst (SqL.of hca) (dp_texts S.columns)) (.cons (.lst (SqL.of hia) (dp_intsL _)) (.cons (.lst (SqL.of hf2) .nil) .nil))))), (SmL.tuple (k := 2) (p1.cons (smM.cons (p3.cons (p4.cons (sm0.cons sml_nil (by decide)) (by decide)) (by decide)) (by decide)) (by decide))).mono (by decide) (by decide), fun H' Q E s q => ?_⟩
  refine five_asks (fs := []) (rs := []) (s _ _ hT) (s _ _ hm3) (s _ _ hca) (s _ _ hia) (s _ _ hf2) .nil (fun x h => by
    simp only [List.mem_cons, List.not_mem_nil, or_false, or_self] at h
    rw [h]
    decide +kernel) (by decide) (fun x h => lay_words _ (D.word (.inr h))) (Nat.le_trans D.fewColumns (by decide)) (by omega) (by decide) (fun x h => by cases h) fun H'' s' => ?_
  have no : wordsD 4 (.list ((["a", "a"] : List Str).map PyData.str)) = false := by decide +kernel
  unfold isStoreD
  rw [no]
  simp only [Bool.false_and, Bool.and_false]
  exact q H'' s'
end
end DQ

set_option Elab.async false
set_option linter.all false
set_option maxRecDepth 100000
set_option maxHeartbeats 1000000
namespace DQ
open PySem PySem.Spec PyProof.Rows L2
abbrev sLaw : Stmt := topS 48
abbrev NLw : List Str := ["script", "index", "generator", "store", "item", "bent", "bad", "which", "absent", "number"]
theorem scLaw : FnScope NLw ["script"] (defScope sLaw) := ⟨rfl, rfl, rfl, by decide +kernel, rfl, by decide +kernel, by decide +kernel⟩
/-- the script outlives what changes new objects alone -/
theorem seq_new {K : PySem.W.Frag} {H H1 H2 : Hp} {a g : Addr} {xs : List V} (h : SqL K H a xs) (s : Same H H1) (n : H g = none) (k : Keep g H1 H2) : SqL K H2 a xs := by
  rcases h with (h | ⟨o, h⟩) | h
  · exact .inl (.inl (k _ _ (ne_of_none h n) (s _ _ h)))
  · exact .inl (.inr ⟨o, k _ _ (ne_of_none h n) (s _ _ h)⟩)
  · exact .inr h
section
variable {K : PySem.W.Frag} {C0 C2 C3 : Addr}
/-- what _law_caught asks, and what _law_only then tells -/
theorem case_asks {sp1 sp2 sp3 : Sp} {H : Hp} {wh p : Int} {v cv iv bad : V} {C : Addr} {d1 d2 d3 db : PyData} {Q : VK} {E : XK} (ref : Refused sp1 sp2 sp3 H wh v cv iv C bad) (hC : C = C0 ∨ C = C2 ∨ C = C3) (hp : [decide (C = C0), decide (C = C2), decide (C = C3)] = atsD p)
    (h1 : Dp K H v d1) (h2 : Dp K H cv d2) (h3 : Dp K H iv d3) (sh : Shows (.list [d1, d2, d3])) (hb : Dp K H bad db) (shb : Shows db)
    (q : ∀ (T : Addr) (H' : Hp), Same H H' → (∀ (Q2 : VK) (E2 : XK), (∀ H'', Same H' H'' → Q2 (.bl true) H'') → spOnly K [.ref T, .int p, bad] H' Q2 E2) → Q (.ref T) H') : spCaught K sp1 sp2 sp3 C0 C2 C3 [.int wh, v, cv, iv] H Q E :=
  ⟨wh, v, cv, iv, bad, C, [d1, d2, d3], rfl, ref, hC, .cons h1 (.cons h2 (.cons h3 .nil)), sh.sh, sh.nod, sh.dep, sh.sz, fun T L H' s eT eL => q T H' s fun Q2 E2 q2 => ⟨T, L, p, bad, db, rfl, eT, by
    rw [eL]
    exact congrArg (fun l => some (HO.lst (l.map V.bl))) hp, dp_same s _ _ hb, shb, q2⟩⟩
/-- no store: each of the three functions refuses it -/
theorem refused_store {H : Hp} {wh : Int} {v cv iv : V} (no : NoStore K H v) : Refused (spFactsOf K C0 C3) (spTo K C0 C2 C3 toV) (spTo K C0 C2 C3 fromV) H wh v cv iv C0 v := fun H1 Q E s th =>
  have z : ∀ {Q : VK}, spIsStore K [v] H1 (fun x H2 => x = .bl false ∧ Throws E C0 v H2) (fun _ _ _ => False) := fun {_} => no H1 _ _ s fun H2 s2 => ⟨rfl, th H2 s2⟩
  ⟨fun _ => ⟨v, iv, rfl, .inl (z (Q := Q))⟩, fun _ => ⟨v, cv, iv, rfl, .inl (z (Q := Q))⟩, fun _ _ => ⟨v, cv, iv, rfl, .inl (z (Q := Q))⟩⟩
/-- no column of the store -/
theorem refused_column {H : Hp} {wh : Int} {v cv iv : V} {m : Nat} {S : Store} {dc d : PyData} (hw : wh ≠ 0) (hm : m ≤ 2000) (D : Drawn m S) (A : StoAt H v S) (hc : Dp K H cv dc) (sc : SeqAt.shaped dc = true) (hd : Dp K H iv d) (no : hasD S.columns dc = false) :
    Refused (spFactsOf K C0 C3) (spTo K C0 C2 C3 toV) (spTo K C0 C2 C3 fromV) H wh v cv iv C2 cv := fun H1 Q E s th =>
  have z : ∀ {f : List Fact → Str → Int → V}, spTo K C0 C2 C3 f [v, cv, iv] H1 Q E := fun {f} => ⟨v, cv, iv, rfl, .inr ⟨m, S, dc, d, hm, D, storeAt_same A s, dp_same s _ _ hc, sc, dp_same s _ _ hd, (fun _ H2 s2 => th H2 s2), (fun h => by rw [no] at h; exact nomatch h), fun c i e _ hc' _ => by
    rw [e, hasD_of hc'] at no
    exact nomatch no⟩⟩
  ⟨fun e => absurd e hw, fun _ => z, fun _ _ => z⟩
/-- no item of the store -/
theorem refused_item {H : Hp} {wh : Int} {v iv : V} {c : Str} {m : Nat} {S : Store} {d : PyData} (hm : m ≤ 2000) (D : Drawn m S) (A : StoAt H v S) (hc : c ∈ S.columns) (hd : Dp K H iv d) (no : okItem S.items d = false) :
    Refused (spFactsOf K C0 C3) (spTo K C0 C2 C3 toV) (spTo K C0 C2 C3 fromV) H wh v (.str c) iv C3 iv := fun H1 Q E s th =>
  have bad : ∀ i, d = .int i → i ∈ S.items → False := fun i e h => by
    rw [e, okItem_of D.items.2 h] at no
    exact nomatch no
  have z : ∀ {f : List Fact → Str → Int → V}, spTo K C0 C2 C3 f [v, .str c, iv] H1 Q E := fun {f} => ⟨v, .str c, iv, rfl, .inr ⟨m, S, .str c, d, hm, D, storeAt_same A s, .str c, (sm_word (D.word (.inr hc))).shaped (by decide), dp_same s _ _ hd, (fun h => by rw [hasD_of hc] at h; exact nomatch h), (fun _ _ H2 s2 => th H2 s2), fun c' i _ e _ h => (bad i e h).elim⟩⟩
  ⟨fun _ => ⟨v, iv, rfl, .inr ⟨m, S, d, hm, D, storeAt_same A s, dp_same s _ _ hd, (fun _ H2 s2 => th H2 s2), fun i e h => (bad i e h).elim⟩⟩, fun _ => z, fun _ _ => z⟩
end
theorem sm3_none {d : PyData} {k n : Nat} (h : Sm k n d) (hk : k ≤ 60) (hn : n ≤ 1000000) : Shows (.list [d, .none, .none]) :=
  (SmL.list (k := 60) ((h.mono hk hn).cons (sm_none.cons (sm_none.cons sml_nil (by decide)) (by decide)) (by decide))).shows (by decide) (by decide)
theorem sm3_store {m : Nat} {S : Store} (D : Drawn m S) (hm : m ≤ 1000) {d e : PyData} {k n : Nat} (h : Sm k n d) (hk : k ≤ 60) (hn : n ≤ 1000) (h2 : Sm k n e) : Shows (.list [S.d, d, e]) :=
  (SmL.list (k := 60) ((sm_store D hm).cons ((h.mono hk hn).cons ((h2.mono hk hn).cons sml_nil (by decide)) (by decide)) (by decide))).shows (by decide) (by decide)
end DQ

set_option Elab.async false
set_option linter.all false
set_option maxRecDepth 100000
set_option maxHeartbeats 1000000
namespace DQ
open PySem PySem.Spec PyProof.Rows L2
theorem con_read {v : V} {t : TA} {σ : L2.St} {H : Hp} {Q : List V → Hp → Prop} (h : t σ H fun xs H2 => Q (v :: xs) H2) : tCons (tC v) t σ H Q := h
/-- a value that is no column of the store -/
def BadCol (K : PySem.W.Frag) (S : Store) (H : Hp) (v : V) : Prop := ∃ d, Dp K H v d ∧ Sm 1 100 d ∧ hasD S.columns d = false
theorem BadCol.same {K : PySem.W.Frag} {S : Store} {H H1 : Hp} {v : V} (h : BadCol K S H v) (s : Same H H1) : BadCol K S H1 v := by
  obtain ⟨d, hd, sm, no⟩ := h
  exact ⟨d, dp_same s _ _ hd, sm, no⟩
/-- a value that is no item of the store -/
def BadItem (K : PySem.W.Frag) (S : Store) (H : Hp) (v : V) : Prop := ∃ d, Dp K H v d ∧ Sm 1 100 d ∧ okItem S.items d = false
theorem BadItem.same {K : PySem.W.Frag} {S : Store} {H H1 : Hp} {v : V} (h : BadItem K S H v) (s : Same H H1) : BadItem K S H1 v := by
  obtain ⟨d, hd, sm, no⟩ := h
  exact ⟨d, dp_same s _ _ hd, sm, no⟩
theorem Drawn.two {m : Nat} {S : Store} (D : Drawn m S) : S.columns = (["next"] : List Str) ∨ S.columns = (["next", "below"] : List Str) := by
  obtain ⟨j, h1, h2, ej⟩ := D.columns
  have c : j = 1 ∨ j = 2 := by omega
  rcases c with rfl | rfl
  · exact .inl ej
  · exact .inr ej
theorem Drawn.first {m : Nat} {S : Store} (D : Drawn m S) : ("next" : Str) ∈ S.columns ∧ atI (S.columns.map V.str) 0 = some (.str "next") := by
  rcases D.two with e | e
  · rw [e]
    exact ⟨List.mem_cons_self .., rfl⟩
  · rw [e]
    exact ⟨List.mem_cons_self .., rfl⟩
theorem notCol {m : Nat} {S : Store} (D : Drawn m S) {d : PyData} (h1 : hasD ["next"] d = false) (h2 : hasD ["next", "below"] d = false) : hasD S.columns d = false := by
  rcases D.two with e | e
  · rw [e]; exact h1
  · rw [e]; exact h2
/-- the numbers from 0 on that are no items -/
def absents (ns : List Int) (k : Nat) : List Nat := (List.range k).filter fun n => !decide ((n : Int) ∈ ns)
theorem absents_next (ns : List Int) (k : Nat) : absents ns (k + 1) = absents ns k ++ if (!decide ((k : Int) ∈ ns)) = true then [k] else [] := by
  unfold absents
  rw [List.range_succ, List.filter_append]
  congr 1
  by_cases h : (!decide ((k : Int) ∈ ns)) = true
  · rw [if_pos h, List.filter_cons_of_pos (p := fun n : Nat => !decide ((n : Int) ∈ ns)) h]
    rfl
  · rw [if_neg h, List.filter_cons_of_neg (p := fun n : Nat => !decide ((n : Int) ∈ ns)) h]
    rfl
theorem absents_len (ns : List Int) (k : Nat) : (absents ns k).length ≤ k := by
  unfold absents
  have := List.length_filter_le (fun n : Nat => !decide ((n : Int) ∈ ns)) (List.range k)
  rwa [List.length_range] at this
theorem absents_some (ns : List Int) : ∃ n r, absents ns (ns.length + 1) = n :: r ∧ (n : Int) ∉ ns ∧ n ≤ ns.length := by
  cases e : absents ns (ns.length + 1) with
  | nil =>
    exfalso
    have all : ∀ x ∈ (List.range (ns.length + 1)).map (fun n : Nat => (n : Int)), x ∈ ns := fun x hx => by
      obtain ⟨n, hn, rfl⟩ := List.mem_map.mp hx
      have z := List.filter_eq_nil_iff.mp e n hn
      simpa using z
    have l := len_sub (m := ns) (List.pairwise_map.mpr ((List.nodup_range (n := ns.length + 1)).imp fun h e => h (by omega))) all
    rw [List.length_map, List.length_range] at l
    omega
  | cons n r =>
    have hm : n ∈ absents ns (ns.length + 1) := by rw [e]; exact List.mem_cons_self ..
    obtain ⟨h1, h2⟩ := List.mem_filter.mp hm
    have := List.mem_range.mp h1
    exact ⟨n, r, rfl, by simpa using h2, by omega⟩
theorem cut_last (xs : List V) : cutV xs (some (-1)) none = xs.drop (xs.length - 1) := by
  unfold cutV
  rw [HT.sIx_none]
  have e : HT.sIx xs.length 0 (some (-1)) = xs.length - 1 := by
    unfold HT.sIx
    simp only
    rw [if_pos (by decide)]
    omega
  rw [e, List.take_of_length_le (by rw [List.length_drop]; omega)]
theorem last_more {ns : List Int} (h : ns.Pairwise (· < ·)) {x : Int} (hx : x ∈ ns.drop (ns.length - 1)) : x + 1 ∉ ns := by
  intro hm
  have e := List.take_append_drop (ns.length - 1) ns
  have l : (ns.drop (ns.length - 1)).length ≤ 1 := by rw [List.length_drop]; omega
  rw [← e] at hm h
  rcases List.mem_append.mp hm with z | z
  · have := (List.pairwise_append.mp h).2.2 _ z _ hx
    omega
  · match hd : ns.drop (ns.length - 1), l with
    | [], _ =>
      rw [hd] at hx
      cases hx
    | [y], _ =>
      rw [hd] at hx z
      rw [List.mem_singleton] at hx z
      omega
theorem not_item {ns : List Int} {i : Int} (h : i ∉ ns) : okItem ns (.int i) = false := by
  show (numD (.int i) && decide (i ∈ ns)) = false
  rw [decide_eq_false h, Bool.and_false]
end DQ

set_option Elab.async false
set_option linter.all false
set_option maxRecDepth 100000
set_option maxHeartbeats 1000000
namespace DQ
open PySem PySem.Spec PyProof.Rows L2
def spLaw (K : PySem.W.Frag) : Sp := fun vs H Q _ => ∃ (a : Addr) (ns : List Int), vs = [.ref a] ∧ SqL K H a (ns.map V.int) ∧ ∀ H', Q (.bl true) H'
section
variable {P : Program} {w : World} {K : PySem.W.Frag} {mg : Str → Option Value} {base : Heap}
theorem ok_law {C0 C2 C3 f fG fS fR fC fO : Addr} {fd dG dS dR dC dO : FuncData} (F : Fun K "law" "law" sLaw f fd)
    (GG : FnOk P w K mg base CX0 2 fG dG ["script", "index"] (spGenerator K)) (bG : Binds K dG ["script", "index"] []) (kG : PySem.W.keepIn K (.ref fG) = true) (mG : mg "_law_generator" = some (.ref fG))
    (GS : FnOk P w K mg base CX0 5 fS dS ["generator", "most"] spStore) (bS : Binds K dS ["generator", "most"] []) (kS : PySem.W.keepIn K (.ref fS) = true) (mS : mg "_law_drawn_store" = some (.ref fS))
    (GR : FnG P w K mg base CX0 10 fR dR ["store", "item"] spRight) (bR : Binds K dR ["store", "item"] []) (kR : PySem.W.keepIn K (.ref fR) = true) (mRt : mg "_law_item_right" = some (.ref fR))
    (GC : FnG P w K mg base CX0 10 fC dC ["which", "store", "column", "item"] (spCaught K (spFactsOf K C0 C3) (spTo K C0 C2 C3 toV) (spTo K C0 C2 C3 fromV) C0 C2 C3)) (bC : Binds K dC ["which", "store", "column", "item"] []) (kC : PySem.W.keepIn K (.ref fC) = true) (mC : mg "_law_caught" = some (.ref fC))
    (GO : FnG P w K mg base CX0 1 fO dO ["told", "place", "bad"] (spOnly K)) (bO : Binds K dO ["told", "place", "bad"] []) (kO : PySem.W.keepIn K (.ref fO) = true) (mO : mg "_law_only" = some (.ref fO))
    (n02 : C0 ≠ C2) (n03 : C0 ≠ C3) (n23 : C2 ≠ C3) (mRange : mg "range" = none) (mLen : mg "len" = none) (mList : mg "list" = none) : FnG P w K mg base CX0 11 f fd ["script"] (spLaw K) := by
  refine fun_okG F scLaw (fun vs H Q E h => ?_) (fun cdv A outer s H vs Q E hr hG h => ?_)
  · obtain ⟨_, _, rfl, _⟩ := h
    rfl
  obtain ⟨a, ns, rfl, L, q⟩ := h
  have nd := scLaw.nd
  refine ⟨_, (pss_cons (ps_for (passes_of rfl) rfl (pi_range1 (by rfl) mRange (pa_cons pe_int pa_nil)) (pg_name (i := 1) nd rfl (.inl rfl))
      (pss_cons (ps_set (i := 2) nd rfl (.inl rfl) (pe_call GG (hr.mono (by decide)) rfl mG kG bG .nil pass0 (pa_cons (pv 0) (pa_cons (pv 1) pa_nil))))
      (pss_cons (ps_set (i := 3) nd rfl (.inr rfl) (pe_call GS (hr.mono (by decide)) rfl mS kS bS .nil pass0 (pa_cons (pv 2) (pa_cons pe_int pa_nil))))
      (pss_cons (ps_if (pt_cmpR (op_neD hr.units) (pe_lc (own := [("item", 4)]) (g := gName 4) rfl nd (pi_list (pe_ix (r := rIxT K) ix_tup (pv 3) pe_int (fun _ _ => rfl))) (blkOk_by (own := [("item", 4)]) (N := NLw) (sc := defScope sLaw) (by decide +kernel)) (fun _ _ _ _ _ => pg_name (i := 4) nd rfl (Or.inl rfl))
          (fun _ _ _ _ _ => pts_one (pt_not (pt_val (pe_callGd GR (hr.mono (by decide)) hG rfl mRt kR bR .nil pass0 (pa_cons (pv 3) (pa_cons (pv 4) pa_nil)))))) (fun _ _ _ _ _ => pv 4)) (pe_lst pa_nil) (nomark _)) (pss_one (ps_ret pe_bl)) pss_nil)
      (pss_cons (ps_set (i := 5) nd rfl (.inl rfl) (pe_lst (pa_cons pe_non (pa_cons pe_int (pa_cons (pe_lst pa_nil) (pa_cons (pe_tup (pa_cons pe_str pa_nil)) (pa_cons (pe_callTy call_list_of (by rfl) mList (by decide +kernel) (pa_cons (pv 3) pa_nil)) (pa_cons (pe_slice sl_tup (pv 3) po_none (po_some pe_int))
          (pa_cons (pe_tup (pa_cons pe_str (pa_cons (pe_ix (r := rIxT K) ix_tup (pv 3) pe_int (fun _ _ => rfl)) (pa_cons (pe_ix (r := rIxT K) ix_tup (pv 3) pe_int (fun _ _ => rfl)) (pa_cons (pe_op op_cat (pe_ix (r := rIxT K) ix_tup (pv 3) pe_int (fun _ _ => rfl)) (pe_lst (pa_cons (pe_un un_neg pe_int) pa_nil))) (pa_cons (pe_ix (r := rIxT K) ix_tup (pv 3) pe_int (fun _ _ => rfl)) pa_nil)))))) pa_nil)))))))))
      (pss_cons (ps_for (passes_of rfl) rfl (pi_list (pe_op op_cat (pv 5) (pe_lst (pa_cons (pe_tup (pa_cons pe_str (pa_cons (pe_lst (pa_cons pe_str (pa_cons pe_str pa_nil))) (pa_cons (pe_ix (r := rIxT K) ix_tup (pv 3) pe_int (fun _ _ => rfl)) (pa_cons (pe_ix (r := rIxT K) ix_tup (pv 3) pe_int (fun _ _ => rfl)) (pa_cons (pe_lst pa_nil) pa_nil)))))) pa_nil)))) (pg_name (i := 6) nd rfl (.inr rfl))
        (pss_one (ps_if (pt_cmpR (op_neD hr.units) (pe_lc (own := [("which", 7)]) (g := gName 7) rfl nd (pi_range1 (by rfl) mRange (pa_cons pe_int pa_nil)) (blkOk_by (own := [("which", 7)]) (N := NLw) (sc := defScope sLaw) (by decide +kernel)) (fun _ _ _ _ _ => pg_name (i := 7) nd rfl (Or.inl rfl))
          (fun _ _ _ _ _ => pts_one (pt_not (pt_val (pe_callGd GO (hr.mono (by decide)) hG rfl mO kO bO .nil pass0 (pa_cons (pe_callGd GC (hr.mono (by decide)) hG rfl mC kC bC .nil pass0 (pa_cons (pv 7) (pa_cons (pv 6) (pa_cons pe_non (pa_cons pe_non pa_nil))))) (pa_cons pe_int (pa_cons (pv 6) pa_nil))))))) (fun _ _ _ _ _ => pv 7)) (pe_lst pa_nil) (nomark _)) (pss_one (ps_ret pe_bl)) pss_nil)))
      (pss_cons (ps_for (passes_of rfl) rfl (pi_list (pe_lst (pa_cons pe_non (pa_cons pe_str (pa_cons pe_str (pa_cons pe_str (pa_cons pe_int (pa_cons (pe_lst (pa_cons pe_str pa_nil)) pa_nil)))))))) (pg_name (i := 6) nd rfl (.inr rfl))
        (pss_one (ps_if (pt_cmpR (op_neD hr.units) (pe_lc (own := [("which", 7)]) (g := gName 7) rfl nd (pi_list (pe_lst (pa_cons pe_int (pa_cons pe_int pa_nil)))) (blkOk_by (own := [("which", 7)]) (N := NLw) (sc := defScope sLaw) (by decide +kernel)) (fun _ _ _ _ _ => pg_name (i := 7) nd rfl (Or.inl rfl))
          (fun _ _ _ _ _ => pts_one (pt_not (pt_val (pe_callGd GO (hr.mono (by decide)) hG rfl mO kO bO .nil pass0 (pa_cons (pe_callGd GC (hr.mono (by decide)) hG rfl mC kC bC .nil pass0 (pa_cons (pv 7) (pa_cons (pv 3) (pa_cons (pv 6) (pa_cons pe_non pa_nil))))) (pa_cons pe_int (pa_cons (pv 6) pa_nil))))))) (fun _ _ _ _ _ => pv 7)) (pe_lst pa_nil) (nomark _)) (pss_one (ps_ret pe_bl)) pss_nil)))
      (pss_cons (ps_setLc (i := 8) (own := [("number", 9)]) (g := gName 9) rfl nd rfl rfl (sw_true rfl rfl rfl rfl) (pi_range1 (by rfl) mRange (pa_cons (pe_op op_add (pe_callB call_len_seq (by rfl) mLen PySem.boot_len (pa_cons (pe_ix (r := rIxT K) ix_tup (pv 3) pe_int (fun _ _ => rfl)) pa_nil)) pe_int) pa_nil)) (blkOk_by (own := [("number", 9)]) (N := NLw) (sc := defScope sLaw) (by decide +kernel)) (fun _ _ _ _ _ => pg_name (i := 9) nd rfl (Or.inl rfl))
          (fun _ _ _ _ _ => pts_one (pt_cmpR (r := rIn K true) op_notIn_seq (pv 9) (pe_ix (r := rIxT K) ix_tup (pv 3) pe_int (fun _ _ => rfl)) (by rfl))) (fun _ _ _ _ _ => pv 9))
      (pss_one (ps_for (passes_of rfl) rfl (pi_list (pe_op op_cat (pe_lst (pa_cons pe_non (pa_cons (pe_un un_neg pe_int) (pa_cons pe_bl (pa_cons pe_str (pa_cons (pe_lst (pa_cons pe_int pa_nil)) (pa_cons (pe_op op_add (pe_op op_pow pe_int pe_int) pe_int) (pa_cons (pe_ix (r := rIxL K) ix_list (pv 8) pe_int (fun _ _ => rfl)) pa_nil))))))))
          (pe_lc (own := [("item", 4)]) (g := gName 4) (tt := tYes) rfl nd (pi_list (pe_slice (r := rSlL K) sl_list (pe_ix (r := rIxT K) ix_tup (pv 3) pe_int (fun _ _ => rfl)) (po_some (pe_un un_neg pe_int)) po_none)) (blkOk_by (own := [("item", 4)]) (N := NLw) (sc := defScope sLaw) (by decide +kernel)) (fun _ _ _ _ _ => pg_name (i := 4) nd rfl (Or.inl rfl)) (fun _ _ _ _ _ => pts_nil) (fun _ _ _ _ _ => pe_op op_add (pv 4) pe_int)))) (pg_name (i := 6) nd rfl (.inr rfl))
        (pss_one (ps_if (pt_cmpR (op_neD hr.units) (pe_lc (own := [("which", 7)]) (g := gName 7) rfl nd (pi_range1 (by rfl) mRange (pa_cons pe_int pa_nil)) (blkOk_by (own := [("which", 7)]) (N := NLw) (sc := defScope sLaw) (by decide +kernel)) (fun _ _ _ _ _ => pg_name (i := 7) nd rfl (Or.inl rfl))
          (fun _ _ _ _ _ => pts_one (pt_not (pt_val (pe_callGd GO (hr.mono (by decide)) hG rfl mO kO bO .nil pass0 (pa_cons (pe_callGd GC (hr.mono (by decide)) hG rfl mC kC bC .nil pass0 (pa_cons (pv 7) (pa_cons (pv 3) (pa_cons (pe_ix (r := rIxL K) ix_list (pe_ix (r := rIxT K) ix_tup (pv 3) pe_int (fun _ _ => rfl)) pe_int (fun _ _ => rfl)) (pa_cons (pv 6) pa_nil))))) (pa_cons pe_int (pa_cons (pv 6) pa_nil))))))) (fun _ _ _ _ _ => pv 7)) (pe_lst pa_nil) (nomark _)) (pss_one (ps_ret pe_bl)) pss_nil))))))))))))
    (pss_one (ps_ret pe_bl))), ?_⟩
  refine ⟨2, rfl, by decide, by decide, for_range (lo := 0) (n := 2) (fun i σ H' => ∃ y1 y2 y3 y5 y6 y8 : Option V, σ = [some (.ref a), y1, y2, y3, none, y5, y6, none, y8, none] ∧ SqL K H' a (ns.map V.int))
    ⟨none, none, none, none, none, none, rfl, L⟩ (fun i σ H0 hi hP => ?_) fun σ H0 hP => ?_⟩
  · obtain ⟨y1, y2, y3, y5, y6, y8, rfl, L0⟩ := hP
    refine ⟨_, rfl, _, rfl, a, ns, i, by rw [Int.zero_add]; rfl, by omega, L0, fun g H1 s1 n1 gen1 => ?_⟩
    refine ⟨_, rfl, g, 12, _, rfl, by decide, gen1, by omega, fun v S H2 D k2 A' gen2 => ?_⟩
    have L2' : SqL K H2 a (ns.map V.int) := seq_new L0 s1 n1 k2
    have A := A'
    obtain ⟨t, ma, ca, ia, fa, rs, rfl, ht, hma, hca, hia, hfa, tp⟩ := A
    -- the items
    refine ⟨_, rfl, t, _, 3, .ref ia, rfl, rfl, .inl (.inl ht), atI_nat (j := 3) rfl, ia, rfl, ⟨_, SqL.of hia⟩, fun D1 nD1 => lc_list (K := K) (a := ia) (xs := S.items.map V.int) (fun k H' => Same H2 H' ∧ H' D1 = some (.lst [])) ⟨same_new nD1, upd_same⟩ (fun k H' _ hP => SqL.of (hP.1 _ _ hia)) (fun k x H' hx hP => ?_) fun H3 hP => ?_⟩
    · obtain ⟨s', eD⟩ := hP
      obtain ⟨it, hit, rfl⟩ := at_map hx
      exact ⟨rfl, _, rfl, _, rfl, nil_read ⟨.ref t, it, 12, S, rfl, by decide, D, storeAt_same A' s', List.mem_of_getElem? hit, fun H4 s4 => ⟨true, rfl, s'.trans s4, s4 _ _ eD⟩⟩⟩
    obtain ⟨s3, eD1⟩ := hP
    refine ⟨Nat.zero_le _, fun E1 nE1 => ⟨.list [], .list [], .lst (SqL.of (same_new nE1 _ _ eD1)) .nil, .lst (SqL.of upd_same) .nil, rfl, rfl, false, rfl, ?_⟩⟩
    have sG0 : Same H2 (upd H3 E1 (.lst [])) := s3.trans (same_new nE1)
    generalize upd H3 E1 (.lst []) = G0 at sG0 ⊢
    -- bent
    refine ⟨Nat.zero_le _, fun b2 n2 => ?_⟩
    have t2 := same_new n2 (o := .lst [])
    have e2 : upd G0 b2 (.lst []) b2 = some (.lst []) := upd_same
    generalize upd G0 b2 (.lst []) = G1 at t2 e2 ⊢
    refine ⟨by show 1 ≤ sizeLine; decide, fun b3 n3 => ?_⟩
    have t3 := same_new n3 (o := .tup [.str "store"])
    have e3 : upd G1 b3 (.tup [.str "store"]) b3 = some (.tup [.str "store"]) := upd_same
    generalize upd G1 b3 (.tup [.str "store"]) = G2 at t3 e3 ⊢
    have z2 : Same H2 G2 := (sG0.trans t2).trans t3
    refine ⟨_, rfl, t, _, rfl, .inr (.inl (.inl (z2 _ _ ht))), fun b4 n4 => ?_⟩
    have t4 := same_new n4 (o := .lst [.str "store", .ref ma, .ref ca, .ref ia, .ref fa])
    have e4 : upd G2 b4 (.lst [.str "store", .ref ma, .ref ca, .ref ia, .ref fa]) b4 = some (.lst [.str "store", .ref ma, .ref ca, .ref ia, .ref fa]) := upd_same
    generalize upd G2 b4 (.lst [.str "store", .ref ma, .ref ca, .ref ia, .ref fa]) = G3 at t4 e4 ⊢
    have z3 : Same H2 G3 := z2.trans t4
    refine ⟨_, rfl, _, rfl, t, _, rfl, .inl (.inl (z3 _ _ ht)), (fun z => absurd z.2 (show ¬ HT.sIx 5 5 (some 4) = 5 by decide)), fun b5 n5 => ?_⟩
    rw [cut_take (show (0 : Int) ≤ 4 by decide)]
    have t5 := same_new n5 (o := .tup ([V.str "store", .ref ma, .ref ca, .ref ia, .ref fa].take (4 : Int).toNat))
    have e5 : upd G3 b5 (.tup ([V.str "store", .ref ma, .ref ca, .ref ia, .ref fa].take (4 : Int).toNat)) b5 = some (.tup [.str "store", .ref ma, .ref ca, .ref ia]) := upd_same
    generalize upd G3 b5 (.tup ([V.str "store", .ref ma, .ref ca, .ref ia, .ref fa].take (4 : Int).toNat)) = G4 at t5 e5 ⊢
    have z4 : Same H2 G4 := z3.trans t5
    refine ⟨_, rfl, t, _, 1, .ref ma, rfl, rfl, .inl (.inl (z4 _ _ ht)), atI_nat (j := 1) rfl, _, rfl, t, _, 2, .ref ca, rfl, rfl, .inl (.inl (z4 _ _ ht)), atI_nat (j := 2) rfl, _, rfl, t, _, 3, .ref ia, rfl, rfl, .inl (.inl (z4 _ _ ht)), atI_nat (j := 3) rfl, _, rfl, by show 1 ≤ sizeLine; decide, fun b6 n6 => ?_⟩
    have t6 := same_new n6 (o := .lst [.int (-1)])
    have e6 : upd G4 b6 (.lst [.int (-1)]) b6 = some (.lst [.int (-1)]) := upd_same
    generalize upd G4 b6 (.lst [.int (-1)]) = G5 at t6 e6 ⊢
    have z5 : Same H2 G5 := z4.trans t6
    have fewI := D.few
    refine ⟨ia, b6, _, _, rfl, rfl, z5 _ _ hia, e6, by rw [List.length_map]; exact Nat.le_trans (show _ + 1 ≤ 100 by omega) (by decide), fun b7 n7 => ?_⟩
    have t7 := same_new n7 (o := .lst (S.items.map V.int ++ [.int (-1)]))
    have e7 : upd G5 b7 (.lst (S.items.map V.int ++ [.int (-1)])) b7 = some (.lst (S.items.map V.int ++ [.int (-1)])) := upd_same
    generalize upd G5 b7 (.lst (S.items.map V.int ++ [.int (-1)])) = G6 at t7 e7 ⊢
    have z6 : Same H2 G6 := z5.trans t7
    refine ⟨_, rfl, t, _, 4, .ref fa, rfl, rfl, .inl (.inl (z6 _ _ ht)), atI_nat (j := 4) rfl, by show 5 ≤ sizeLine; decide, fun b8 n8 => ?_⟩
    have t8 := same_new n8 (o := .tup [.str "store", .ref ma, .ref ca, .ref b7, .ref fa])
    have e8 : upd G6 b8 (.tup [.str "store", .ref ma, .ref ca, .ref b7, .ref fa]) b8 = some (.tup [.str "store", .ref ma, .ref ca, .ref b7, .ref fa]) := upd_same
    generalize upd G6 b8 (.tup [.str "store", .ref ma, .ref ca, .ref b7, .ref fa]) = G7 at t8 e8 ⊢
    have z7 : Same H2 G7 := z6.trans t8
    refine ⟨by show 7 ≤ sizeLine; decide, fun b9 n9 => ?_⟩
    have t9 := same_new n9 (o := .lst [.non, .int 7, .ref b2, .ref b3, .ref b4, .ref b5, .ref b8])
    have e9 : upd G7 b9 (.lst [.non, .int 7, .ref b2, .ref b3, .ref b4, .ref b5, .ref b8]) b9 = some (.lst [.non, .int 7, .ref b2, .ref b3, .ref b4, .ref b5, .ref b8]) := upd_same
    generalize upd G7 b9 (.lst [.non, .int 7, .ref b2, .ref b3, .ref b4, .ref b5, .ref b8]) = G8 at t9 e9 ⊢
    have z8 : Same H2 G8 := z7.trans t9
    have hp0 : [decide (C0 = C0), decide (C0 = C2), decide (C0 = C3)] = atsD 0 := by
      rw [decide_eq_true rfl, decide_eq_false n02, decide_eq_false n03]
      rfl
    have hp2 : [decide (C2 = C0), decide (C2 = C2), decide (C2 = C3)] = atsD 1 := by
      rw [decide_eq_true (rfl : C2 = C2), decide_eq_false (Ne.symm n02), decide_eq_false n23]
      rfl
    have hp3 : [decide (C3 = C0), decide (C3 = C2), decide (C3 = C3)] = atsD 2 := by
      rw [decide_eq_true (rfl : C3 = C3), decide_eq_false (Ne.symm n03), decide_eq_false (Ne.symm n23)]
      rfl
    -- bent + [..]
    refine ⟨_, rfl, by show 2 ≤ sizeLine; decide, fun c1 m1 => ?_⟩
    have x1 := same_new m1 (o := .lst [.str "a", .str "a"])
    have f1 : upd G8 c1 (.lst [.str "a", .str "a"]) c1 = some (.lst [.str "a", .str "a"]) := upd_same
    generalize upd G8 c1 (.lst [.str "a", .str "a"]) = I1 at x1 f1 ⊢
    have w1 : Same H2 I1 := z8.trans x1
    refine ⟨_, rfl, t, _, 2, .ref ca, rfl, rfl, .inl (.inl (w1 _ _ ht)), atI_nat (j := 2) rfl, _, rfl, t, _, 3, .ref ia, rfl, rfl, .inl (.inl (w1 _ _ ht)), atI_nat (j := 3) rfl, Nat.zero_le _, fun c2 m2 => ?_⟩
    have x2 := same_new m2 (o := .lst [])
    have f2 : upd I1 c2 (.lst []) c2 = some (.lst []) := upd_same
    generalize upd I1 c2 (.lst []) = I2 at x2 f2 ⊢
    refine ⟨by show 5 ≤ sizeLine; decide, fun c3 m3 => ?_⟩
    have x3 := same_new m3 (o := .tup [.str "store", .ref c1, .ref ca, .ref ia, .ref c2])
    have f3 : upd I2 c3 (.tup [.str "store", .ref c1, .ref ca, .ref ia, .ref c2]) c3 = some (.tup [.str "store", .ref c1, .ref ca, .ref ia, .ref c2]) := upd_same
    generalize upd I2 c3 (.tup [.str "store", .ref c1, .ref ca, .ref ia, .ref c2]) = I3 at x3 f3 ⊢
    refine ⟨by show 1 ≤ sizeLine; decide, fun c4 m4 => ?_⟩
    have x4 := same_new m4 (o := .lst [.ref c3])
    have f4 : upd I3 c4 (.lst [.ref c3]) c4 = some (.lst [.ref c3]) := upd_same
    generalize upd I3 c4 (.lst [.ref c3]) = I4 at x4 f4 ⊢
    have y84 : Same G8 I4 := ((x1.trans x2).trans x3).trans x4
    refine ⟨b9, c4, _, _, rfl, rfl, y84 _ _ e9, f4, by show 8 ≤ sizeLine; decide, fun c5 m5 => ?_⟩
    have x5 := same_new m5 (o := .lst ([.non, .int 7, .ref b2, .ref b3, .ref b4, .ref b5, .ref b8] ++ [.ref c3]))
    have f5 : upd I4 c5 (.lst ([.non, .int 7, .ref b2, .ref b3, .ref b4, .ref b5, .ref b8] ++ [.ref c3])) c5 = some (.lst ([.non, .int 7, .ref b2, .ref b3, .ref b4, .ref b5, .ref b8] ++ [.ref c3])) := upd_same
    generalize upd I4 c5 (.lst ([.non, .int 7, .ref b2, .ref b3, .ref b4, .ref b5, .ref b8] ++ [.ref c3])) = I5 at x5 f5 ⊢
    have y85 : Same G8 I5 := y84.trans x5
    have w5 : Same H2 I5 := z8.trans y85
    obtain ⟨p1, p2, p3, p4, p5⟩ := sm_parts D (by decide)
    have q1 : Dp K I5 (.ref ma) (.list (S.marks.map PyData.str)) := .lst (SqL.of (w5 _ _ hma)) (dp_texts _)
    have q2 : Dp K I5 (.ref ca) (.list (S.columns.map PyData.str)) := .lst (SqL.of (w5 _ _ hca)) (dp_texts _)
    have q3 : Dp K I5 (.ref ia) (.list (S.items.map PyData.int)) := .lst (SqL.of (w5 _ _ hia)) (dp_intsL _)
    have q4 : Dp K I5 (.ref fa) (.list (S.facts.map Fact.d)) := .lst (SqL.of (w5 _ _ hfa)) (dp_facts (tp.keep (tk_same w5)))
    have bads : ∀ x ∈ [V.non, .int 7, .ref b2, .ref b3, .ref b4, .ref b5, .ref b8] ++ [.ref c3], BadAt K I5 x := fun x hx => by
      simp only [List.cons_append, List.nil_append, List.mem_cons, List.not_mem_nil, or_false] at hx
      have u8 := y85
      have u7 := t9.trans u8
      have u6 := t8.trans u7
      have u5 := t7.trans u6
      have u4 := t6.trans u5
      have u3 := t5.trans u4
      have u2 := t4.trans u3
      have u1 := t3.trans u2
      rcases hx with rfl | rfl | rfl | rfl | rfl | rfl | rfl | rfl
      · exact bad_of .non sm_none (by decide) (by decide) fun ds e => by cases e
      · exact bad_of (.int 7) (sm_int (by decide) (by decide)) (by decide) (by decide) fun ds e => by cases e
      · exact bad_of (.lst (SqL.of (u1 _ _ e2)) .nil) (SmL.list (k := 0) sml_nil) (by decide) (by decide) fun ds e => by cases e
      · exact bad_of (.tup (.inl (.inl (u2 _ _ e3))) (.cons (.str _) .nil)) (SmL.tuple (k := 0) (p1.cons sml_nil (by decide))) (by decide) (by decide) fun ds e => by
          injection e with e
          rw [← e]
          decide
      · exact bad_of (.lst (SqL.of (u3 _ _ e4)) (.cons (.str _) (.cons q1 (.cons q2 (.cons q3 (.cons q4 .nil)))))) (SmL.list (k := 2) (p1.cons (p2.cons (p3.cons (p4.cons (p5.cons sml_nil (by decide)) (by decide)) (by decide)) (by decide)) (by decide))) (by decide) (by decide) fun ds e => by cases e
      · exact bad_of (.tup (.inl (.inl (u4 _ _ e5))) (.cons (.str _) (.cons q1 (.cons q2 (.cons q3 .nil))))) (SmL.tuple (k := 1) (p1.cons (p2.cons (p3.cons (p4.cons sml_nil (by decide)) (by decide)) (by decide)) (by decide))) (by decide) (by decide) fun ds e => by
          injection e with e
          rw [← e]
          exact (show (4 : Nat) ≠ 5 by decide)
      · exact bad_items D (by decide) (u7 _ _ e8) (w5 _ _ hma) (w5 _ _ hca) (u6 _ _ e7) (w5 _ _ hfa) (tp.keep (tk_same w5))
      · have v4 := x4.trans x5
        have v3 := x3.trans v4
        have v2 := x2.trans v3
        exact bad_marks D (by decide) (v4 _ _ f3) (v2 _ _ f1) (w5 _ _ hca) (w5 _ _ hia) (v3 _ _ f2)
    refine ⟨c5, rfl, ⟨_, SqL.of f5⟩, for_list (K := K) (a := c5) (xs := [.non, .int 7, .ref b2, .ref b3, .ref b4, .ref b5, .ref b8] ++ [.ref c3]) (fun k σ H' => ∃ y6 : Option V, σ = [some (.ref a), some (.int (0 + (i : Int))), some (.ref g), some (.ref t), none, some (.ref b9), y6, none, y8, none] ∧ Same I5 H')
      ⟨y6, rfl, L2.Same.refl _⟩ (fun k σ H' _ hP => ?_) (fun k x σ H' hx hP => ?_) fun σ J0 hP => ?_⟩
    · obtain ⟨y6, rfl, s'⟩ := hP
      exact SqL.of (s' _ _ f5)
    · obtain ⟨y6, rfl, s'⟩ := hP
      obtain ⟨db, hdb, smb, nob⟩ := (bads x (List.mem_of_getElem? hx)).same s'
      refine ⟨3, rfl, by decide, by decide, fun Dq nDq => lc_range (lo := 0) (n := 3) (fun k H'' => Same H' H'' ∧ H'' Dq = some (.lst [])) ⟨same_new nDq, upd_same⟩ (fun k2 H'' hk hP => ?_) fun H'' hP => ?_⟩
      · obtain ⟨s2, eD⟩ := hP
        have hdb2 := dp_same s2 _ _ hdb
        refine ⟨rfl, _, rfl, _, rfl, con_read (con_read (nil_read (case_asks (refused_store (nob.same s2)) (.inl rfl) hp0 hdb2 .non .non (sm3_none smb (by decide) (by decide)) hdb2 (smb.shows (by decide) (by decide)) fun T H4 s4 only => con_read ⟨_, rfl, nil_read (only _ _ fun H5 s5 => ?_)⟩)))⟩
        exact ⟨true, rfl, (s2.trans s4).trans s5, s5 _ _ (s4 _ _ eD)⟩
      · obtain ⟨s2, eD⟩ := hP
        refine ⟨Nat.zero_le _, fun Eq nEq => ⟨.list [], .list [], .lst (SqL.of (same_new nEq _ _ eD)) .nil, .lst (SqL.of upd_same) .nil, rfl, rfl, false, rfl, ?_⟩⟩
        exact ⟨_, rfl, (s'.trans s2).trans (same_new nEq)⟩
    obtain ⟨y6', rfl, sJ⟩ := hP
    have wJ : Same H2 J0 := w5.trans sJ
    -- the columns
    refine ⟨by show 1 ≤ sizeLine; decide, fun g1 o1 => ?_⟩
    have aa1 := same_new o1 (o := .lst [.str "next"])
    have bb1 : upd J0 g1 (.lst [.str "next"]) g1 = some (.lst [.str "next"]) := upd_same
    generalize upd J0 g1 (.lst [.str "next"]) = J1 at aa1 bb1 ⊢
    refine ⟨by show 6 ≤ sizeLine; decide, fun g2 o2 => ?_⟩
    have aa2 := same_new o2 (o := .lst [.non, .str "gone", .str "red", .str "", .int 7, .ref g1])
    have bb2 : upd J1 g2 (.lst [.non, .str "gone", .str "red", .str "", .int 7, .ref g1]) g2 = some (.lst [.non, .str "gone", .str "red", .str "", .int 7, .ref g1]) := upd_same
    generalize upd J1 g2 (.lst [.non, .str "gone", .str "red", .str "", .int 7, .ref g1]) = J2 at aa2 bb2 ⊢
    have wJ2 : Same H2 J2 := (wJ.trans aa1).trans aa2
    have badc : ∀ x ∈ [V.non, .str "gone", .str "red", .str "", .int 7, .ref g1], BadCol K S J2 x := fun x hx => by
      simp only [List.mem_cons, List.not_mem_nil, or_false] at hx
      rcases hx with rfl | rfl | rfl | rfl | rfl | rfl
      · exact ⟨_, .non, sm_none.mono (by decide) (by decide), notCol D (by decide +kernel) (by decide +kernel)⟩
      · exact ⟨_, .str _, (sm_str (n := 10) (by decide +kernel) (by decide +kernel)).mono (by decide) (by decide), notCol D (by decide +kernel) (by decide +kernel)⟩
      · exact ⟨_, .str _, (sm_str (n := 10) (by decide +kernel) (by decide +kernel)).mono (by decide) (by decide), notCol D (by decide +kernel) (by decide +kernel)⟩
      · exact ⟨_, .str _, (sm_str (n := 10) (by decide +kernel) (by decide +kernel)).mono (by decide) (by decide), notCol D (by decide +kernel) (by decide +kernel)⟩
      · exact ⟨_, .int _, (sm_int (by decide) (by decide)).mono (by decide) (by decide), notCol D (by decide +kernel) (by decide +kernel)⟩
      · exact ⟨.list [.str "next"], .lst (SqL.of (aa2 _ _ bb1)) (.cons (.str _) .nil), (SmL.list (k := 0) ((sm_str (x := "next") (n := 10) (by decide +kernel) (by decide +kernel)).cons sml_nil (by decide))).mono (by decide) (by decide), notCol D (by decide +kernel) (by decide +kernel)⟩
    refine ⟨g2, rfl, ⟨_, SqL.of bb2⟩, for_list (K := K) (a := g2) (xs := [.non, .str "gone", .str "red", .str "", .int 7, .ref g1]) (fun k σ H' => ∃ y6 : Option V, σ = [some (.ref a), some (.int (0 + (i : Int))), some (.ref g), some (.ref t), none, some (.ref b9), y6, none, y8, none] ∧ Same J2 H')
      ⟨y6', rfl, L2.Same.refl _⟩ (fun k σ H' _ hP => ?_) (fun k x σ H' hx hP => ?_) fun σ M0 hP => ?_⟩
    · obtain ⟨y6, rfl, s'⟩ := hP
      exact SqL.of (s' _ _ bb2)
    · obtain ⟨y6, rfl, s'⟩ := hP
      obtain ⟨db, hdb, smb, nob⟩ := (badc x (List.mem_of_getElem? hx)).same s'
      refine ⟨by show 2 ≤ sizeLine; decide, fun g3 o3 => ?_⟩
      have aa3 := same_new o3 (o := .lst [.int 1, .int 2])
      have bb3 : upd H' g3 (.lst [.int 1, .int 2]) g3 = some (.lst [.int 1, .int 2]) := upd_same
      generalize upd H' g3 (.lst [.int 1, .int 2]) = J3 at aa3 bb3 ⊢
      have hdb3 := dp_same aa3 _ _ hdb
      have wJ3 : Same H2 J3 := (wJ2.trans s').trans aa3
      refine ⟨g3, rfl, ⟨_, SqL.of bb3⟩, fun Dq nDq => lc_list (K := K) (a := g3) (xs := [.int 1, .int 2]) (fun k H'' => Same J3 H'' ∧ H'' Dq = some (.lst [])) ⟨same_new nDq, upd_same⟩ (fun k H'' _ hP => SqL.of (hP.1 _ _ bb3)) (fun k2 x2 H'' hx2 hP => ?_) fun H'' hP => ?_⟩
      · obtain ⟨s2, eD⟩ := hP
        obtain ⟨wh, rfl, hw⟩ : ∃ wh : Int, x2 = .int wh ∧ wh ≠ 0 := by
          have hm := List.mem_of_getElem? hx2
          simp only [List.mem_cons, List.not_mem_nil, or_false] at hm
          rcases hm with rfl | rfl
          · exact ⟨1, rfl, by decide⟩
          · exact ⟨2, rfl, by decide⟩
        have hdb2 := dp_same s2 _ _ hdb3
        have w2 := wJ3.trans s2
        refine ⟨rfl, _, rfl, _, rfl, _, rfl, con_read (nil_read (case_asks (refused_column hw (by decide) D (storeAt_same A' w2) hdb2 (smb.shaped (by decide)) .non nob) (.inr (.inl rfl)) hp2 (store_dp (storeAt_same A' w2)) hdb2 .non (sm3_store D (by decide) smb (by decide) (by decide) (sm_none.mono (by decide) (by decide))) hdb2 (smb.shows (by decide) (by decide)) fun T H4 s4 only => con_read ⟨_, rfl, nil_read (only _ _ fun H5 s5 => ?_)⟩))⟩
        exact ⟨true, rfl, (s2.trans s4).trans s5, s5 _ _ (s4 _ _ eD)⟩
      · obtain ⟨s2, eD⟩ := hP
        refine ⟨Nat.zero_le _, fun Eq nEq => ⟨.list [], .list [], .lst (SqL.of (same_new nEq _ _ eD)) .nil, .lst (SqL.of upd_same) .nil, rfl, rfl, false, rfl, ?_⟩⟩
        exact ⟨_, rfl, ((s'.trans aa3).trans s2).trans (same_new nEq)⟩
    obtain ⟨y6'', rfl, sM⟩ := hP
    have wM : Same H2 M0 := wJ2.trans sM
    -- absent
    refine ⟨_, rfl, t, _, 3, .ref ia, rfl, rfl, .inl (.inl (wM _ _ ht)), atI_nat (j := 3) rfl, ia, _, rfl, .inl (SqL.of (wM _ _ hia)), _, _, rfl, rfl, _, rfl, by rw [List.length_map]; omega, by rw [List.length_map]; omega, fun D8 nD8 => lc_range (lo := 0) (n := ((((S.items.map V.int).length : Nat) : Int) + 1).toNat) (fun k H' => Same M0 H' ∧ H' D8 = some (.lst ((absents S.items k).map fun n : Nat => V.int (n : Int)))) ⟨same_new nD8, upd_same⟩ (fun k H' hk hP => ?_) fun M1 hP => ?_⟩
    · obtain ⟨s', eD⟩ := hP
      have w' := wM.trans s'
      refine ⟨rfl, _, rfl, _, rfl, t, _, 3, .ref ia, rfl, rfl, .inl (.inl (w' _ _ ht)), atI_nat (j := 3) rfl, ia, _, rfl, .inl (SqL.of (w' _ _ hia)), rfl, flat_intsV _, _, rfl, ?_⟩
      show if (!inV (.int (0 + (k : Int))) (S.items.map V.int)) = true then _ else _
      rw [inV_int, Int.zero_add]
      have nx := absents_next S.items k
      refine ite2 (fun c => ?_) fun c => ?_
      · rw [if_pos c] at nx
        refine ⟨_, rfl, _, eD, ?_, same_upd s' nD8, ?_⟩
        · have := absents_len S.items k
          rw [List.length_map]
          rw [List.length_map] at hk
          exact small1000 (by omega)
        · rw [upd_same, nx, List.map_append]
          rfl
      · rw [if_neg c, List.append_nil] at nx
        refine ⟨s', ?_⟩
        rw [nx]
        exact eD
    obtain ⟨sM1, eD8⟩ := hP
    have wM1 := wM.trans sM1
    have en : ((((S.items.map V.int).length : Nat) : Int) + 1).toNat = S.items.length + 1 := by rw [List.length_map]; omega
    rw [en] at eD8
    obtain ⟨nA, rA, eA, noA, leA⟩ := absents_some S.items
    rw [eA, List.map_cons] at eD8
    -- the values that are no items
    refine ⟨_, rfl, by show 1 ≤ sizeLine; decide, fun h1 o1 => ?_⟩
    have cc1 := same_new o1 (o := .lst [.int 1])
    have dd1 : upd M1 h1 (.lst [.int 1]) h1 = some (.lst [.int 1]) := upd_same
    generalize upd M1 h1 (.lst [.int 1]) = M2 at cc1 dd1 ⊢
    refine ⟨_, _, rfl, rfl, ⟨by decide, by decide, by decide⟩, _, _, rfl, rfl, _, rfl, D8, _, 0, .int (nA : Int), rfl, rfl, SqL.of (cc1 _ _ eD8), atI_nat (j := 0) rfl, by show 7 ≤ sizeLine; decide, fun h2 o2 => ?_⟩
    have cc2 := same_new o2 (o := .lst [.non, .int (-1), .bl true, .str "1", .ref h1, .int (10 ^ (9 : Int).toNat + 5), .int (nA : Int)])
    have dd2 : upd M2 h2 (.lst [.non, .int (-1), .bl true, .str "1", .ref h1, .int (10 ^ (9 : Int).toNat + 5), .int (nA : Int)]) h2 = some (.lst [.non, .int (-1), .bl true, .str "1", .ref h1, .int 1000000005, .int (nA : Int)]) := by
      rw [upd_same]
      rfl
    generalize upd M2 h2 (.lst [.non, .int (-1), .bl true, .str "1", .ref h1, .int (10 ^ (9 : Int).toNat + 5), .int (nA : Int)]) = M3 at cc2 dd2 ⊢
    have wM3 : Same H2 M3 := (wM1.trans cc1).trans cc2
    refine ⟨_, rfl, t, _, 3, .ref ia, rfl, rfl, .inl (.inl (wM3 _ _ ht)), atI_nat (j := 3) rfl, _, rfl, _, rfl, ia, _, rfl, SqL.of (wM3 _ _ hia), fun h3 o3 => ?_⟩
    rw [cut_last, List.length_map, ← List.map_drop]
    have cc3 := same_new o3 (o := .lst ((S.items.drop (S.items.length - 1)).map V.int))
    have dd3 : upd M3 h3 (.lst ((S.items.drop (S.items.length - 1)).map V.int)) h3 = some (.lst ((S.items.drop (S.items.length - 1)).map V.int)) := upd_same
    generalize upd M3 h3 (.lst ((S.items.drop (S.items.length - 1)).map V.int)) = M4 at cc3 dd3 ⊢
    refine ⟨h3, rfl, ⟨_, SqL.of dd3⟩, fun D9 nD9 => lc_list (K := K) (a := h3) (xs := (S.items.drop (S.items.length - 1)).map V.int) (fun k H' => Same M4 H' ∧ H' D9 = some (.lst (((S.items.drop (S.items.length - 1)).take k).map fun x => V.int (x + 1)))) ⟨same_new nD9, upd_same⟩ (fun k H' _ hP => SqL.of (hP.1 _ _ dd3)) (fun k x H' hx hP => ?_) fun M5 hP => ?_⟩
    · obtain ⟨s', eD⟩ := hP
      obtain ⟨it, hit, rfl⟩ := at_map hx
      have lk := (List.getElem?_eq_some_iff.mp hit).1
      rw [List.length_drop] at lk
      refine ⟨rfl, _, rfl, _, _, rfl, rfl, _, eD, ?_, same_upd s' nD9, ?_⟩
      · rw [List.length_map, List.length_take]
        exact small1000 (by omega)
      · rw [upd_same, take_next hit, List.map_append]
        rfl
    obtain ⟨sM5, eD9⟩ := hP
    rw [List.length_map, List.take_length] at eD9
    have dd25 := sM5 _ _ (cc3 _ _ dd2)
    refine ⟨h2, D9, _, _, rfl, rfl, dd25, eD9, by
      rw [List.length_map, List.length_drop]
      exact Nat.le_trans (show 7 + _ ≤ 100 by omega) (by decide), fun h4 o4 => ?_⟩
    have cc4 := same_new o4 (o := .lst ([.non, .int (-1), .bl true, .str "1", .ref h1, .int 1000000005, .int (nA : Int)] ++ (S.items.drop (S.items.length - 1)).map fun x => V.int (x + 1)))
    have dd4 : upd M5 h4 (.lst ([.non, .int (-1), .bl true, .str "1", .ref h1, .int 1000000005, .int (nA : Int)] ++ (S.items.drop (S.items.length - 1)).map fun x => V.int (x + 1))) h4 = some (.lst ([.non, .int (-1), .bl true, .str "1", .ref h1, .int 1000000005, .int (nA : Int)] ++ (S.items.drop (S.items.length - 1)).map fun x => V.int (x + 1))) := upd_same
    generalize upd M5 h4 (.lst ([.non, .int (-1), .bl true, .str "1", .ref h1, .int 1000000005, .int (nA : Int)] ++ (S.items.drop (S.items.length - 1)).map fun x => V.int (x + 1))) = M6 at cc4 dd4 ⊢
    have c26 : Same M2 M6 := ((cc2.trans cc3).trans sM5).trans cc4
    have wM6 : Same H2 M6 := (wM1.trans cc1).trans c26
    have badi : ∀ x ∈ [V.non, .int (-1), .bl true, .str "1", .ref h1, .int 1000000005, .int (nA : Int)] ++ (S.items.drop (S.items.length - 1)).map (fun x => V.int (x + 1)), BadItem K S M6 x := fun x hx => by
      have ofInt : ∀ j : Int, -100 ≤ j → j ≤ 2000000000 → j ∉ S.items → BadItem K S M6 (.int j) := fun j j1 j2 nj => ⟨_, .int j, (sm_int (by omega) (by omega)).mono (by decide) (by decide), not_item nj⟩
      rcases List.mem_append.mp hx with hx | hx
      · simp only [List.mem_cons, List.not_mem_nil, or_false] at hx
        rcases hx with rfl | rfl | rfl | rfl | rfl | rfl | rfl
        · exact ⟨_, .non, sm_none.mono (by decide) (by decide), rfl⟩
        · exact ofInt _ (by decide) (by decide) fun h => by have := (D.items.2 _ h).1; omega
        · exact ⟨_, .bl _, (sm_bool _).mono (by decide) (by decide), rfl⟩
        · exact ⟨_, .str _, (sm_str (n := 10) (by decide +kernel) (by decide +kernel)).mono (by decide) (by decide), rfl⟩
        · exact ⟨.list [.int 1], .lst (SqL.of (c26 _ _ dd1)) (.cons (.int _) .nil), (SmL.list (k := 0) ((sm_int (i := 1) (by decide) (by decide)).cons sml_nil (by decide))).mono (by decide) (by decide), rfl⟩
        · exact ofInt _ (by decide) (by decide) fun h => by have := (D.items.2 _ h).2; omega
        · exact ofInt _ (by omega) (by omega) noA
      · obtain ⟨j, hj, rfl⟩ := List.mem_map.mp hx
        have := D.items.2 j (List.mem_of_mem_drop hj)
        exact ofInt _ (by omega) (by omega) (last_more D.items.1 hj)
    obtain ⟨nx, at0⟩ := D.first
    refine ⟨h4, rfl, ⟨_, SqL.of dd4⟩, for_list (K := K) (a := h4) (xs := [.non, .int (-1), .bl true, .str "1", .ref h1, .int 1000000005, .int (nA : Int)] ++ (S.items.drop (S.items.length - 1)).map fun x => V.int (x + 1)) (fun k σ H' => ∃ y6 : Option V, σ = [some (.ref a), some (.int (0 + (i : Int))), some (.ref g), some (.ref t), none, some (.ref b9), y6, none, some (.ref D8), none] ∧ Same M6 H')
      ⟨y6'', rfl, L2.Same.refl _⟩ (fun k σ H' _ hP => ?_) (fun k x σ H' hx hP => ?_) fun σ N0 hP => ?_⟩
    · obtain ⟨y6, rfl, s'⟩ := hP
      exact SqL.of (s' _ _ dd4)
    · obtain ⟨y6, rfl, s'⟩ := hP
      obtain ⟨db, hdb, smb, nob⟩ := (badi x (List.mem_of_getElem? hx)).same s'
      refine ⟨3, rfl, by decide, by decide, fun Dq nDq => lc_range (lo := 0) (n := 3) (fun k H'' => Same H' H'' ∧ H'' Dq = some (.lst [])) ⟨same_new nDq, upd_same⟩ (fun k2 H'' hk hP => ?_) fun H'' hP => ?_⟩
      · obtain ⟨s2, eD⟩ := hP
        have hdb2 := dp_same s2 _ _ hdb
        have w2 := (wM6.trans s').trans s2
        refine ⟨rfl, _, rfl, _, rfl, _, rfl, t, _, 2, .ref ca, rfl, rfl, .inl (.inl (w2 _ _ ht)), atI_nat (j := 2) rfl, ca, _, 0, .str "next", rfl, rfl, SqL.of (w2 _ _ hca), at0, _, rfl, nil_read (case_asks (refused_item (by decide) D (storeAt_same A' w2) nx hdb2 nob) (.inr (.inr rfl)) hp3 (store_dp (storeAt_same A' w2)) (.str "next") hdb2 (sm3_store D (by decide) ((sm_word (D.word (.inr nx))).mono (show 0 ≤ 1 by decide) (show 10 ≤ 100 by decide)) (by decide) (by decide) smb) hdb2 (smb.shows (by decide) (by decide)) fun T H4 s4 only => con_read ⟨_, rfl, nil_read (only _ _ fun H5 s5 => ?_)⟩)⟩
        exact ⟨true, rfl, (s2.trans s4).trans s5, s5 _ _ (s4 _ _ eD)⟩
      · obtain ⟨s2, eD⟩ := hP
        refine ⟨Nat.zero_le _, fun Eq nEq => ⟨.list [], .list [], .lst (SqL.of (same_new nEq _ _ eD)) .nil, .lst (SqL.of upd_same) .nil, rfl, rfl, false, rfl, ?_⟩⟩
        exact ⟨_, rfl, (s'.trans s2).trans (same_new nEq)⟩
    obtain ⟨y6, rfl, sN⟩ := hP
    exact ⟨_, _, _, _, _, _, rfl, L2.Same.seq (wM6.trans sN) L2'⟩
  · obtain ⟨y1, y2, y3, y5, y6, y8, rfl, L0⟩ := hP
    exact q H0
end
end DQ

set_option Elab.async false
set_option linter.all false
set_option maxRecDepth 100000
set_option maxHeartbeats 2000000
namespace DQ
open PySem PySem.Spec PyProof.Rows L2
/-! ### the end of a law whose def was shown for calls around which no guard is -/
section
variable {P : Program} {w : World} {K : PySem.W.Frag} {mg nb : Str → Option Value} {j : Nat} {law scr : Addr} {code : FuncData} {par : Str} {asks : Sp} {t : Shared} {its : List Value} {nums : List Int}
/-- the script may be the only thing that is tracked -/
structure Bare (K : PySem.W.Frag) (scr : Addr) (H : Hp) : Prop where
  only : Only H
  self : ∀ b, H b ≠ none → b = scr
  out : H scr ≠ none → K.lookup scr = none
theorem bare_none {H : Hp} (X : Bare K scr H) {b : Addr} {o : Obj} {es : Array DictEntry} {n : Nat} (hs : t.heap.get? scr = some { cls := .type "list", data := .seq its.toArray }) (e : t.heap.get? b = some o) (d : o.data = .dict es n) : H b = none := Classical.byContradiction fun z => by
  have q := X.self b z
  rw [q, hs] at e
  cases e
  exact nomatch d
theorem ends_with (H : Hp) (X : Bare K scr H) (inK : K.In t.heap) (names : t.heap.Ns mainGlobals mg) (bns : t.heap.Ns builtinsNs nb) (boot : ∀ y : Str, y ≠ "__name__" → nb y = bootBuiltins y) (free : t.heap.NoLimit) (noGen : t.gens = #[])
    (hs : t.heap.get? scr = some { cls := .type "list", data := .seq its.toArray }) (room : Room j callerA) (F : ∀ base : Heap, K.In base → base.Ns mainGlobals mg → FnG P w K mg base CX0 j law code [par] asks) (bind : ∀ (s : Shared) (u : Value), BindsTo s code ⟨[u], []⟩ [(par, u)])
    (ok : HOk P w H t.heap) (ask : asks [.ref scr] H (fun v _ => v = .bl true) fun _ _ _ => False) :
    codeAny (model P w) callerA (.call (.ref law) ⟨[.ref scr], []⟩) (fun r u => r = .ok (.ret (.bool true)) ∧ OldK t.heap u.heap ∧ u.os = t.os ∧ AllBare u.gens) t := by
  have kept : ∀ {b : Addr} {m : Str → Option Value}, t.heap.Ns b m → (hidT t.heap H).Ns b m := fun {b m} z => by
    obtain ⟨o, es, n, e, d, r⟩ := z
    exact ⟨o, es, n, hidT_get e (bare_none X hs e d), d, r⟩
  have inK' : K.In (hidT t.heap H) := fun b o e => by
    refine hidT_get (inK b o e) (Classical.byContradiction fun z => ?_)
    have q := X.self b z
    rw [q] at e z
    rw [X.out z] at e
    exact nomatch e
  have mod : Mod K mg (hidT t.heap H) := by
    obtain ⟨mc, l1, l2⟩ := free
    exact ⟨inK', kept names, ⟨nb, kept bns, boot⟩, ⟨mc, kept l1, l2⟩⟩
  have start : Env0 P w K mg (hidT t.heap H) callerA [] t H := ⟨rfl, mod, fun b o => of_hidT, Nat.le_of_eq (hidT_size _ _), trivial, fun b z => absurd (show b ∈ ([] : List Addr) from z) List.not_mem_nil, ok, .of_eq noGen⟩
  have run := (F _ inK' (kept names)).run callerA [] t H ⟨[.ref scr], []⟩ [.ref scr] [.ref scr] _ _ room rfl start (bind t (.ref scr)) (.cons rfl .nil) ask
  refine codeAny_mono run fun r u z => ?_
  match r, z with
  | .error _, z => exact False.elim z
  | .ok .next, z => exact False.elim z
  | .ok .brk, z => exact False.elim z
  | .ok .cont, z => exact False.elim z
  | .ok (.ret y), z =>
    obtain ⟨v, H', os, bare, un, ok', rv, q⟩ := z
    have q : v = .bl true := q
    rw [q] at rv
    obtain rfl : y = Value.bool true := rv
    refine ⟨rfl, OldK.of_keep fun b o e => ?_, os, bare⟩
    cases z : H b with
    | none => exact un.keep b o e z (fun m => absurd (show b ∈ ([] : List Addr) from m) List.not_mem_nil) List.not_mem_nil
    | some f =>
      rcases X.only b with n | ⟨ob, xs, n⟩
      · rw [n] at z
        cases z
      · obtain ⟨e1, _⟩ := ok b _ n
        obtain ⟨e2, _⟩ := ok' b _ (un.frzs b ob _ n)
        rw [e] at e1
        cases e1
        exact e2
theorem ends_of (inK : K.In t.heap) (names : t.heap.Ns mainGlobals mg) (bns : t.heap.Ns builtinsNs nb) (boot : ∀ y : Str, y ≠ "__name__" → nb y = bootBuiltins y) (free : t.heap.NoLimit) (noGen : t.gens = #[])
    (hs : t.heap.get? scr = some { cls := .type "list", data := .seq its.toArray }) (hi : IntsAre its nums) (len : nums.length ≤ sizeLine) (room : Room j callerA) (F : ∀ base : Heap, K.In base → base.Ns mainGlobals mg → FnG P w K mg base CX0 j law code [par] asks)
    (bind : ∀ (s : Shared) (u : Value), BindsTo s code ⟨[u], []⟩ [(par, u)]) (ask : ∀ H : Hp, Only H → SqL K H scr (nums.map V.int) → asks [.ref scr] H (fun v _ => v = .bl true) fun _ _ _ => False) :
    codeAny (model P w) callerA (.call (.ref law) ⟨[.ref scr], []⟩) (fun r u => r = .ok (.ret (.bool true)) ∧ OldK t.heap u.heap ∧ u.os = t.os ∧ AllBare u.gens) t := by
  have rel := vals_ints hi
  have sz := hi.length
  by_cases own : K.lookup scr = none
  · let H : Hp := fun b => if b = scr then some (.frz { cls := .type "list", data := .seq its.toArray } (.lst (nums.map V.int))) else none
    have at0 : H scr = some (.frz { cls := .type "list", data := .seq its.toArray } (.lst (nums.map V.int))) := if_pos rfl
    have off : ∀ b, b ≠ scr → H b = none := fun b n => if_neg n
    have X : Bare K scr H := ⟨fun b => by
      by_cases e : b = scr
      · exact .inr ⟨_, _, by rw [e]; exact at0⟩
      · exact .inl (off b e), fun b n => Classical.byContradiction fun e => n (off b e), fun _ => own⟩
    refine ends_with H X inK names bns boot free noGen hs room F bind (fun b u z => ?_) (ask H X.only (.inl (.inr ⟨_, at0⟩)))
    by_cases e : b = scr
    · rw [e, at0] at z
      cases z
      rw [e]
      exact ⟨hs, by rw [List.length_map]; exact len, its, _, rel, hs⟩
    · rw [off b e] at z
      cases z
  · obtain ⟨o, ho⟩ : ∃ o, K.lookup scr = some o := by
      cases e : K.lookup scr with
      | none => exact absurd e own
      | some o => exact ⟨o, rfl⟩
    have e := inK scr o ho
    rw [hs] at e
    cases e
    have X : Bare K scr (fun _ => none) := ⟨fun _ => .inl rfl, fun b n => absurd rfl n, fun n => absurd rfl n⟩
    exact ends_with _ X inK names bns boot free noGen hs room F bind (fun b u z => nomatch z) (ask _ X.only (.inr ⟨_, its.toArray, _, ho, rfl, rfl, rfl, by rw [List.size_toArray, sz]; exact len, by simpa using rel⟩))
end
theorem walkG {l : PySem.W.OpenLaw} {n j : Nat} {q : Program} {loose : List Str} {XP : (Str → Option Value) → Heap → Prop} {YP : World → Heap → Prop} {d : DefRec} {K : Params → PySem.W.Frag} {asks : PySem.W.Frag → Sp} {par : Str}
    (hn : l.most = some n) (small : n ≤ sizeLine) (hdf : d.params.defaults = []) (room : Room j callerA) (inK : ∀ (w : World) (h : Heap), YP w h → (K w.params).In h)
    (F : ∀ (w : World) (mg : Str → Option Value) (law : Addr) (h : Heap), (K w.params).In h → h.Ns mainGlobals mg → mg d.name = some (.ref law) →
      ∃ code : FuncData, (∀ (s : Shared) (u : Value), BindsTo s code ⟨[u], []⟩ [(par, u)]) ∧ ∀ base : Heap, (K w.params).In base → base.Ns mainGlobals mg → FnG l.prog w (K w.params) mg base CX0 j law code [par] (asks (K w.params)))
    (ask : ∀ (K : PySem.W.Frag) (H : Hp) (scr : Addr) (nums : List Int), nums.length ≤ n → Only H → SqL K H scr (nums.map V.int) → asks K [.ref scr] H (fun v _ => v = .bl true) fun _ _ _ => False) :
    PySem.W.WalkO q loose XP YP l.row.toRowW d [] (fun f vs => PySem.call f vs) := by
  refine Att.attach_call hn hdf fun w s₀ t mg nb law o pm cd doc scr its nums G Y ho hd hcd hmg hs hints len noGen => ?_
  obtain ⟨code, bind, hF⟩ := F w mg law _ (inK w _ Y) G.T.g hmg
  exact ends_of (inK w _ Y) G.T.g G.T.b G.T.builtins G.T.nolimit noGen hs hints (Nat.le_trans len small) room hF bind fun H => ask _ H scr nums len
end DQ

set_option Elab.async false
set_option linter.all false
set_option maxRecDepth 100000
set_option maxHeartbeats 4000000
namespace DQ
open PySem PySem.Spec PyProof.Rows L2
/-! ### what the top has left: classes, defs, constants -/
section
variable {K : PySem.W.Frag} {h : Heap} {mg : Str → Option Value}
theorem cls_mk {C N : Addr} {nm q : Str} {bs bm : List Value} {sn : List Str} {sub : List Value} {ab : Bool} {col : Option Bool} {dd : Option Addr} {m0 m1 m2 m3 m5 : Option Value}
    (xL : K.lookup C = some (excClassObj nm q C N bs bm true sn sub ab col dd m0 m1 m2 m3 m5 "ValueError.__new__")) (rv : PySem.HandSPX.refsVE bm = true) (sa : PySem.W.findIn K (.ref C) "__setattr__" = some (some (.builtin "object.__setattr__")))
    (eC : PySem.W.subIn K (.ref C) (.type "BaseException") = some true) (tC : PySem.W.typeIn K (.ref C) = some (.type "type")) (kC : PySem.W.keepIn K (.ref C) = true)
    (ga : PySem.W.findIn K (.ref C) "__getattribute__" = some (some (.builtin "BaseException.__getattribute__"))) (gg : PySem.W.findIn K (.ref C) "__getattr__" = some none)
    (ca : PySem.W.findIn K (.ref C) "__class__" = some (some (.builtin "object.__class__"))) (cg : PySem.W.specialIn K (.builtin "object.__class__") "__get__" = some (some (.builtin "getset_descriptor.__get__"))) (ct : PySem.W.takesIn K (.builtin "object.__class__") = some true)
    (mo : PySem.W.mroIn K C (.type "object") = some true) : OexC K C ∧ ErrC K C :=
  ⟨⟨⟨nm, q, N, bs, bm, sn, sub, ab, col, dd, m0, m1, m2, m3, m5, xL, rv⟩, sa, eC, tC, kC⟩, ⟨by unfold PySem.W.clsIn; rw [xL]; rfl, ga, gg, eC, ca, cg, ct, mo⟩⟩
theorem err_mk {name qual : Str} {st : Stmt} {C fI T : Addr} {oT : Obj} {n : Nat} {oc kV doc pm cdv ct' : Value} {od an : Option Addr} {osl : Array (Option Value)} (X : K.In h) (G : h.Ns mainGlobals mg) (a : PySem.W.nsIn K mainGlobals name = some (some (.ref C))) (c : OexC K C ∧ ErrC K C)
    (hd : PySem.W.hasDictIn K C = true) (nv : PySem.W.findIn K (.ref C) "value" = some none) (eq : PySem.W.findIn K (.ref C) "__eq__" = some (some (.builtin "object.__eq__")))
    (ic : PySem.W.findIn K (.ref C) "__init__" = some (some (.ref fI))) (ti : PySem.W.typeIn K (.ref fI) = some (.type "function"))
    (lf : K.lookup fI = some ⟨oc, od, .func (PySem.W.fnOf "__init__" qual (defArgs st) (defBody st) (defScope st) (.ref T) kV doc pm an cdv ct'), osl⟩) (cf : PySem.W.codeIn K cdv qual = true) (kf : PySem.W.keepIn K (.ref fI) = true)
    (lT : K.lookup T = some oT) (dT : oT.data = .seq #[.none] n) : ErrAt K mg name qual st C :=
  ⟨PySem.W.mg_of X G a, c.1, ⟨c.2.ga, c.2.gg, c.2.sub, hd⟩, nv, c.2, eq, fI, _, ic, ti, ⟨⟨oc, od, _, kV, doc, pm, an, cdv, ct', osl, rfl, lf, cf, .inr ⟨by simp, T, oT, [.none], n, rfl, lT, dT, .cons rfl .nil⟩, .inl rfl⟩, kf⟩⟩
end
/-- a def of the top, by its facts -/
structure DefAt (K : PySem.W.Frag) (mg : Str → Option Value) (x : Str) (st : Stmt) (f : Addr) (fd : FuncData) : Prop where
  g : mg x = some (.ref f)
  F : Fun K x x st f fd
theorem def_mk {K : PySem.W.Frag} {h : Heap} {mg : Str → Option Value} {x : Str} {st : Stmt} {f : Addr} {oc kV doc pm cdv ct : Value} {od an : Option Addr} {osl : Array (Option Value)} (X : K.In h) (G : h.Ns mainGlobals mg) (a : PySem.W.nsIn K mainGlobals x = some (some (.ref f)))
    (l : K.lookup f = some ⟨oc, od, .func (PySem.W.fnOf x x (defArgs st) (defBody st) (defScope st) .none kV doc pm an cdv ct), osl⟩) (c : PySem.W.codeIn K cdv x = true) (k : PySem.W.keepIn K (.ref f) = true) : ∃ fd, DefAt K mg x st f fd :=
  ⟨_, PySem.W.mg_of X G a, fun_mk (st := st) l c k⟩
section
variable {K : PySem.W.Frag} {h : Heap} {mg : Str → Option Value}
theorem str_mk {x z v : Str} {t : Tok} (X : K.In h) (G : h.Ns mainGlobals mg) (a : PySem.W.nsIn K mainGlobals x = some (some (.str v t))) (e : v = z) : ∃ t, mg x = some (.str z t) := ⟨t, by rw [← e]; exact PySem.W.mg_of X G a⟩
theorem int_mk {x : Str} {z v : Int} {t : Tok} (X : K.In h) (G : h.Ns mainGlobals mg) (a : PySem.W.nsIn K mainGlobals x = some (some (.int v t))) (e : v = z) : ∃ t, mg x = some (.int z t) := ⟨t, by rw [← e]; exact PySem.W.mg_of X G a⟩
theorem rel_abs {u : Value} {x : V} (h : absV u = some x) : RelV x u := by
  cases u with
  | none => cases h; rfl
  | bool b => cases h; rfl
  | int i t => cases h; exact ⟨t, rfl⟩
  | str s t => cases h; exact ⟨t, rfl⟩
  | ref a => cases h; rfl
  | _ => first | cases h; rfl | (cases h; exact ⟨_, rfl⟩) | exact nomatch h
theorem vals_abs : ∀ {us : List Value} {xs : List V}, us.map absV = xs.map some → Vals xs us
  | [], [], _ => .nil
  | [], _ :: _, h => nomatch h
  | _ :: _, [], h => nomatch h
  | u :: us, x :: xs, h => by
    rw [List.map_cons, List.map_cons] at h
    injection h with h1 h2
    exact .cons (rel_abs h1) (vals_abs h2)
theorem tup_mk {x : Str} {r : Addr} {o : Obj} {its : Array Value} {n : Nat} {xs : List V} (X : K.In h) (G : h.Ns mainGlobals mg) (a : PySem.W.nsIn K mainGlobals x = some (some (.ref r))) (l : K.lookup r = some o) (c : o.cls = .type "tuple") (d : o.data = .seq its n) (z : its.size ≤ 1000) (e : its.toList.map absV = xs.map some) :
    ∃ r, mg x = some (.ref r) ∧ ∀ H, SqT K H r xs := ⟨r, PySem.W.mg_of X G a, fun H => .inr ⟨o, its, n, l, c, d, Nat.le_trans z (by decide), vals_abs e⟩⟩
end
end DQ

set_option Elab.async false
set_option linter.all false
set_option maxRecDepth 100000
set_option maxHeartbeats 4000000
namespace DQ
open PySem PySem.Spec PyProof.Rows L2
def kit3 (K : PySem.W.Frag) (a b c : Addr) : Bool := [a, b, c].all fun x => [a, b, c].all fun y => PySem.W.kitOne K (.ref x) (.ref y) == some (decide (x = y))
def exm3 (K : PySem.W.Frag) (a b c S : Addr) : Bool := [a, b, c].all fun x => PySem.W.exmOne K (.ref x) (.ref S) == some true
theorem kit3_of {K : PySem.W.Frag} {a b c : Addr} (h : kit3 K a b c = true) : ∀ C D, C = a ∨ C = b ∨ C = c → D = a ∨ D = b ∨ D = c → PySem.W.kitOne K (.ref C) (.ref D) = some (decide (C = D)) := fun C D hC hD =>
  beq_iff_eq.mp (List.all_eq_true.mp (List.all_eq_true.mp h C (by simpa using hC)) D (by simpa using hD))
theorem exm3_of {K : PySem.W.Frag} {a b c S : Addr} (h : exm3 K a b c S = true) : ∀ C, C = a ∨ C = b ∨ C = c → PySem.W.exmOne K (.ref C) (.ref S) = some true := fun C hC =>
  beq_iff_eq.mp (List.all_eq_true.mp h C (by simpa using hC))
theorem all_of {P : Program} {w : World} {K : PySem.W.Frag} {mg : Str → Option Value} {C0 C2 C3 S fa : Addr} {f1 f2 f3 f4 f5 f6 f7 f8 f9 f10 f11 f12 f13 f14 f15 f16 f17 f18 f19 f20 f21 g1 g2 g3 g4 g5 g6 g7 g8 g9 g10 g11 g12 : Addr} (hfa : mg "law" = some (.ref fa))
    (E0 : ErrAt K mg "InvalidStore" "InvalidStore.__init__" (sInit 2) C0)
    (E2 : ErrAt K mg "InvalidName" "InvalidName.__init__" (sInit 3) C2)
    (E3 : ErrAt K mg "InvalidItem" "InvalidItem.__init__" (sInit 4) C3)
    (gS : mg "StoreError" = some (.ref S)) (n02 : C0 ≠ C2) (n03 : C0 ≠ C3) (n23 : C2 ≠ C3) (k1 : kit3 K C0 C2 C3 = true) (k2 : exm3 K C0 C2 C3 S = true)
    (cL : ∃ t, mg "LETTERS" = some (.str letters t)) (cW : ∃ t, mg "WORD_SIGNS" = some (.str wordSigns t)) (cS : ∃ t, mg "MOST_SIGNS" = some (.int 30 t)) (cR : ∃ r, mg "RESERVED" = some (.ref r) ∧ ∀ H, SqT K H r (reserved.map V.str))
    (cM : ∃ t, mg "MOST_MARKS" = some (.int 4 t)) (cC : ∃ t, mg "MOST_COLUMNS" = some (.int 2 t)) (cI : ∃ t, mg "MOST_ITEMS" = some (.int 2000 t)) (cN : ∃ t, mg "MOST_NUMBER" = some (.int 1000000000 t))
    (D1 : ∃ fd, DefAt K mg "is_word" sIsWord f1 fd) (D2 : ∃ fd, DefAt K mg "is_spelled" sSpelled f2 fd) (D3 : ∃ fd, DefAt K mg "is_whole" sWhole f3 fd) (D4 : ∃ fd, DefAt K mg "is_between" sBetween f4 fd) (D5 : ∃ fd, DefAt K mg "is_number" sNumber f5 fd)
    (D6 : ∃ fd, DefAt K mg "are_words" sWords f6 fd) (D7 : ∃ fd, DefAt K mg "are_marks" sMarks f7 fd) (D8 : ∃ fd, DefAt K mg "are_columns" sColumns f8 fd) (D9 : ∃ fd, DefAt K mg "are_numbers" sNumbers f9 fd) (D10 : ∃ fd, DefAt K mg "is_ascending" sAscending f10 fd)
    (D11 : ∃ fd, DefAt K mg "is_fact" sIsFact f11 fd) (D12 : ∃ fd, DefAt K mg "first_clash" sClash f12 fd) (D13 : ∃ fd, DefAt K mg "are_facts" sFacts f13 fd) (D14 : ∃ fd, DefAt K mg "is_store" sStoreP f14 fd) (D15 : ∃ fd, DefAt K mg "check_store" sCheck f15 fd)
    (D16 : ∃ fd, DefAt K mg "is_item" sIsItem f16 fd) (D17 : ∃ fd, DefAt K mg "check_item" sCheckItem f17 fd) (D18 : ∃ fd, DefAt K mg "facts_of" sFactsOf f18 fd) (D19 : ∃ fd, DefAt K mg "check_led" sLed f19 fd) (D20 : ∃ fd, DefAt K mg "led_to" sTo f20 fd) (D21 : ∃ fd, DefAt K mg "led_from" sFrom f21 fd)
    (L1 : ∃ fd, DefAt K mg "_law_hash" sHash g1 fd) (L2 : ∃ fd, DefAt K mg "_law_random" sRandom g2 fd) (L3 : ∃ fd, DefAt K mg "_law_cell" sCell g3 fd) (L4 : ∃ fd, DefAt K mg "_law_generator" sGenerator g4 fd) (L5 : ∃ fd, DefAt K mg "_law_drawn_order" sOrder g5 fd) (L6 : ∃ fd, DefAt K mg "_law_drawn_pairs" sPairs g6 fd)
    (L7 : ∃ fd, DefAt K mg "_law_drawn_items" sItems g7 fd) (L8 : ∃ fd, DefAt K mg "_law_drawn_store" sStore g8 fd) (L9 : ∃ fd, DefAt K mg "_law_caught" sCaught g9 fd) (L10 : ∃ fd, DefAt K mg "_law_only" sOnly g10 fd) (L11 : ∃ fd, DefAt K mg "_law_item_right" sRight g11 fd) (L12 : ∃ fd, DefAt K mg "law" sLaw g12 fd)
    (zI : mg "isinstance" = none) (zS : mg "str" = none) (zL : mg "len" = none) (zA : mg "all" = none) (zN : mg "int" = none) (zB : mg "bool" = none) (zT : mg "list" = none) (zE : mg "set" = none) (zY : mg "any" = none) (zZ : mg "zip" = none) (zU : mg "tuple" = none) (zR : mg "range" = none) (zM : mg "sum" = none) (zX : mg "max" = none) (zO : mg "sorted" = none) (zP : mg "repr" = none) :
    ∃ fd : FuncData, (∀ (s : Shared) (v : Value), BindsTo s fd ⟨[v], []⟩ [("script", v)]) ∧ ∀ base : Heap, FnG P w K mg base CX0 11 fa fd ["script"] (spLaw K) := by
  obtain ⟨t1, cL⟩ := cL
  obtain ⟨t2, cW⟩ := cW
  obtain ⟨t3, cS⟩ := cS
  obtain ⟨r1, cR, cR2⟩ := cR
  obtain ⟨t4, cM⟩ := cM
  obtain ⟨t5, cC⟩ := cC
  obtain ⟨t6, cI⟩ := cI
  obtain ⟨t7, cN⟩ := cN
  obtain ⟨d1, D1⟩ := D1
  obtain ⟨d2, D2⟩ := D2
  obtain ⟨d3, D3⟩ := D3
  obtain ⟨d4, D4⟩ := D4
  obtain ⟨d5, D5⟩ := D5
  obtain ⟨d6, D6⟩ := D6
  obtain ⟨d7, D7⟩ := D7
  obtain ⟨d8, D8⟩ := D8
  obtain ⟨d9, D9⟩ := D9
  obtain ⟨d10, D10⟩ := D10
  obtain ⟨d11, D11⟩ := D11
  obtain ⟨d12, D12⟩ := D12
  obtain ⟨d13, D13⟩ := D13
  obtain ⟨d14, D14⟩ := D14
  obtain ⟨d15, D15⟩ := D15
  obtain ⟨d16, D16⟩ := D16
  obtain ⟨d17, D17⟩ := D17
  obtain ⟨d18, D18⟩ := D18
  obtain ⟨d19, D19⟩ := D19
  obtain ⟨d20, D20⟩ := D20
  obtain ⟨d21, D21⟩ := D21
  obtain ⟨e1, L1⟩ := L1
  obtain ⟨e2, L2⟩ := L2
  obtain ⟨e3, L3⟩ := L3
  obtain ⟨e4, L4⟩ := L4
  obtain ⟨e5, L5⟩ := L5
  obtain ⟨e6, L6⟩ := L6
  obtain ⟨e7, L7⟩ := L7
  obtain ⟨e8, L8⟩ := L8
  obtain ⟨e9, L9⟩ := L9
  obtain ⟨e10, L10⟩ := L10
  obtain ⟨e11, L11⟩ := L11
  obtain ⟨e12, L12⟩ := L12
  have e := hfa.symm.trans L12.g
  cases e
  have b1 := D1.F.binds (ps := ["value"]) fun _ _ _ _ _ _ us hl => match us, hl with | [_], _ => rfl
  have b2 := D2.F.binds (ps := ["text"]) fun _ _ _ _ _ _ us hl => match us, hl with | [_], _ => rfl
  have b3 := D3.F.binds (ps := ["value"]) fun _ _ _ _ _ _ us hl => match us, hl with | [_], _ => rfl
  have b4 := D4.F.binds (ps := ["value", "least", "most"]) fun _ _ _ _ _ _ us hl => match us, hl with | [_, _, _], _ => rfl
  have b5 := D5.F.binds (ps := ["value"]) fun _ _ _ _ _ _ us hl => match us, hl with | [_], _ => rfl
  have b6 := D6.F.binds (ps := ["value", "most"]) fun _ _ _ _ _ _ us hl => match us, hl with | [_, _], _ => rfl
  have b7 := D7.F.binds (ps := ["value"]) fun _ _ _ _ _ _ us hl => match us, hl with | [_], _ => rfl
  have b8 := D8.F.binds (ps := ["marks", "value"]) fun _ _ _ _ _ _ us hl => match us, hl with | [_, _], _ => rfl
  have b9 := D9.F.binds (ps := ["value"]) fun _ _ _ _ _ _ us hl => match us, hl with | [_], _ => rfl
  have b10 := D10.F.binds (ps := ["rows"]) fun _ _ _ _ _ _ us hl => match us, hl with | [_], _ => rfl
  have b11 := D11.F.binds (ps := ["marks", "columns", "known", "value"]) fun _ _ _ _ _ _ us hl => match us, hl with | [_, _, _, _], _ => rfl
  have b12 := D12.F.binds (ps := ["facts"]) fun _ _ _ _ _ _ us hl => match us, hl with | [_], _ => rfl
  have b13 := D13.F.binds (ps := ["marks", "columns", "items", "value"]) fun _ _ _ _ _ _ us hl => match us, hl with | [_, _, _, _], _ => rfl
  have b14 := D14.F.binds (ps := ["value"]) fun _ _ _ _ _ _ us hl => match us, hl with | [_], _ => rfl
  have b15 := D15.F.binds (ps := ["store"]) fun _ _ _ _ _ _ us hl => match us, hl with | [_], _ => rfl
  have b16 := D16.F.binds (ps := ["store", "value"]) fun _ _ _ _ _ _ us hl => match us, hl with | [_, _], _ => rfl
  have b17 := D17.F.binds (ps := ["store", "item"]) fun _ _ _ _ _ _ us hl => match us, hl with | [_, _], _ => rfl
  have b18 := D18.F.binds (ps := ["store", "item"]) fun _ _ _ _ _ _ us hl => match us, hl with | [_, _], _ => rfl
  have b19 := D19.F.binds (ps := ["store", "column", "item"]) fun _ _ _ _ _ _ us hl => match us, hl with | [_, _, _], _ => rfl
  have b20 := D20.F.binds (ps := ["store", "column", "item"]) fun _ _ _ _ _ _ us hl => match us, hl with | [_, _, _], _ => rfl
  have b21 := D21.F.binds (ps := ["store", "column", "item"]) fun _ _ _ _ _ _ us hl => match us, hl with | [_, _, _], _ => rfl
  have a1 := L1.F.binds (ps := ["seed", "index"]) fun _ _ _ _ _ _ us hl => match us, hl with | [_, _], _ => rfl
  have a2 := L2.F.binds (ps := ["generator", "bound"]) fun _ _ _ _ _ _ us hl => match us, hl with | [_, _], _ => rfl
  have a3 := L3.F.binds (ps := ["script", "index"]) fun _ _ _ _ _ _ us hl => match us, hl with | [_, _], _ => rfl
  have a4 := L4.F.binds (ps := ["script", "index"]) fun _ _ _ _ _ _ us hl => match us, hl with | [_, _], _ => rfl
  have a5 := L5.F.binds (ps := ["generator", "things"]) fun _ _ _ _ _ _ us hl => match us, hl with | [_, _], _ => rfl
  have a6 := L6.F.binds (ps := ["generator", "items"]) fun _ _ _ _ _ _ us hl => match us, hl with | [_, _], _ => rfl
  have a7 := L7.F.binds (ps := ["generator", "most"]) fun _ _ _ _ _ _ us hl => match us, hl with | [_, _], _ => rfl
  have a8 := L8.F.binds (ps := ["generator", "most"]) fun _ _ _ _ _ _ us hl => match us, hl with | [_, _], _ => rfl
  have a9 := L9.F.binds (ps := ["which", "store", "column", "item"]) fun _ _ _ _ _ _ us hl => match us, hl with | [_, _, _, _], _ => rfl
  have a10 := L10.F.binds (ps := ["told", "place", "bad"]) fun _ _ _ _ _ _ us hl => match us, hl with | [_, _, _], _ => rfl
  have a11 := L11.F.binds (ps := ["store", "item"]) fun _ _ _ _ _ _ us hl => match us, hl with | [_, _], _ => rfl
  refine ⟨e12, fun s v => ?_, fun base => ?_⟩
  · obtain ⟨oc, od, kV, doc, pm, an, cdv, ct, osl, rfl, _⟩ := L12.F.ex
    exact .of_eq rfl
  have U0 : ErrUse P w K mg base "InvalidStore" C0 := E0.use it2
  have U2 : ErrUse P w K mg base "InvalidName" C2 := E2.use it3
  have U3 : ErrUse P w K mg base "InvalidItem" C3 := E3.use it4
  have o2 := ok_spelled (P := P) (w := w) (base := base) D2.F cL cW cS zL zA
  have o1 := ok_isWord D1.F o2 b2 D2.F.kp D2.g zI zS cR cR2
  have o3 := ok_whole (P := P) (w := w) (base := base) D3.F zI zN zB
  have o4 := ok_between D4.F o3 b3 D3.F.kp D3.g
  have o5 := ok_number D5.F o4 b4 D4.F.kp D4.g cN
  have o6 := ok_words D6.F o1 b1 D1.F.kp D1.g zI zT zL zE zA
  have o7 := ok_marks D7.F o6 b6 D6.F.kp D6.g cM
  have o8 := ok_columns D8.F o6 b6 D6.F.kp D6.g cC zY
  have o9 := ok_numbers D9.F o5 b5 D5.F.kp D5.g zI zT zA
  have o10 := ok_ascending (P := P) (w := w) (base := base) D10.F zZ zA
  have o11 := ok_isFact D11.F o5 b5 D5.F.kp D5.g zI zU zL zA
  have o12 := ok_clash (P := P) (w := w) (mg := mg) (base := base) D12.F
  have o13 := ok_facts D13.F o11 b11 D11.F.kp D11.g o10 b10 D10.F.kp D10.g o12 b12 D12.F.kp D12.g zI zT zA
  have o14 := ok_isStore D14.F o7 b7 D7.F.kp D7.g o8 b8 D8.F.kp D8.g o9 b9 D9.F.kp D9.g o10 b10 D10.F.kp D10.g o13 b13 D13.F.kp D13.g zI zU zL cI
  have o15 := ok_check D15.F o14 b14 D14.F.kp D14.g U0
  have o16 := ok_isItem D16.F o5 b5 D5.F.kp D5.g
  have o17 := ok_checkItem D17.F o16 b16 D16.F.kp D16.g U3
  have o18 := ok_factsOf D18.F o15 b15 D15.F.kp D15.g o17 b17 D17.F.kp D17.g
  have o19 := ok_led D19.F o15 b15 D15.F.kp D15.g o17 b17 D17.F.kp D17.g U2
  have o20 := ok_to D20.F o19 b19 D19.F.kp D19.g
  have o21 := ok_from D21.F o19 b19 D19.F.kp D19.g
  have p1 := ok_hash (P := P) (w := w) (mg := mg) (base := base) L1.F zN
  have p2 := ok_random L2.F p1 a1 L1.F.kp L1.g zN zR
  have p3 := ok_cell (P := P) (w := w) (base := base) L3.F zL zM
  have p4 := ok_generator L4.F p3 a3 L3.F.kp L3.g zN zX
  have p5 := ok_order L5.F p2 a2 L2.F.kp L2.g zT zL
  have p6 := ok_pairs L6.F p5 a5 L5.F.kp L5.g p2 a2 L2.F.kp L2.g zL zR
  have p7 := ok_items L7.F p2 a2 L2.F.kp L2.g zR
  have p8 := ok_store L8.F p7 a7 L7.F.kp L7.g p6 a6 L6.F.kp L6.g p2 a2 L2.F.kp L2.g zO
  have p9 := ok_caught L9.F o18 b18 D18.F.kp D18.g o20 b20 D20.F.kp D20.g o21 b21 D21.F.kp D21.g U0 U2 U3 gS (exm3_of k2) (kit3_of k1) zP zI
  have p10 := ok_only (P := P) (w := w) (base := base) L10.F zR zP
  have p11 := ok_right L11.F o18 b18 D18.F.kp D18.g (kb_facts D18.F) o20 b20 D20.F.kp D20.g (kb_to D20.F) o21 b21 D21.F.kp D21.g (kb_from D21.F) zP
  exact ok_law L12.F p4 a4 L4.F.kp L4.g p8 a8 L8.F.kp L8.g p11 a11 L11.F.kp L11.g p9 a9 L9.F.kp L9.g p10 a10 L10.F.kp L10.g n02 n03 n23 zR zL zT
end DQ

open PySem PySem.W PyProof.Rows
set_option maxRecDepth 100000 in
set_option maxHeartbeats 0 in
theorem PySem.Challenge.cw_depthquestions_k04_whole_facts_and_links_holds : PySem.Challenge.rw_depthquestions_k04_whole_facts_and_links.Holds := by
  w_on; o_law; k_head; (case hw => w_witness2)
  k_fill
  refine DQ.walkG (l := PySem.Challenge.rw_depthquestions_k04_whole_facts_and_links) (n := 63) (j := 11) (par := "script") (asks := DQ.spLaw) rfl (by decide) rfl ⟨rfl, by decide, by decide⟩ (fun w h Y => PySem.W.kIn_of Y) ?F (fun K H a ns _ _ hS => ⟨a, ns, rfl, hS, fun _ => rfl⟩)
  case F =>
    intro w mg fa h KX G hmg
    suffices A : ∃ fd : FuncData, (∀ (s : Shared) (v : Value), BindsTo s fd ⟨[v], []⟩ [("script", v)]) ∧ ∀ base : Heap, DQ.FnG (PySem.Challenge.rw_depthquestions_k04_whole_facts_and_links).prog w _ mg base L2.CX0 11 fa fd ["script"] (DQ.spLaw _) from A.imp fun fd z => ⟨z.1, fun base _ _ => z.2 base⟩
    refine' DQ.all_of hmg
      (DQ.err_mk KX G ?a0 (DQ.cls_mk ?xL0 ?rv0 ?sa0 ?eC0 ?tC0 ?kC0 ?ga0 ?gg0 ?ca0 ?cg0 ?ct0 ?mo0) ?hd0 ?nv0 ?eq0 ?ic0 ?ti0 ?lf0 ?cf0 ?kf0 ?lT0 ?dT0)
      (DQ.err_mk KX G ?a1 (DQ.cls_mk ?xL1 ?rv1 ?sa1 ?eC1 ?tC1 ?kC1 ?ga1 ?gg1 ?ca1 ?cg1 ?ct1 ?mo1) ?hd1 ?nv1 ?eq1 ?ic1 ?ti1 ?lf1 ?cf1 ?kf1 ?lT1 ?dT1)
      (DQ.err_mk KX G ?a2 (DQ.cls_mk ?xL2 ?rv2 ?sa2 ?eC2 ?tC2 ?kC2 ?ga2 ?gg2 ?ca2 ?cg2 ?ct2 ?mo2) ?hd2 ?nv2 ?eq2 ?ic2 ?ti2 ?lf2 ?cf2 ?kf2 ?lT2 ?dT2)
      (PySem.W.mg_of KX G ?gS) ?n02 ?n03 ?n23 ?k1 ?k2
      (DQ.str_mk KX G ?cL ?eL)
      (DQ.str_mk KX G ?cW ?eW)
      (DQ.int_mk KX G ?cS ?eS)
      (DQ.tup_mk KX G ?cR ?lR ?tR ?dR ?zR ?eR)
      (DQ.int_mk KX G ?cM ?eM)
      (DQ.int_mk KX G ?cC ?eC)
      (DQ.int_mk KX G ?cI ?eI)
      (DQ.int_mk KX G ?cN ?eN)
      (DQ.def_mk KX G ?da0 ?dl0 ?dc0 ?dk0)
      (DQ.def_mk KX G ?da1 ?dl1 ?dc1 ?dk1)
      (DQ.def_mk KX G ?da2 ?dl2 ?dc2 ?dk2)
      (DQ.def_mk KX G ?da3 ?dl3 ?dc3 ?dk3)
      (DQ.def_mk KX G ?da4 ?dl4 ?dc4 ?dk4)
      (DQ.def_mk KX G ?da5 ?dl5 ?dc5 ?dk5)
      (DQ.def_mk KX G ?da6 ?dl6 ?dc6 ?dk6)
      (DQ.def_mk KX G ?da7 ?dl7 ?dc7 ?dk7)
      (DQ.def_mk KX G ?da8 ?dl8 ?dc8 ?dk8)
      (DQ.def_mk KX G ?da9 ?dl9 ?dc9 ?dk9)
      (DQ.def_mk KX G ?da10 ?dl10 ?dc10 ?dk10)
      (DQ.def_mk KX G ?da11 ?dl11 ?dc11 ?dk11)
      (DQ.def_mk KX G ?da12 ?dl12 ?dc12 ?dk12)
      (DQ.def_mk KX G ?da13 ?dl13 ?dc13 ?dk13)
      (DQ.def_mk KX G ?da14 ?dl14 ?dc14 ?dk14)
      (DQ.def_mk KX G ?da15 ?dl15 ?dc15 ?dk15)
      (DQ.def_mk KX G ?da16 ?dl16 ?dc16 ?dk16)
      (DQ.def_mk KX G ?da17 ?dl17 ?dc17 ?dk17)
      (DQ.def_mk KX G ?da18 ?dl18 ?dc18 ?dk18)
      (DQ.def_mk KX G ?da19 ?dl19 ?dc19 ?dk19)
      (DQ.def_mk KX G ?da20 ?dl20 ?dc20 ?dk20)
      (DQ.def_mk KX G ?da21 ?dl21 ?dc21 ?dk21)
      (DQ.def_mk KX G ?da22 ?dl22 ?dc22 ?dk22)
      (DQ.def_mk KX G ?da23 ?dl23 ?dc23 ?dk23)
      (DQ.def_mk KX G ?da24 ?dl24 ?dc24 ?dk24)
      (DQ.def_mk KX G ?da25 ?dl25 ?dc25 ?dk25)
      (DQ.def_mk KX G ?da26 ?dl26 ?dc26 ?dk26)
      (DQ.def_mk KX G ?da27 ?dl27 ?dc27 ?dk27)
      (DQ.def_mk KX G ?da28 ?dl28 ?dc28 ?dk28)
      (DQ.def_mk KX G ?da29 ?dl29 ?dc29 ?dk29)
      (DQ.def_mk KX G ?da30 ?dl30 ?dc30 ?dk30)
      (DQ.def_mk KX G ?da31 ?dl31 ?dc31 ?dk31)
      (DQ.def_mk KX G ?da32 ?dl32 ?dc32 ?dk32)
      (PySem.W.mg_none_of KX G ?z0)
      (PySem.W.mg_none_of KX G ?z1)
      (PySem.W.mg_none_of KX G ?z2)
      (PySem.W.mg_none_of KX G ?z3)
      (PySem.W.mg_none_of KX G ?z4)
      (PySem.W.mg_none_of KX G ?z5)
      (PySem.W.mg_none_of KX G ?z6)
      (PySem.W.mg_none_of KX G ?z7)
      (PySem.W.mg_none_of KX G ?z8)
      (PySem.W.mg_none_of KX G ?z9)
      (PySem.W.mg_none_of KX G ?z10)
      (PySem.W.mg_none_of KX G ?z11)
      (PySem.W.mg_none_of KX G ?z12)
      (PySem.W.mg_none_of KX G ?z13)
      (PySem.W.mg_none_of KX G ?z14)
      (PySem.W.mg_none_of KX G ?z15)
    (case a0 => k_is)
    (case xL0 => k_is)
    (case rv0 => decide +kernel)
    (case sa0 => k_is)
    (case eC0 => k_is)
    (case tC0 => k_is)
    (case kC0 => k_is)
    (case ga0 => k_is)
    (case gg0 => k_is)
    (case ca0 => k_is)
    (case cg0 => k_is)
    (case ct0 => k_is)
    (case mo0 => k_is)
    (case hd0 => k_is)
    (case nv0 => k_is)
    (case eq0 => k_is)
    (case ic0 => k_is)
    (case ti0 => k_is)
    (case lf0 => k_is)
    (case cf0 => k_is)
    (case kf0 => k_is)
    (case lT0 => k_is)
    (case dT0 => rfl)
    (case a1 => k_is)
    (case xL1 => k_is)
    (case rv1 => decide +kernel)
    (case sa1 => k_is)
    (case eC1 => k_is)
    (case tC1 => k_is)
    (case kC1 => k_is)
    (case ga1 => k_is)
    (case gg1 => k_is)
    (case ca1 => k_is)
    (case cg1 => k_is)
    (case ct1 => k_is)
    (case mo1 => k_is)
    (case hd1 => k_is)
    (case nv1 => k_is)
    (case eq1 => k_is)
    (case ic1 => k_is)
    (case ti1 => k_is)
    (case lf1 => k_is)
    (case cf1 => k_is)
    (case kf1 => k_is)
    (case lT1 => k_is)
    (case dT1 => rfl)
    (case a2 => k_is)
    (case xL2 => k_is)
    (case rv2 => decide +kernel)
    (case sa2 => k_is)
    (case eC2 => k_is)
    (case tC2 => k_is)
    (case kC2 => k_is)
    (case ga2 => k_is)
    (case gg2 => k_is)
    (case ca2 => k_is)
    (case cg2 => k_is)
    (case ct2 => k_is)
    (case mo2 => k_is)
    (case hd2 => k_is)
    (case nv2 => k_is)
    (case eq2 => k_is)
    (case ic2 => k_is)
    (case ti2 => k_is)
    (case lf2 => k_is)
    (case cf2 => k_is)
    (case kf2 => k_is)
    (case lT2 => k_is)
    (case dT2 => rfl)
    (case gS => k_is)
    (case n02 => decide)
    (case n03 => decide)
    (case n23 => decide)
    (case cL => k_is)
    (case eL => decide +kernel)
    (case cW => k_is)
    (case eW => decide +kernel)
    (case cS => k_is)
    (case eS => rfl)
    (case cR => k_is)
    (case lR => k_is)
    (case tR => rfl)
    (case dR => rfl)
    (case zR => decide +kernel)
    (case eR => decide +kernel)
    (case cM => k_is)
    (case eM => rfl)
    (case cC => k_is)
    (case eC => rfl)
    (case cI => k_is)
    (case eI => rfl)
    (case cN => k_is)
    (case eN => rfl)
    (case da0 => k_is)
    (case dl0 => k_is)
    (case dc0 => k_is)
    (case dk0 => k_is)
    (case da1 => k_is)
    (case dl1 => k_is)
    (case dc1 => k_is)
    (case dk1 => k_is)
    (case da2 => k_is)
    (case dl2 => k_is)
    (case dc2 => k_is)
    (case dk2 => k_is)
    (case da3 => k_is)
    (case dl3 => k_is)
    (case dc3 => k_is)
    (case dk3 => k_is)
    (case da4 => k_is)
    (case dl4 => k_is)
    (case dc4 => k_is)
    (case dk4 => k_is)
    (case da5 => k_is)
    (case dl5 => k_is)
    (case dc5 => k_is)
    (case dk5 => k_is)
    (case da6 => k_is)
    (case dl6 => k_is)
    (case dc6 => k_is)
    (case dk6 => k_is)
    (case da7 => k_is)
    (case dl7 => k_is)
    (case dc7 => k_is)
    (case dk7 => k_is)
    (case da8 => k_is)
    (case dl8 => k_is)
    (case dc8 => k_is)
    (case dk8 => k_is)
    (case da9 => k_is)
    (case dl9 => k_is)
    (case dc9 => k_is)
    (case dk9 => k_is)
    (case da10 => k_is)
    (case dl10 => k_is)
    (case dc10 => k_is)
    (case dk10 => k_is)
    (case da11 => k_is)
    (case dl11 => k_is)
    (case dc11 => k_is)
    (case dk11 => k_is)
    (case da12 => k_is)
    (case dl12 => k_is)
    (case dc12 => k_is)
    (case dk12 => k_is)
    (case da13 => k_is)
    (case dl13 => k_is)
    (case dc13 => k_is)
    (case dk13 => k_is)
    (case da14 => k_is)
    (case dl14 => k_is)
    (case dc14 => k_is)
    (case dk14 => k_is)
    (case da15 => k_is)
    (case dl15 => k_is)
    (case dc15 => k_is)
    (case dk15 => k_is)
    (case da16 => k_is)
    (case dl16 => k_is)
    (case dc16 => k_is)
    (case dk16 => k_is)
    (case da17 => k_is)
    (case dl17 => k_is)
    (case dc17 => k_is)
    (case dk17 => k_is)
    (case da18 => k_is)
    (case dl18 => k_is)
    (case dc18 => k_is)
    (case dk18 => k_is)
    (case da19 => k_is)
    (case dl19 => k_is)
    (case dc19 => k_is)
    (case dk19 => k_is)
    (case da20 => k_is)
    (case dl20 => k_is)
    (case dc20 => k_is)
    (case dk20 => k_is)
    (case da21 => k_is)
    (case dl21 => k_is)
    (case dc21 => k_is)
    (case dk21 => k_is)
    (case da22 => k_is)
    (case dl22 => k_is)
    (case dc22 => k_is)
    (case dk22 => k_is)
    (case da23 => k_is)
    (case dl23 => k_is)
    (case dc23 => k_is)
    (case dk23 => k_is)
    (case da24 => k_is)
    (case dl24 => k_is)
    (case dc24 => k_is)
    (case dk24 => k_is)
    (case da25 => k_is)
    (case dl25 => k_is)
    (case dc25 => k_is)
    (case dk25 => k_is)
    (case da26 => k_is)
    (case dl26 => k_is)
    (case dc26 => k_is)
    (case dk26 => k_is)
    (case da27 => k_is)
    (case dl27 => k_is)
    (case dc27 => k_is)
    (case dk27 => k_is)
    (case da28 => k_is)
    (case dl28 => k_is)
    (case dc28 => k_is)
    (case dk28 => k_is)
    (case da29 => k_is)
    (case dl29 => k_is)
    (case dc29 => k_is)
    (case dk29 => k_is)
    (case da30 => k_is)
    (case dl30 => k_is)
    (case dc30 => k_is)
    (case dk30 => k_is)
    (case da31 => k_is)
    (case dl31 => k_is)
    (case dc31 => k_is)
    (case dk31 => k_is)
    (case da32 => k_is)
    (case dl32 => k_is)
    (case dc32 => k_is)
    (case dk32 => k_is)
    (case z0 => k_is)
    (case z1 => k_is)
    (case z2 => k_is)
    (case z3 => k_is)
    (case z4 => k_is)
    (case z5 => k_is)
    (case z6 => k_is)
    (case z7 => k_is)
    (case z8 => k_is)
    (case z9 => k_is)
    (case z10 => k_is)
    (case z11 => k_is)
    (case z12 => k_is)
    (case z13 => k_is)
    (case z14 => k_is)
    (case z15 => k_is)
    (case k1 => kernel_rfl)
    (case k2 => kernel_rfl)

