import PyProof.Rows.All
import Wide.All
import OpenK.AllK
import Wide.FinOn
import HandS.ForMost
import HandS.ForExc
import HandS.Wide
import HandS.WideBits
import HandS.Deep
import HandS.IsInst
import HandS.Style
import KE.SortData
import HandS.ExcInit
import HandS.Strs
import HandS.Walk
import KE.LtData
import PyProof.ReprRoads
import HandS.SetKeys
import PyProof.DictMoreH
import HandS.DictComp
import PyProof.ReprLen
import HandS.Defaults
import HandS.ExcField
import HandS.More
import KE.KExcIs
import KE.KExcMake
import HandS.TupAny
import HandS.Star
import HandS.Conv
import HandS.Iter
import KE.GoesMore
import PyProof.Draws
import HandS.MakeKw
import HandS.WordsExc
import HandS.ExcOwn
import HandS.ExcValue
import HandS.Dict
import HandS.TupMul
import PyProof.StrBlock2
import HandS.HeadEnd
import PySem.Challenge.RW_depthquestions_k25_kinds_refused
set_option Elab.async false
set_option linter.all false
set_option maxRecDepth 100000
set_option maxHeartbeats 4000000
namespace DQ
open PySem PySem.Spec PyProof.Rows L2
def topS (i : Nat) : Stmt := PySem.Challenge.pw_depthquestions_k25_kinds_refused.main.body.getD i (.Pass ⟨0, 0, 0, 0⟩)
abbrev sHash : Stmt := topS 51
abbrev sRandom : Stmt := topS 52
abbrev sCell : Stmt := topS 53
abbrev sGenerator : Stmt := topS 54
theorem scHash : FnScope ["seed", "index", "mixed"] ["seed", "index"] (defScope sHash) := ⟨rfl, rfl, rfl, by decide +kernel, rfl, by decide +kernel, by decide +kernel⟩
theorem scRandom : FnScope ["generator", "bound", "drawn", "turn"] ["generator", "bound"] (defScope sRandom) := ⟨rfl, rfl, rfl, by decide +kernel, rfl, by decide +kernel, by decide +kernel⟩
theorem scCell : FnScope ["script", "index"] ["script", "index"] (defScope sCell) := ⟨rfl, rfl, rfl, by decide +kernel, rfl, by decide +kernel, by decide +kernel⟩
theorem scGenerator : FnScope ["script", "index", "seed"] ["script", "index"] (defScope sGenerator) := ⟨rfl, rfl, rfl, by decide +kernel, rfl, by decide +kernel, by decide +kernel⟩
theorem opr_mono {X : Cx} {f : Value → Value → Sem Value} {r r' : R2} (h : OpR X f r) (m : ∀ x y H Q, r' x y H Q → r x y H Q) : OpR X f r' := fun pins s σ H x y v u Q I rx ry q => h pins s σ H x y v u Q I rx ry (m x y H Q q)
/-- a remainder: a letter in its range -/
def rModL : R2 := fun x y H Q => ∃ i j, x = .int i ∧ y = .int j ∧ 0 < j ∧ ∀ r : Int, 0 ≤ r → r < j → r = i % j → Q (.int r) H
theorem op_modL {X : Cx} : OpR X (binaryOp .Mod) rModL := opr_mono op_mod fun x y H Q ⟨i, j, e1, e2, hj, q⟩ => ⟨i, j, e1, e2, hj, q _ (Int.emod_nonneg _ (by omega)) (Int.emod_lt_of_pos _ hj) rfl⟩
section
variable {P : Program} {w : World} {K : PySem.W.Frag} {mg : Str → Option Value} {base : Heap}
/-- the hash: some number below its modulus -/
def spHash : Sp := fun vs H Q _ => ∃ a b : Int, vs = [.int a, .int b] ∧ 0 ≤ a ∧ a < 2147483648 ∧ 0 ≤ b ∧ b ≤ 1073741824 ∧ ∀ r : Int, 0 ≤ r → r < 2147483647 → Q (.int r) H
theorem ok_hash {f : Addr} {fd : FuncData} (F : Fun K "_law_hash" "_law_hash" sHash f fd) (mi : mg "int" = none) : FnOk P w K mg base CX0 1 f fd ["seed", "index"] spHash := by
  refine F.ok scHash (fun vs H Q E h => ?_) (fun cdv A outer s H vs Q E hr h => ?_)
  · obtain ⟨a, b, rfl, _⟩ := h
    rfl
  · obtain ⟨a, b, rfl, ha, ha2, hb, hb2, q⟩ := h
    refine ⟨_, pss_cons (ps_set (i := 2) scHash.nd rfl (.inl rfl)
        (pe_op op_modL (pe_callTy call_int1 (by rfl) mi (by decide +kernel) (pa_cons
          (pe_op op_add (pe_op op_add (pe_op op_add (pe_op op_mul (pv 0) pe_int) (pe_op op_mul (pe_op op_mul pe_int (pv 1)) (pv 1))) (pe_op op_mul pe_int (pv 1))) pe_int) pa_nil)) pe_int))
      (pss_cons (ps_set (i := 2) scHash.nd rfl (.inl rfl)
        (pe_op op_modL (pe_callTy call_int1 (by rfl) mi (by decide +kernel) (pa_cons
          (pe_op op_add (pe_op op_add (pe_op op_mul (pv 2) (pv 2)) (pe_op op_mul pe_int (pv 1))) pe_int) pa_nil)) pe_int))
      (pss_one (ps_ret (pe_op op_modL (pe_callTy call_int1 (by rfl) mi (by decide +kernel) (pa_cons (pe_op op_mul (pv 2) pe_int) pa_nil)) pe_int)))), ?_⟩
    -- seed * c + c * index * index + c * index + c
    refine ⟨_, rfl, _, _, rfl, rfl, .inl ⟨by omega, by omega⟩, ?_⟩
    refine ⟨_, rfl, _, _, rfl, rfl, .inl ⟨by omega, by omega⟩, ?_⟩
    refine ⟨_, rfl, _, _, rfl, rfl, .inl ⟨by omega, by omega⟩, ?_⟩
    refine ⟨_, _, rfl, rfl, _, rfl, _, _, rfl, rfl, .inl ⟨by omega, by omega⟩, ?_⟩
    refine ⟨_, _, rfl, rfl, _, _, rfl, rfl, .inl ⟨_, rfl, _, _, rfl, rfl, by decide, fun m h0 h1 _ => ?_⟩⟩
    -- mixed * mixed + c * index + c
    refine ⟨_, rfl, _, rfl, _, _, rfl, rfl, .inl ⟨by omega, by omega⟩, ?_⟩
    refine ⟨_, rfl, _, _, rfl, rfl, .inl ⟨by omega, by omega⟩, ?_⟩
    refine ⟨_, _, rfl, rfl, _, _, rfl, rfl, .inl ⟨_, rfl, _, _, rfl, rfl, by decide, fun n h2 h3 _ => ?_⟩⟩
    refine ⟨_, rfl, _, _, rfl, rfl, .inl ⟨by omega, by omega⟩, .inl ⟨_, rfl, _, _, rfl, rfl, by decide, fun r h4 h5 _ => q r h4 h5⟩⟩
/-- the generator at g: three numbers, the count of hashed draws at most n -/
def Gen (H : Hp) (g : Addr) (n : Int) : Prop := ∃ a b c : Int, H g = some (.lst [.int a, .int b, .int c]) ∧ 0 ≤ a ∧ a.natAbs < 2 ^ 2000 ∧ 0 ≤ b ∧ b < 2147483647 ∧ 0 ≤ c ∧ c ≤ n
theorem Gen.mono {H : Hp} {g : Addr} {n m : Int} (h : Gen H g n) (k : n ≤ m) : Gen H g m := by
  obtain ⟨a, b, c, e, h1, h2, h3, h4, h5, h6⟩ := h
  exact ⟨a, b, c, e, h1, h2, h3, h4, h5, by omega⟩
/-- all but what stands at g is as it was -/
def But (g : Addr) (H H' : Hp) : Prop := ∀ b, b ≠ g → H' b = H b
def spRandom : Sp := fun vs H Q _ => ∃ (g : Addr) (m n : Int), vs = [.ref g, .int m] ∧ Gen H g n ∧ 1 ≤ m ∧ m < 618970019642690137449562112 ∧ n + 3 ≤ 1073741824 ∧
  ∀ (r : Int) (H' : Hp), 0 ≤ r → r < m → Gen H' g (n + 3) → But g H H' → Q (.int r) H'
/-- how great the drawn number is after so many turns -/
def top : Nat → Int
  | 0 => 1
  | 1 => 4294967296
  | 2 => 18446744073709551616
  | _ => 79228162514264337593543950336
theorem top_next {d : Int} {i : Nat} (d0 : 0 ≤ d) (h : d < top i) (hi : i < 3) : d < 79228162514264337593543950336 ∧ ∀ r : Int, r < 2147483647 → d * 2147483587 + r < top (i + 1) := by
  match i, hi with
  | 0, _ => simp only [top] at h ⊢; exact ⟨by omega, fun r hr => by omega⟩
  | 1, _ => simp only [top] at h ⊢; exact ⟨by omega, fun r hr => by omega⟩
  | 2, _ => simp only [top] at h ⊢; exact ⟨by omega, fun r hr => by omega⟩
theorem gen_set {H : Hp} {g : Addr} {o : HO} : But g H (upd H g o) := fun _ h => upd_ne h
theorem ok_random {f fh : Addr} {fd fdh : FuncData} (F : Fun K "_law_random" "_law_random" sRandom f fd) (G : FnOk P w K mg base CX0 1 fh fdh ["seed", "index"] spHash) (bh : Binds K fdh ["seed", "index"] []) (kh : PySem.W.keepIn K (.ref fh) = true) (mh : mg "_law_hash" = some (.ref fh))
    (mi : mg "int" = none) (mr : mg "range" = none) : FnOk P w K mg base CX0 2 f fd ["generator", "bound"] spRandom := by
  refine F.ok scRandom (fun vs H Q E h => ?_) (fun cdv A outer s H vs Q E hr h => ?_)
  · obtain ⟨g, m, n, rfl, _⟩ := h
    rfl
  obtain ⟨g, m, n, rfl, ⟨a, b, c, eg, a0, a1, b0, b1, c0, c1⟩, m1, m2, hn, q⟩ := h
  have nd := scRandom.nd
  refine ⟨_, pss_cons (ps_if (pt_cmpR op_gt (pe_ix ix_list (pv 0) pe_int (fun _ _ => rfl)) pe_int (nomark _))
      (pss_cons (ps_set (i := 2) nd rfl (.inl rfl) (pe_op op_modL (pe_callTy call_int1 (by rfl) mi (by decide +kernel) (pa_cons (pe_ix ix_list (pv 0) pe_int (fun _ _ => rfl)) pa_nil)) (pv 1)))
      (pss_cons (ps_asg (pe_op op_fdivW (pe_ix ix_list (pv 0) pe_int (fun _ _ => rfl)) (pv 1)) (pg_sub (pv 0) pe_int set_list))
      (pss_one (ps_ret (pv 2))))) pss_nil)
    (pss_cons (ps_set (i := 2) nd rfl (.inl rfl) pe_int)
    (pss_cons (ps_for PassesOwn.never rfl (pi_range1 (by rfl) mr (pa_cons (pe_op op_add pe_int (pe_op op_fdiv (pe_bits (pv 1)) pe_int)) pa_nil)) (pg_name (i := 3) nd rfl (.inl rfl))
      (pss_cons (ps_asg (pe_op op_add (pe_ix ix_list (pv 0) pe_int (fun _ _ => rfl)) pe_int) (pg_sub (pv 0) pe_int set_list))
      (pss_one (ps_set (i := 2) nd rfl (.inl rfl) (pe_op op_add (pe_op op_mulW (pv 2) pe_int)
        (pe_call G (hr.mono (by decide)) rfl mh kh bh .nil pass0 (pa_cons (pe_ix ix_list (pv 0) pe_int (fun _ _ => rfl)) (pa_cons (pe_ix ix_list (pv 0) pe_int (fun _ _ => rfl)) pa_nil))))))))
    (pss_one (ps_ret (pe_op op_modL (pe_callTy call_int1 (by rfl) mi (by decide +kernel) (pa_cons (pv 2) pa_nil)) (pv 1)))))), ?_⟩
  have L : SqL K H g [.int a, .int b, .int c] := SqL.of eg
  refine ⟨_, rfl, g, _, _, _, rfl, rfl, L, rfl, _, _, rfl, rfl, _, rfl, ite2 (fun ha => ?_) fun ha => ?_⟩
  · -- digits of the seed
    refine ⟨_, rfl, g, _, _, _, rfl, rfl, L, rfl, .inl ⟨_, rfl, _, rfl, _, _, rfl, rfl, by omega, fun r r0 r1 _ => ?_⟩⟩
    refine ⟨_, rfl, g, _, _, _, rfl, rfl, L, rfl, _, rfl, _, _, rfl, rfl, wide_div (b := 90) (by omega) (by omega) (by decide) (by decide), _, rfl, g, _, _, _, rfl, rfl, eg, rfl, ?_⟩
    refine ⟨_, rfl, ?_⟩
    refine q r _ r0 r1 ⟨_, _, _, upd_same, Int.ediv_nonneg a0 (by omega), ?_, b0, b1, c0, by omega⟩ gen_set
    have h1 : a / m ≤ a := Int.ediv_le_self _ a0
    have h2 : 0 ≤ a / m := Int.ediv_nonneg a0 (by omega)
    exact wide_le h2 h1 a1
  · -- hashed
    have hb1 := intBits_le (a := m) (k := 89) (by omega)
    have hb0 : (0 : Int) ≤ ((Builtin.Int.intBits m : Nat) : Int) := Int.natCast_nonneg _
    have hb2 : ((Builtin.Int.intBits m : Nat) : Int) / 30 ≤ 2 := by omega
    have hb3 : 0 ≤ ((Builtin.Int.intBits m : Nat) : Int) / 30 := by omega
    refine ⟨_, rfl, _, rfl, _, _, rfl, rfl, ⟨by decide, by decide⟩, _, _, rfl, rfl, _, rfl, by omega, by omega, ?_⟩
    generalize ((Builtin.Int.intBits m : Nat) : Int) / 30 = z at hb2 hb3
    refine for_range (lo := 0) (n := (1 + z).toNat) (fun i σ H1 => ∃ (d : Int) (y : Option V), σ = [some (.ref g), some (.int m), some (.int d), y] ∧ 0 ≤ d ∧ d < top i ∧ (∃ c' : Int, H1 g = some (.lst [.int a, .int b, .int c']) ∧ 0 ≤ c' ∧ c' ≤ c + i) ∧ But g H H1)
      ⟨0, none, rfl, by decide, by decide, ⟨c, eg, c0, by omega⟩, fun _ _ => rfl⟩ (fun i σ H1 hi hP => ?_) (fun σ H1 hP => ?_)
    · obtain ⟨d, y, rfl, d0, d1, ⟨c', e1, c2, c3⟩, bt⟩ := hP
      have L1 : SqL K H1 g [.int a, .int b, .int c'] := SqL.of e1
      -- generator[2] = generator[2] + 1
      refine ⟨_, rfl, g, _, _, _, rfl, rfl, L1, rfl, _, _, rfl, rfl, _, rfl, g, _, _, _, rfl, rfl, e1, rfl, ?_⟩
      have L2 : SqL K (upd H1 g (.lst [.int a, .int b, .int (c' + 1)])) g [.int a, .int b, .int (c' + 1)] := SqL.of upd_same
      have hd := top_next d0 d1 (show i < 3 by omega)
      refine ⟨_, rfl, d, 2147483587, rfl, rfl, wide_mul (a := 96) (b := 32) (by omega) (by decide) (by decide) (by decide) (by decide), ?_⟩
      refine ⟨_, rfl, g, _, _, _, rfl, rfl, L2, rfl, _, rfl, g, _, _, _, rfl, rfl, L2, rfl, ?_⟩
      refine ⟨_, _, rfl, b0, by omega, by omega, by omega, fun r r0 r1 => ?_⟩
      refine ⟨_, _, rfl, rfl, _, _, rfl, by omega, hd.2 r r1, ⟨c' + 1, upd_same, by omega, by omega⟩, fun x hx => ?_⟩
      · rw [upd_ne hx]
        exact bt x hx
    · obtain ⟨d, y, rfl, d0, d1, ⟨c', e1, c2, c3⟩, bt⟩ := hP
      refine ⟨_, rfl, .inl ⟨_, rfl, _, rfl, _, _, rfl, rfl, by omega, fun r r0 r1 _ => ?_⟩⟩
      exact q r _ r0 r1 ⟨a, b, c', e1, a0, a1, b0, b1, c2, by omega⟩ bt
theorem same_new {H : Hp} {p : Addr} {o : HO} (h : H p = none) : Same H (upd H p o) := fun b x e => by
  rw [upd_ne (ne_of_none e h)]
  exact e
def spCell (K : PySem.W.Frag) : Sp := fun vs H Q _ => ∃ (a : Addr) (ns : List Int) (i : Nat), vs = [.ref a, .int i] ∧ SqL K H a (ns.map V.int) ∧ ∀ (r : Int) (H' : Hp), Same H H' → Q (.int r) H'
theorem ok_cell {f : Addr} {fd : FuncData} (F : Fun K "_law_cell" "_law_cell" sCell f fd) (ml : mg "len" = none) (ms : mg "sum" = none) : FnOk P w K mg base CX0 1 f fd ["script", "index"] (spCell K) := by
  refine F.ok scCell (fun vs H Q E h => ?_) (fun cdv A outer s H vs Q E hr h => ?_)
  · obtain ⟨a, ns, i, rfl, _⟩ := h
    rfl
  obtain ⟨a, ns, i, rfl, L, q⟩ := h
  refine ⟨_, pss_cons (ps_if (pt_cmpR op_lt (pv 1) (pe_callB call_len_seq (by rfl) ml PySem.boot_len (pa_cons (pv 0) pa_nil)) (nomark _)) (pss_one (ps_ret (pe_ix ix_list (pv 0) (pv 1) (fun _ _ => rfl)))) pss_nil)
    (pss_one (ps_ret (pe_op op_modL (pe_callB (cr_sum rfl) (by rfl) ms (by decide +kernel) (pa_cons (pe_slice sl_list (pv 0) po_none (po_some pe_int)) pa_nil)) pe_int))), ?_⟩
  refine ⟨_, rfl, _, rfl, a, _, rfl, .inl L, _, _, rfl, rfl, _, rfl, ite2 (fun hi => ?_) fun _ => ?_⟩
  · have hl : i < ns.length := by
      have e := of_decide_eq_true hi
      rw [List.length_map] at e
      omega
    refine ⟨_, rfl, _, rfl, a, _, _, _, rfl, rfl, L, atI_nat (v := .int ns[i]) ?_, q _ _ (Same.refl _)⟩
    rw [List.getElem?_map, List.getElem?_eq_getElem hl]
    rfl
  · refine ⟨_, rfl, 1, rfl, a, _, rfl, L, fun p hp => ?_⟩
    have e : cutV (ns.map V.int) none (some 1) = (ns.take (HT.sIx (ns.map V.int).length (ns.map V.int).length (some 1) - HT.sIx (ns.map V.int).length 0 none) |>.map V.int) := by
      unfold cutV
      rw [HT.sIx_none, List.drop_zero, List.map_take]
    rw [e]
    exact ⟨p, _, rfl, SqL.of upd_same, _, _, rfl, rfl, by decide, fun r _ _ _ => q r _ (same_new hp)⟩
theorem op_powW {X : Cx} : OpR X (binaryOp .Pow) (rI (fun i j => 0 ≤ j ∧ (Builtin.Int.intBits i : Int) * j ≤ 2 ^ 27) fun i j => .int (i ^ j.toNat)) := opI fun _ _ _ _ _ _ _ hc q => pow_int hc.1 hc.2 q
def spGenerator (K : PySem.W.Frag) : Sp := fun vs H Q _ => ∃ (a : Addr) (ns : List Int) (i : Nat), vs = [.ref a, .int i] ∧ i ≤ 100 ∧ SqL K H a (ns.map V.int) ∧ ∀ (p : Addr) (H' : Hp), Same H H' → H p = none → Gen H' p (1000 * i) → Q (.ref p) H'
theorem ok_generator {f fc : Addr} {fd fdc : FuncData} (F : Fun K "_law_generator" "_law_generator" sGenerator f fd) (G : FnOk P w K mg base CX0 1 fc fdc ["script", "index"] (spCell K)) (bc : Binds K fdc ["script", "index"] []) (kc : PySem.W.keepIn K (.ref fc) = true) (mc : mg "_law_cell" = some (.ref fc))
    (mi : mg "int" = none) (mm : mg "max" = none) : FnOk P w K mg base CX0 2 f fd ["script", "index"] (spGenerator K) := by
  refine F.ok scGenerator (fun vs H Q E h => ?_) (fun cdv A outer s H vs Q E hr h => ?_)
  · obtain ⟨a, ns, i, rfl, _⟩ := h
    rfl
  obtain ⟨a, ns, i, rfl, hi, L, q⟩ := h
  refine ⟨_, pss_cons (ps_set (i := 2) scGenerator.nd rfl (.inl rfl) (pe_call G (hr.mono (by decide)) rfl mc kc bc .nil pass0 (pa_cons (pv 0) (pa_cons (pv 1) pa_nil))))
    (pss_one (ps_ret (pe_lst (pa_cons (pe_op op_modL (pe_callTy call_int1 (by rfl) mi (by decide +kernel) (pa_cons (pe_callB (call_max2 rfl) (by rfl) mm (by decide +kernel) (pa_cons (pe_op op_sub (pv 2) (pe_op op_pow pe_int pe_int)) (pa_cons pe_int pa_nil))) pa_nil)) (pe_op op_powW (pe_op op_pow pe_int pe_int) pe_int))
      (pa_cons (pe_op op_modL (pe_callTy call_int1 (by rfl) mi (by decide +kernel) (pa_cons (pv 2) pa_nil)) pe_int) (pa_cons (pe_op op_mul pe_int (pv 1)) pa_nil)))))), ?_⟩
  refine ⟨_, rfl, _, rfl, a, ns, i, rfl, L, fun seed H1 s1 => ?_⟩
  refine ⟨_, rfl, _, _, rfl, rfl, ⟨by decide, by decide, by decide⟩, _, _, rfl, rfl, _, _, rfl, .inl ⟨_, rfl, ?_⟩⟩
  refine ⟨_, _, rfl, rfl, ⟨by decide, by decide, by decide⟩, _, _, rfl, rfl, ⟨by decide, by decide +kernel⟩, ?_⟩
  refine ⟨_, _, rfl, rfl, by decide +kernel, fun x x0 x1 _ => ?_⟩
  refine ⟨_, rfl, .inl ⟨_, rfl, _, _, rfl, rfl, by decide, fun y y0 y1 _ => ?_⟩⟩
  refine ⟨_, rfl, _, _, rfl, rfl, .inl ⟨by decide, by decide⟩, ?_⟩
  refine ⟨by show 3 ≤ sizeLine; decide, fun p hp => ?_⟩
  refine q p _ (s1.trans (same_new hp)) (s1.free hp) ⟨x, y, _, upd_same, x0, ?_, y0, y1, by omega, by omega⟩
  exact wide_le x0 (Int.le_of_lt x1) (by decide +kernel)
end
end DQ

set_option Elab.async false
set_option linter.all false
set_option maxRecDepth 100000
set_option maxHeartbeats 1000000
namespace DQ
open PySem PySem.Spec PyProof.Rows
open L2 (Hp V VK XK R2 OpR SqL SqT Inv RelV Vals HOk Cx)
/-! ### data on the heap, empty dicts among it -/
mutual
inductive Dp (K : PySem.W.Frag) (H : Hp) : V → PyData → Prop
  | non : Dp K H .non .none
  | bl (b : Bool) : Dp K H (.bl b) (.bool b)
  | int (i : Int) : Dp K H (.int i) (.int i)
  | str (x : Str) : Dp K H (.str x) (.str x)
  | lst {a : Addr} {xs : List V} {ds : List PyData} (h : SqL K H a xs) (r : DpAll K H xs ds) : Dp K H (.ref a) (.list ds)
  | tup {a : Addr} {xs : List V} {ds : List PyData} (h : SqT K H a xs) (r : DpAll K H xs ds) : Dp K H (.ref a) (.tuple ds)
  | dct {a : Addr} (h : H a = some (.dK [])) : Dp K H (.ref a) (.dict [])
inductive DpAll (K : PySem.W.Frag) (H : Hp) : List V → List PyData → Prop
  | nil : DpAll K H [] []
  | cons {v : V} {vs : List V} {d : PyData} {ds : List PyData} (h : Dp K H v d) (r : DpAll K H vs ds) : DpAll K H (v :: vs) (d :: ds)
end
mutual
theorem Dp.old {K : PySem.W.Frag} {H : Hp} : ∀ (d : PyData) {v : V}, Dp K H v d → d.hasDict = false → L2.Dp K H v d
  | .none, _, h, _ => by cases h; exact .non
  | .bool b, _, h, _ => by cases h; exact .bl b
  | .int i, _, h, _ => by cases h; exact .int i
  | .str x, _, h, _ => by cases h; exact .str x
  | .list ds, _, h, n => by
    cases h with
    | lst h r => exact .lst h (DpAll.old ds r (by simpa only [PyData.hasDict] using n))
  | .tuple ds, _, h, n => by
    cases h with
    | tup h r => exact .tup h (DpAll.old ds r (by simpa only [PyData.hasDict] using n))
  | .dict _, _, _, n => by simp [PyData.hasDict] at n
theorem DpAll.old {K : PySem.W.Frag} {H : Hp} : ∀ (ds : List PyData) {vs : List V}, DpAll K H vs ds → PyData.hasDictAll ds = false → L2.DpAll K H vs ds
  | [], _, h, _ => by cases h; exact .nil
  | d :: ds, _, h, n => by
    simp only [PyData.hasDictAll, Bool.or_eq_false_iff] at n
    cases h with
    | cons a b => exact .cons (Dp.old d a n.1) (DpAll.old ds b n.2)
end
mutual
theorem Dp.reads {X : Cx} {pins : List (Addr × Obj)} {σ : L2.St} {H : Hp} {s : Shared} (I : Inv X pins σ H s) : ∀ (d : PyData) (v : V) (u : Value), Dp X.K H v d → RelV v u → ∃ as, Reads s.heap u d as
  | .none, _, _, h, r => by cases h; cases r; exact ⟨_, Reads.none⟩
  | .bool b, _, _, h, r => by cases h; cases r; exact ⟨_, Reads.bool b⟩
  | .int i, _, _, h, r => by
    cases h
    obtain ⟨t, rfl⟩ := r
    exact ⟨_, Reads.int i t⟩
  | .str x, _, _, h, r => by
    cases h
    obtain ⟨t, rfl⟩ := r
    exact ⟨_, Reads.str x t⟩
  | .list ds, _, _, h, r => by
    cases h with
    | lst hs ha =>
      obtain rfl : _ = Value.ref _ := r
      obtain ⟨its, rv, ⟨o, n, ho, hc, _, hd⟩, _⟩ := I.list hs
      obtain ⟨as, hr⟩ := DpAll.reads I ds _ its ha rv
      exact ⟨_, Reads.list ho hc hd hr⟩
  | .tuple ds, _, _, h, r => by
    cases h with
    | tup hs ha =>
      obtain rfl : _ = Value.ref _ := r
      obtain ⟨its, rv, ⟨o, ho, hc, n, hd⟩, _⟩ := I.tuple hs
      obtain ⟨as, hr⟩ := DpAll.reads I ds _ its ha rv
      exact ⟨_, Reads.tuple ho hc hd hr⟩
  | .dict kvs, _, _, h, r => by
    cases h with
    | dct hs =>
      obtain rfl : _ = Value.ref _ := r
      obtain ⟨_, _, vs, kv, o, es, ep, ho, ex, hd, _, ps, _⟩ := L2.dk_of I.hok hs
      have e0 : vs = [] := by
        cases kv
        rfl
      subst e0
      have l := PySem.Pairs.length ps
      have e1 : es.toList = [] := List.length_eq_zero_iff.mp (by simpa using l)
      refine ⟨_, Reads.dict ho ex.1 hd (as := []) (bs := []) ?_ ?_⟩
      · rw [e1]
        exact ReadsAll.nil
      · rw [e1]
        exact ReadsAll.nil
theorem DpAll.reads {X : Cx} {pins : List (Addr × Obj)} {σ : L2.St} {H : Hp} {s : Shared} (I : Inv X pins σ H s) : ∀ (ds : List PyData) (vs : List V) (us : List Value), DpAll X.K H vs ds → Vals vs us → ∃ as, ReadsAll s.heap us ds as
  | [], _, _, h, r => by cases h; cases r; exact ⟨_, ReadsAll.nil⟩
  | d :: ds, _, _, h, r => by
    cases h with
    | cons h1 h2 =>
      cases r with
      | cons r1 r2 =>
        obtain ⟨as, q1⟩ := Dp.reads I d _ _ h1 r1
        obtain ⟨bs, q2⟩ := DpAll.reads I ds _ _ h2 r2
        exact ⟨_, ReadsAll.cons q1 q2⟩
end
theorem shaped_plain {d : PyData} (h : SeqAt.shaped d = true) : d.hasDict = false := PyData.hasDict_of_canLay d (SeqAt.canLay_of_shaped h)
section
variable {X : Cx}
def rEqD (K : PySem.W.Frag) : R2 := fun x y H Q => ∃ d e, Dp K H x d ∧ Dp K H y e ∧ SeqAt.shaped d = true ∧ SeqAt.shaped e = true ∧ Q (.bl (PyData.eqv d e)) H
def rNeD (K : PySem.W.Frag) : R2 := fun x y H Q => ∃ d e, Dp K H x d ∧ Dp K H y e ∧ SeqAt.shaped d = true ∧ SeqAt.shaped e = true ∧ Q (.bl (!PyData.eqv d e)) H
theorem op_eqD (hu : X.A.units + 64 < cLine) : OpR X (compareOp .Eq) (rEqD X.K) := opr_mono (L2.op_eqD hu) fun x y H Q ⟨d, e, hd, he, sd, se, q⟩ => ⟨d, e, hd.old d (shaped_plain sd), he.old e (shaped_plain se), sd, se, q⟩
theorem op_neD (hu : X.A.units + 64 < cLine) : OpR X (compareOp .NotEq) (rNeD X.K) := opr_mono (L2.op_neD hu) fun x y H Q ⟨d, e, hd, he, sd, se, q⟩ => ⟨d, e, hd.old d (shaped_plain sd), he.old e (shaped_plain se), sd, se, q⟩
def rInD (K : PySem.W.Frag) : R2 := fun x y H Q => ∃ d ds, Dp K H x d ∧ Dp K H y (.list ds) ∧ SeqAt.shaped d = true ∧ SeqAt.shaped (.list ds) = true ∧ Q (.bl (ds.any fun z => PyData.eqv z d)) H
def rNotInD (K : PySem.W.Frag) : R2 := fun x y H Q => ∃ d ds, Dp K H x d ∧ Dp K H y (.list ds) ∧ SeqAt.shaped d = true ∧ SeqAt.shaped (.list ds) = true ∧ Q (.bl (!ds.any fun z => PyData.eqv z d)) H
theorem op_inD (hu : X.A.units + 65 < cLine) : OpR X (compareOp .In) (rInD X.K) := opr_mono (L2.op_inD hu) fun x y H Q ⟨d, ds, hd, he, sd, se, q⟩ => ⟨d, ds, hd.old d (shaped_plain sd), he.old _ (shaped_plain se), sd, se, q⟩
theorem op_notInD (hu : X.A.units + 65 < cLine) : OpR X (compareOp .NotIn) (rNotInD X.K) := opr_mono (L2.op_notInD hu) fun x y H Q ⟨d, ds, hd, he, sd, se, q⟩ => ⟨d, ds, hd.old d (shaped_plain sd), he.old _ (shaped_plain se), sd, se, q⟩
end
end DQ

set_option Elab.async false
set_option linter.all false
set_option maxRecDepth 100000
set_option maxHeartbeats 4000000
namespace DQ
open PySem PySem.Spec PyProof.Rows L2
abbrev sOrder : Stmt := topS 55
theorem scOrder : FnScope ["generator", "things", "left", "found"] ["generator", "things"] (defScope sOrder) := ⟨rfl, rfl, rfl, by decide +kernel, rfl, by decide +kernel, by decide +kernel⟩
/-! ### data read off the heap -/
theorem dp_ints {K : PySem.W.Frag} {H : Hp} : ∀ ns : List Int, DpAll K H (ns.map V.int) (ns.map PyData.int)
  | [] => .nil
  | n :: r => .cons (.int n) (dp_ints r)
theorem flat_ints : ∀ ns : List Int, PyData.canLayAll0 (ns.map PyData.int) = true ∧ PyData.depthAll (ns.map PyData.int) = 0
  | [] => ⟨rfl, rfl⟩
  | n :: r => ⟨by show (true && PyData.canLayAll0 (r.map PyData.int)) = true; rw [(flat_ints r).1]; rfl, by show max 0 (PyData.depthAll (r.map PyData.int)) = 0; rw [(flat_ints r).2]; rfl⟩
theorem shaped_of {d : PyData} (h1 : d.canLay0 = true) (h2 : d.depth ≤ 64) : SeqAt.shaped d = true := by
  unfold SeqAt.shaped
  rw [h1, decide_eq_true h2]
  rfl
theorem shaped_ints (ns : List Int) : SeqAt.shaped (.list (ns.map PyData.int)) = true := shaped_of (flat_ints ns).1 (by show PyData.depthAll (ns.map PyData.int) + 1 ≤ 64; rw [(flat_ints ns).2]; decide)
/-- all but what stands at g stays, new things may come -/
def Keep (g : Addr) (H H' : Hp) : Prop := ∀ b o, b ≠ g → H b = some o → H' b = some o
theorem Keep.refl (g : Addr) (H : Hp) : Keep g H H := fun _ _ _ h => h
theorem Keep.trans {g : Addr} {H H1 H2 : Hp} (a : Keep g H H1) (b : Keep g H1 H2) : Keep g H H2 := fun c o n h => b c o n (a c o n h)
theorem Keep.of_same {g : Addr} {H H' : Hp} (s : Same H H') : Keep g H H' := fun b o _ h => s b o h
theorem Keep.of_but {g : Addr} {H H' : Hp} (s : But g H H') : Keep g H H' := fun b o n h => (s b n).trans h
theorem Keep.seq {K : PySem.W.Frag} {g a : Addr} {H H' : Hp} {xs : List V} (k : Keep g H H') (ne : a ≠ g) (h : SqL K H a xs) : SqL K H' a xs := by
  rcases h with (h | ⟨o, h⟩) | h
  · exact .inl (.inl (k _ _ ne h))
  · exact .inl (.inr ⟨o, k _ _ ne h⟩)
  · exact .inr h
theorem Gen.at {H : Hp} {g : Addr} {n : Int} (h : Gen H g n) : ∃ o, H g = some o := let ⟨_, _, _, e, _⟩ := h; ⟨_, e⟩
theorem Gen.same {H H' : Hp} {g : Addr} {n : Int} (h : Gen H g n) (s : Same H H') : Gen H' g n := by
  obtain ⟨a, b, c, e, r⟩ := h
  exact ⟨a, b, c, s _ _ e, r⟩
theorem Gen.upd {H : Hp} {g b : Addr} {n : Int} {o : HO} (h : Gen H g n) (ne : g ≠ b) : Gen (upd H b o) g n := by
  obtain ⟨x, y, c, e, r⟩ := h
  exact ⟨x, y, c, by rw [upd_ne ne]; exact e, r⟩
theorem Gen.ne {H : Hp} {g p : Addr} {n : Int} (h : Gen H g n) (hp : H p = none) : p ≠ g := fun e => by
  obtain ⟨o, z⟩ := h.at
  rw [← e, hp] at z
  cases z
theorem But.free {g p : Addr} {H H' : Hp} {n : Int} (k : But g H H') (G : Gen H g n) (h : H p = none) : H' p = none := (k p (G.ne h)).trans h
/-- what was free before is free unless something was put there -/
theorem Keep.free {g p : Addr} {H H' : Hp} (k : Keep g H H') (G : ∃ o, H g = some o) (h : H' p = none) (hg : ∃ o, H' g = some o) : H p = none := by
  by_cases e : p = g
  · obtain ⟨o, z⟩ := hg
    rw [e, z] at h
    cases h
  · cases q : H p with
    | none => rfl
    | some o =>
      rw [k p o e q] at h
      cases h
theorem perm_erase {α : Type} : ∀ {l : List α} {k : Nat} {y : α}, l[k]? = some y → (y :: l.eraseIdx k).Perm l
  | [], k, y, h => by simp at h
  | x :: l, 0, y, h => by
    have e : x = y := by simpa using h
    subst e
    exact List.Perm.refl _
  | x :: l, k + 1, y, h => by
    have h' : l[k]? = some y := by simpa using h
    exact (List.Perm.swap x y (l.eraseIdx k)).trans ((perm_erase h').cons x)
theorem seq_at {r : Int} {m : Nat} (h0 : 0 ≤ r) (h1 : r < m) : seqIndex? r m = some r.toNat := by
  show (if (decide (0 ≤ (if r < 0 then r + m else r)) && decide ((if r < 0 then r + m else r) < m)) = true then some (if r < 0 then r + m else r).toNat else none) = _
  rw [if_neg (show ¬ r < 0 by omega), decide_eq_true h0, decide_eq_true h1]
  rfl
/-- how long the list at l is -/
def size (H : Hp) (l : Addr) : Nat := match H l with
  | some (.lst xs) => xs.length
  | _ => 0
theorem size_of {H : Hp} {l : Addr} {xs : List V} (h : H l = some (.lst xs)) : size H l = xs.length := by
  unfold size
  rw [h]
theorem map_erase {α β : Type} (f : α → β) : ∀ (l : List α) (k : Nat), (l.map f).eraseIdx k = (l.eraseIdx k).map f
  | [], _ => rfl
  | _ :: _, 0 => rfl
  | x :: l, k + 1 => congrArg (f x :: ·) (map_erase f l k)
section
variable {P : Program} {w : World} {K : PySem.W.Frag} {mg : Str → Option Value} {base : Heap}
/-- the same numbers in some order, in a new list -/
def spOrder (K : PySem.W.Frag) : Sp := fun vs H Q _ => ∃ (g t : Addr) (ns : List Int) (n : Int), vs = [.ref g, .ref t] ∧ SqL K H t (ns.map V.int) ∧ t ≠ g ∧ Gen H g n ∧ ns.length ≤ 100 ∧ n + 3 * ns.length ≤ 1073741824 ∧
  ∀ (p : Addr) (ms : List Int) (H' : Hp), ms.Perm ns → Keep g H H' → H p = none → H' p = some (.lst (ms.map V.int)) → Gen H' g (n + 3 * ns.length) → Q (.ref p) H'
theorem ok_order {f fr : Addr} {fd fdr : FuncData} (F : Fun K "_law_drawn_order" "_law_drawn_order" sOrder f fd) (G : FnOk P w K mg base CX0 2 fr fdr ["generator", "bound"] spRandom) (br : Binds K fdr ["generator", "bound"] []) (kr : PySem.W.keepIn K (.ref fr) = true) (mr : mg "_law_random" = some (.ref fr))
    (ml : mg "list" = none) (mn : mg "len" = none) : FnOk P w K mg base CX0 3 f fd ["generator", "things"] (spOrder K) := by
  refine F.ok scOrder (fun vs H Q E h => ?_) (fun cdv A outer s H vs Q E hr h => ?_)
  · obtain ⟨g, t, ns, n, rfl, _⟩ := h
    rfl
  obtain ⟨g, t, ns, n, rfl, L, ntg, gen, h100, hn, q⟩ := h
  have nd := scOrder.nd
  refine ⟨_, pss_cons (ps_par (i := 2) (j := 3) rfl nd rfl rfl (by decide) rfl rfl (pa_cons (pe_callTy call_list_of (by rfl) ml (by decide +kernel) (pa_cons (pv 1) pa_nil)) (pa_cons (pe_lst pa_nil) pa_nil)) (by rfl))
    (pss_cons (ps_while PassesOwn.never (pt_cmpR (op_neD hr.units) (pv 2) (pe_lst pa_nil) (nomark _))
      (pss_one (ps_expr (pe_bm PySem.F.plainAttrs_list PySem.F.slot_list_append PySem.F.type_list_append mt_append (pv 3) (pa_cons
        (pe_bm PySem.F.plainAttrs_list PySem.F.slot_list_pop PySem.F.type_list_pop mt_popAt (pv 2) (pa_cons
          (pe_call G (hr.mono (by decide)) rfl mr kr br .nil pass0 (pa_cons (pv 0) (pa_cons (pe_callB call_len_seq (by rfl) mn PySem.boot_len (pa_cons (pv 2) pa_nil)) pa_nil))) pa_nil)) pa_nil)))))
    (pss_one (ps_ret (pv 3)))), ?_⟩
  refine ⟨_, rfl, t, _, rfl, .inl L, fun l nl => ⟨Nat.zero_le _, fun p np => ⟨_, _, rfl, ?_⟩⟩⟩
  have npl : p ≠ l := fun e => by
    rw [e, upd_same] at np
    cases np
  have np0 : H p = none := by
    rw [upd_ne npl] at np
    exact np
  have nlg : l ≠ g := gen.ne nl
  have npg : p ≠ g := gen.ne np0
  refine while_by (fun σ H' => ∃ ls fs : List Int, σ = [some (.ref g), some (.ref t), some (.ref l), some (.ref p)] ∧ (fs ++ ls).Perm ns ∧ Keep g H H' ∧ H' l = some (.lst (ls.map V.int)) ∧ H' p = some (.lst (fs.map V.int)) ∧ Gen H' g (n + 3 * fs.length)) (fun _ H' => size H' l)
    ⟨ns, [], rfl, List.Perm.refl _, Keep.of_same ((same_new nl).trans (same_new np)), by rw [upd_ne npl.symm, upd_same], upd_same, by simpa using (gen.upd nlg.symm).upd npg.symm⟩ (fun σ H' hP => ?_) fun σ H' Q Q' h hc => ?_
  · obtain ⟨ls, fs, rfl, pm, kp, el, ep, gn⟩ := hP
    refine ⟨_, rfl, Nat.zero_le _, fun e ne => ?_⟩
    have nel : l ≠ e := ne_of_none el ne
    have nep : p ≠ e := ne_of_none ep ne
    have me := same_new ne (o := .lst [])
    refine ⟨_, .list [], .lst (SqL.of (me _ _ el)) (dp_ints ls), .lst (SqL.of upd_same) .nil, shaped_ints ls, by decide +kernel, ?_⟩
    cases ls with
    | nil =>
      refine ⟨false, rfl, ?_⟩
      rw [List.append_nil] at pm
      refine ⟨_, rfl, q p fs _ pm (kp.trans (Keep.of_same me)) np0 (me _ _ ep) ?_⟩
      rw [← pm.length_eq]
      exact gn.same me
    | cons y ys =>
      refine ⟨true, rfl, ?_⟩
      have hlen : (fs ++ y :: ys).length = ns.length := pm.length_eq
      rw [List.length_append, List.length_cons] at hlen
      refine ⟨_, rfl, .inl ⟨rfl, _, SqL.of (me _ _ ep)⟩, _, rfl, .inl ⟨rfl, _, SqL.of (me _ _ el)⟩, _, rfl, _, rfl, l, _, rfl, .inl (SqL.of (me _ _ el)), g, _, _, rfl, gn.same me, ?_, ?_, ?_, fun r H2 r0 r1 gn2 bt => ?_⟩
      · rw [List.length_map, List.length_cons]
        omega
      · rw [List.length_map, List.length_cons]
        omega
      · omega
      rw [List.length_map] at r1
      have hc : (y :: ys).length = ys.length + 1 := rfl
      have hk : r.toNat < (y :: ys).length := by omega
      have el2 : H2 l = some (.lst ((y :: ys).map V.int)) := (bt l nlg).trans (me _ _ el)
      have ep2 : H2 p = some (.lst (fs.map V.int)) := (bt p npg).trans (me _ _ ep)
      have eg : ((y :: ys).map V.int)[r.toNat]? = some (.int ((y :: ys)[r.toNat])) := by
        rw [List.getElem?_map, List.getElem?_eq_getElem hk]
        rfl
      refine ⟨l, _, r, r.toNat, _, rfl, rfl, el2, by omega, by omega, seq_at r0 (by rw [List.length_map]; exact r1), eg, ?_⟩
      refine ⟨p, _, _, rfl, rfl, by rw [upd_ne npl]; exact ep2, ?_, ?_⟩
      · rw [List.length_map]
        exact small1000 (by omega)
      have keep2 : Keep g H H2 := (kp.trans (Keep.of_same me)).trans (Keep.of_but bt)
      refine ⟨⟨(y :: ys).eraseIdx r.toNat, fs ++ [(y :: ys)[r.toNat]], rfl, ?_, fun b o nb eb => ?_, ?_, ?_, ?_⟩, ?_⟩
      · rw [List.append_assoc]
        exact (List.Perm.append_left fs (perm_erase (List.getElem?_eq_getElem hk))).trans pm
      · rw [upd_ne (ne_of_none eb np0), upd_ne (ne_of_none eb nl)]
        exact keep2 b o nb eb
      · rw [upd_ne npl.symm, upd_same, map_erase]
      · rw [upd_same, List.map_append]
        rfl
      · rw [List.length_append, List.length_singleton]
        exact ((gn2.upd nlg.symm).upd npg.symm).mono (by omega)
      · show size _ l < size _ l
        rw [size_of (show upd (upd H2 l _) p _ l = some (.lst _) by rw [upd_ne npl.symm, upd_same]), size_of el, List.length_eraseIdx, if_pos (by rw [List.length_map]; exact hk), List.length_map]
        omega
  · obtain ⟨v, e, l0, hp⟩ := hc
    exact ⟨v, e, l0, fun p hp' => let ⟨d, e', a1, a2, a3, a4, k, e5, z⟩ := hp p hp'; ⟨d, e', a1, a2, a3, a4, k, e5, h _ _ z⟩⟩
end
end DQ

namespace DQ
/-- one-to-one: no first twice, no second twice, all among the items -/
def OneToOne (ns : List Int) (ps : List (Int × Int)) : Prop := (ps.map (·.1)).Nodup ∧ (ps.map (·.2)).Nodup ∧ ∀ p ∈ ps, p.1 ∈ ns ∧ p.2 ∈ ns
theorem OneToOne.sub {ns : List Int} {ps qs : List (Int × Int)} (h : OneToOne ns qs) (s : ps.Sublist qs) : OneToOne ns ps :=
  ⟨(s.map (·.1)).nodup h.1, (s.map (·.2)).nodup h.2.1, fun p hp => h.2.2 p (s.subset hp)⟩
theorem zip_fst_sub : ∀ (l m : List Int), ((l.zip m).map (·.1)).Sublist l
  | [], m => by simp
  | x :: l, [] => by simp
  | x :: l, y :: m => by
    show (x :: (l.zip m).map (·.1)).Sublist (x :: l)
    exact (zip_fst_sub l m).cons₂ x
theorem zip_snd_sub : ∀ (l m : List Int), ((l.zip m).map (·.2)).Sublist m
  | [], m => by simp
  | x :: l, [] => by simp
  | x :: l, y :: m => by
    show (y :: (l.zip m).map (·.2)).Sublist (y :: m)
    exact (zip_snd_sub l m).cons₂ y
theorem oneToOne_zip {ns l m : List Int} (hl : l.Nodup) (hm : m.Nodup) (sl : ∀ x ∈ l, x ∈ ns) (sm : ∀ x ∈ m, x ∈ ns) : OneToOne ns (l.zip m) :=
  ⟨(zip_fst_sub l m).nodup hl, (zip_snd_sub l m).nodup hm, fun p hp => ⟨sl _ ((zip_fst_sub l m).subset (List.mem_map.mpr ⟨p, hp, rfl⟩)), sm _ ((zip_snd_sub l m).subset (List.mem_map.mpr ⟨p, hp, rfl⟩))⟩⟩
/-- no item twice, all of them in m -/
def Inj (l m : List Int) : Prop := l.Nodup ∧ ∀ x ∈ l, x ∈ m
theorem Inj.append {l1 l2 m1 m2 : List Int} (a : Inj l1 m1) (b : Inj l2 m2) (h : (m1 ++ m2).Nodup) : Inj (l1 ++ l2) (m1 ++ m2) := by
  refine ⟨List.nodup_append.mpr ⟨a.1, b.1, fun x hx y hy e => ?_⟩, fun x hx => ?_⟩
  · exact (List.nodup_append.mp h).2.2 x (a.2 x hx) y (b.2 y hy) e
  · rcases List.mem_append.mp hx with z | z
    · exact List.mem_append_left _ (a.2 x z)
    · exact List.mem_append_right _ (b.2 x z)
theorem ring_fst : ∀ (x : Int) (r : List Int), (((x :: r).zip r).map (·.1)) ++ [(x :: r).getLast (by simp)] = x :: r
  | x, [] => rfl
  | x, y :: r => by
    have ih := ring_fst y r
    show x :: ((((y :: r).zip r).map (·.1)) ++ [(x :: y :: r).getLast (by simp)]) = x :: y :: r
    rw [List.getLast_cons (by simp)]
    exact congrArg (x :: ·) ih
theorem ring_snd : ∀ (x : Int) (r : List Int), ((x :: r).zip r).map (·.2) = r
  | x, [] => rfl
  | x, y :: r => congrArg (y :: ·) (ring_snd y r)
/-- the links of one ring, open or closed -/
def ringOf (x : Int) (r : List Int) (closed : Bool) : List (Int × Int) := (x :: r).zip r ++ if closed = true then [((x :: r).getLast (by simp), x)] else []
theorem ring_inj {x : Int} {r : List Int} {closed : Bool} (h : (x :: r).Nodup) : Inj ((ringOf x r closed).map (·.1)) (x :: r) ∧ Inj ((ringOf x r closed).map (·.2)) (x :: r) := by
  unfold ringOf
  cases closed with
  | true =>
    rw [if_pos rfl, List.map_append, List.map_append]
    constructor
    · show Inj (((x :: r).zip r).map (·.1) ++ [(x :: r).getLast (by simp)]) (x :: r)
      rw [ring_fst]
      exact ⟨h, fun _ z => z⟩
    · show Inj (((x :: r).zip r).map (·.2) ++ [x]) (x :: r)
      rw [ring_snd]
      have pm : (r ++ [x]).Perm (x :: r) := List.perm_append_comm
      exact ⟨pm.nodup_iff.mpr h, fun y hy => pm.subset hy⟩
  | false =>
    rw [if_neg (by simp), List.append_nil]
    refine ⟨⟨(zip_fst_sub _ _).nodup h, fun y hy => (zip_fst_sub _ _).subset hy⟩, ?_⟩
    rw [ring_snd]
    exact ⟨(List.nodup_cons.mp h).2, fun y hy => List.mem_cons_of_mem _ hy⟩
theorem inj_oneToOne {ns ms : List Int} {ps : List (Int × Int)} (a : Inj (ps.map (·.1)) ms) (b : Inj (ps.map (·.2)) ms) (h : ∀ x ∈ ms, x ∈ ns) : OneToOne ns ps :=
  ⟨a.1, b.1, fun p hp => ⟨h _ (a.2 _ (List.mem_map.mpr ⟨p, hp, rfl⟩)), h _ (b.2 _ (List.mem_map.mpr ⟨p, hp, rfl⟩))⟩⟩
theorem zip_at {l m : List Int} {i : Nat} {a b : Int} (ha : l[i]? = some a) (hb : m[i]? = some b) : (l.zip m)[i]? = some (a, b) := by
  rw [List.getElem?_zip_eq_some]
  exact ⟨ha, hb⟩
theorem take_next {α : Type} {l : List α} {i : Nat} {x : α} (h : l[i]? = some x) : l.take (i + 1) = l.take i ++ [x] := by
  rw [List.take_add_one, h]
  rfl
theorem sub_skip {α : Type} {ps l : List α} {i : Nat} {x : α} (s : ps.Sublist (l.take i)) (h : l[i]? = some x) : ps.Sublist (l.take (i + 1)) := by
  rw [take_next h]
  exact s.trans (List.sublist_append_left _ _)
theorem sub_put {α : Type} {ps l : List α} {i : Nat} {x : α} (s : ps.Sublist (l.take i)) (h : l[i]? = some x) : (ps ++ [x]).Sublist (l.take (i + 1)) := by
  rw [take_next h]
  exact s.append (List.Sublist.refl _)
end DQ

set_option Elab.async false
set_option linter.all false
set_option maxRecDepth 100000
set_option maxHeartbeats 4000000
namespace DQ
open PySem PySem.Spec PyProof.Rows L2
abbrev sPairs : Stmt := topS 56
abbrev NP : List Str := ["generator", "items", "order", "way", "found", "other", "at", "width", "ring", "place"]
theorem scPairs : FnScope NP ["generator", "items"] (defScope sPairs) := ⟨rfl, rfl, rfl, by decide +kernel, rfl, by decide +kernel, by decide +kernel⟩
/-- the tuples that stand at a list's places -/
def Tups (H : Hp) (rs : List V) (ts : List (List V)) : Prop := Paired (fun (r : V) (t : List V) => ∃ a, r = .ref a ∧ H a = some (.tup t)) rs ts
def pairV (p : Int × Int) : List V := [.int p.1, .int p.2]
/-- tuples stay -/
def TupKeep (H H' : Hp) : Prop := ∀ a t, H a = some (.tup t) → H' a = some (.tup t)
theorem TupKeep.trans {H H1 H2 : Hp} (a : TupKeep H H1) (b : TupKeep H1 H2) : TupKeep H H2 := fun c t h => b c t (a c t h)
theorem tk_same {H H' : Hp} (s : Same H H') : TupKeep H H' := fun a t h => s a _ h
theorem tk_keep {g : Addr} {H H' : Hp} {n : Int} (k : Keep g H H') (G : Gen H g n) : TupKeep H H' := fun a t h => k a _ (fun e => by
  obtain ⟨x, y, z, eg, _⟩ := G
  rw [e, eg] at h
  cases h) h
theorem tk_lst {H : Hp} {D : Addr} {xs ys : List V} (h : H D = some (.lst xs)) : TupKeep H (upd H D (.lst ys)) := fun a t e => by
  rw [upd_ne (ne_of e h (by intro z; cases z))]
  exact e
theorem Tups.keep {H H' : Hp} (k : TupKeep H H') : ∀ {rs : List V} {ts : List (List V)}, Tups H rs ts → Tups H' rs ts
  | _, _, .nil => .nil
  | _, _, .cons ⟨a, e, h⟩ r => .cons ⟨a, e, k _ _ h⟩ (Tups.keep k r)
theorem Tups.put {H : Hp} {a : Addr} {t : List V} (e : H a = some (.tup t)) : ∀ {rs : List V} {ts : List (List V)}, Tups H rs ts → Tups H (rs ++ [.ref a]) (ts ++ [t])
  | _, _, .nil => .cons ⟨a, rfl, e⟩ .nil
  | _, _, .cons h r => .cons h (Tups.put e r)
theorem Tups.append {H : Hp} : ∀ {rs : List V} {ts : List (List V)} {rs' : List V} {ts' : List (List V)}, Tups H rs ts → Tups H rs' ts' → Tups H (rs ++ rs') (ts ++ ts')
  | _, _, _, _, .nil, s => s
  | _, _, _, _, .cons h r, s => .cons h (Tups.append r s)
theorem Keep.upd_new {g b : Addr} {H H' : Hp} {o : HO} (k : Keep g H H') (h : H b = none) : Keep g H (upd H' b o) := fun a x n e => by
  rw [upd_ne (ne_of_none e h)]
  exact k a x n e
theorem at_ints {ms : List Int} {i : Nat} {v : Int} (h : ms[i]? = some v) : atI (ms.map V.int) (0 + (i : Int)) = some (.int v) := by
  rw [Int.zero_add]
  refine atI_nat ?_
  rw [List.getElem?_map, h]
  rfl
theorem at_intsW {ms : List Int} {i w : Nat} {v x : Int} (hw : (w : Int) = x) (h : ms[i + w]? = some v) : atI (ms.map V.int) (0 + (i : Int) + x) = some (.int v) := by
  rw [Int.zero_add, ← hw, show (i : Int) + (w : Int) = ((i + w : Nat) : Int) by omega]
  refine atI_nat ?_
  rw [List.getElem?_map, h]
  rfl
theorem at_ints1 {ms : List Int} {i : Nat} {v : Int} (h : ms[i + 1]? = some v) : atI (ms.map V.int) (0 + (i : Int) + 1) = some (.int v) := at_intsW (w := 1) rfl h
theorem at_last {x : Int} {rr : List Int} : atI ((x :: rr).map V.int) (-1) = some (.int ((x :: rr).getLast (by simp))) := by
  have hl : ((x :: rr).map V.int).length = rr.length + 1 := by rw [List.length_map]; rfl
  have h1 : ixN (rr.length + 1) (-1) = some rr.length := by
    unfold ixN
    rw [if_neg (by decide), if_pos (by omega)]
    exact congrArg some (by omega)
  unfold atI
  rw [hl, h1]
  show ((x :: rr).map V.int)[rr.length]? = _
  rw [List.getElem?_map, List.getElem?_eq_getElem (show rr.length < (x :: rr).length from Nat.lt_succ_self _), List.getLast_eq_getElem]
  rfl
/-- where the walk over the order stands -/
def atOf (σ : L2.St) : Nat := match σ[6]? with
  | some (some (V.int k)) => k.toNat
  | _ => 0
/-- the next ring: at least one item -/
theorem cut_ring {ms : List Int} {k : Nat} {r : Int} (hk : k < ms.length) (h0 : 0 ≤ r) : ∃ x rr, cutV (ms.map V.int) (some (k : Int)) (some ((k : Int) + 1 + r)) = (x :: rr).map V.int ∧ k + (x :: rr).length ≤ ms.length ∧ ms.take k ++ (x :: rr) = ms.take (k + (x :: rr).length) := by
  have e1 : (k : Int) + 1 + r = ((k + 1 + r.toNat : Nat) : Int) := by omega
  have e2 : cutV (ms.map V.int) (some (k : Int)) (some ((k : Int) + 1 + r)) = ((ms.drop k).take (min (k + 1 + r.toNat) ms.length - k)).map V.int := by
    unfold cutV
    rw [e1, show HT.sIx (ms.map V.int).length 0 (some (k : Int)) = min k (ms.map V.int).length from HT.sIx_nat _ 0 k, show HT.sIx (ms.map V.int).length (ms.map V.int).length (some ((k + 1 + r.toNat : Nat) : Int)) = min (k + 1 + r.toNat) (ms.map V.int).length from HT.sIx_nat _ _ _, List.length_map, Nat.min_eq_left (Nat.le_of_lt hk), ← List.map_drop, ← List.map_take]
  rw [e2]
  cases q : (ms.drop k).take (min (k + 1 + r.toNat) ms.length - k) with
  | nil =>
    have z := congrArg List.length q
    rw [List.length_take, List.length_drop, List.length_nil] at z
    omega
  | cons x rr =>
    have z := congrArg List.length q
    rw [List.length_take, List.length_drop] at z
    have z2 : (x :: rr).length = min (k + 1 + r.toNat) ms.length - k := by omega
    refine ⟨x, rr, rfl, by omega, ?_⟩
    rw [List.take_add, z2, q]
section
variable {P : Program} {w : World} {K : PySem.W.Frag} {mg : Str → Option Value} {base : Heap}
def spPairs (K : PySem.W.Frag) : Sp := fun vs H Q _ => ∃ (g t : Addr) (ns : List Int) (n : Int), vs = [.ref g, .ref t] ∧ SqL K H t (ns.map V.int) ∧ t ≠ g ∧ ns.Nodup ∧ Gen H g n ∧ ns.length ≤ 100 ∧ n + 20 * ns.length + 100 ≤ 1073741824 ∧
  ∀ (p : Addr) (rs : List V) (ps : List (Int × Int)) (H' : Hp), OneToOne ns ps → Keep g H H' → H p = none → H' p = some (.lst rs) → Tups H' rs (ps.map pairV) → Gen H' g (n + 20 * ns.length + 100) → Q (.ref p) H'
theorem ok_pairs {f fo fr : Addr} {fd fdo fdr : FuncData} (F : Fun K "_law_drawn_pairs" "_law_drawn_pairs" sPairs f fd)
    (GO : FnOk P w K mg base CX0 3 fo fdo ["generator", "things"] (spOrder K)) (bO : Binds K fdo ["generator", "things"] []) (kO : PySem.W.keepIn K (.ref fo) = true) (mO : mg "_law_drawn_order" = some (.ref fo))
    (GR : FnOk P w K mg base CX0 2 fr fdr ["generator", "bound"] spRandom) (bR : Binds K fdr ["generator", "bound"] []) (kR : PySem.W.keepIn K (.ref fr) = true) (mR : mg "_law_random" = some (.ref fr))
    (mLen : mg "len" = none) (mRange : mg "range" = none) : FnOk P w K mg base CX0 4 f fd ["generator", "items"] (spPairs K) := by
  refine F.ok scPairs (fun vs H Q E h => ?_) (fun cdv A outer s H vs Q E hr h => ?_)
  · obtain ⟨g, t, ns, n, rfl, _⟩ := h
    rfl
  obtain ⟨g, t, ns, n, rfl, L, ntg, nod, gen, h100, hn, q⟩ := h
  have nd := scPairs.nd
  refine ⟨_, (pss_cons (ps_asg (pe_tup (pa_cons (pe_call GO (hr.mono (by decide)) rfl mO kO bO .nil pass0 (pa_cons (pv 0) (pa_cons (pv 1) pa_nil))) (pa_cons (pe_call GR (hr.mono (by decide)) rfl mR kR bR .nil pass0 (pa_cons (pv 0) (pa_cons pe_int pa_nil))) (pa_cons (pe_lst pa_nil) pa_nil)))) (pg_tup rfl (pgs_cons (pg_name (i := 2) nd rfl (.inr rfl)) (pgs_cons (pg_name (i := 3) nd rfl (.inl rfl)) (pgs_cons (pg_name (i := 4) nd rfl (.inl rfl)) pgs_nil)))))
    (pss_cons (ps_if (pt_cmpR op_eq (pv 3) pe_int (nomark _)) (pss_cons (ps_set (i := 5) nd rfl (.inr rfl) (pe_call GO (hr.mono (by decide)) rfl mO kO bO .nil pass0 (pa_cons (pv 0) (pa_cons (pv 1) pa_nil)))) (pss_one (ps_ret (pe_lc (own := [("at", 6)]) (g := gName 6) rfl nd (pi_range1 (by rfl) mRange (pa_cons (pe_callB call_len_seq (by rfl) mLen PySem.boot_len (pa_cons (pv 2) pa_nil)) pa_nil)) (blkOk_by (own := [("at", 6)]) (N := NP) (sc := defScope sPairs) (by decide +kernel)) (fun _ _ _ _ _ => pg_name (i := 6) nd rfl (Or.inl rfl)) (fun _ _ _ _ _ => pts_one (pt_cmpR op_gt (pe_call GR (hr.mono (by decide)) rfl mR kR bR .nil pass0 (pa_cons (pv 0) (pa_cons pe_int pa_nil))) pe_int (nomark _))) (fun _ _ _ _ _ => (pe_tup (pa_cons (pe_ix (r := rIxL K) ix_list (pv 2) (pv 6) (fun _ _ => rfl)) (pa_cons (pe_ix (r := rIxL K) ix_list (pv 5) (pv 6) (fun _ _ => rfl)) pa_nil)))))))) pss_nil)
    (pss_cons (ps_if (pt_cmpR op_eq (pv 3) pe_int (nomark _)) (pss_one (ps_ret (pe_lc (own := [("at", 6)]) (g := gName 6) rfl nd (pi_range1 (by rfl) mRange (pa_cons (pe_op op_sub (pe_callB call_len_seq (by rfl) mLen PySem.boot_len (pa_cons (pv 2) pa_nil)) pe_int) pa_nil)) (blkOk_by (own := [("at", 6)]) (N := NP) (sc := defScope sPairs) (by decide +kernel)) (fun _ _ _ _ _ => pg_name (i := 6) nd rfl (Or.inl rfl)) (fun _ _ _ _ _ => pts_one (pt_cmpR op_gt (pe_call GR (hr.mono (by decide)) rfl mR kR bR .nil pass0 (pa_cons (pv 0) (pa_cons pe_int pa_nil))) pe_int (nomark _))) (fun _ _ _ _ _ => (pe_tup (pa_cons (pe_ix (r := rIxL K) ix_list (pv 2) (pv 6) (fun _ _ => rfl)) (pa_cons (pe_ix (r := rIxL K) ix_list (pv 2) (pe_op op_add (pv 6) pe_int) (fun _ _ => rfl)) pa_nil))))))) pss_nil)
    (pss_cons (ps_if (pt_cmpR op_eq (pv 3) pe_int (nomark _)) (pss_cons (ps_set (i := 7) nd rfl (.inr rfl) (pe_op op_add pe_int (pe_call GR (hr.mono (by decide)) rfl mR kR bR .nil pass0 (pa_cons (pv 0) (pa_cons pe_int pa_nil))))) (pss_one (ps_ret (pe_lc (own := [("at", 6)]) (g := gName 6) (tt := tYes) rfl nd (pi_range1 (by rfl) mRange (pa_cons (pe_op op_sub (pe_callB call_len_seq (by rfl) mLen PySem.boot_len (pa_cons (pv 1) pa_nil)) (pv 7)) pa_nil)) (blkOk_by (own := [("at", 6)]) (N := NP) (sc := defScope sPairs) (by decide +kernel)) (fun _ _ _ _ _ => pg_name (i := 6) nd rfl (Or.inl rfl)) (fun _ _ _ _ _ => pts_nil) (fun _ _ _ _ _ => (pe_tup (pa_cons (pe_ix (r := rIxL K) ix_list (pv 1) (pv 6) (fun _ _ => rfl)) (pa_cons (pe_ix (r := rIxL K) ix_list (pv 1) (pe_op op_add (pv 6) (pv 7)) (fun _ _ => rfl)) pa_nil)))))))) pss_nil)
    (pss_cons (ps_set (i := 6) nd rfl (.inl rfl) pe_int)
    (pss_cons (ps_while PassesOwn.never (pt_cmpR op_lt (pv 6) (pe_callB call_len_seq (by rfl) mLen PySem.boot_len (pa_cons (pv 2) pa_nil)) (nomark _)) (pss_cons (ps_set (i := 8) nd rfl (.inr rfl) (pe_slice sl_list (pv 2) (po_some (pv 6)) (po_some (pe_op op_add (pe_op op_add (pv 6) pe_int) (pe_call GR (hr.mono (by decide)) rfl mR kR bR .nil pass0 (pa_cons (pv 0) (pa_cons pe_int pa_nil)))))))
      (pss_cons (ps_set (i := 4) nd rfl (.inl rfl) (pe_op op_cat (pv 4) (pe_lc (own := [("place", 9)]) (g := gName 9) (tt := tYes) rfl nd (pi_range1 (by rfl) mRange (pa_cons (pe_op op_sub (pe_callB call_len_seq (by rfl) mLen PySem.boot_len (pa_cons (pv 8) pa_nil)) pe_int) pa_nil)) (blkOk_by (own := [("place", 9)]) (N := NP) (sc := defScope sPairs) (by decide +kernel)) (fun _ _ _ _ _ => pg_name (i := 9) nd rfl (Or.inl rfl)) (fun _ _ _ _ _ => pts_nil) (fun _ _ _ _ _ => (pe_tup (pa_cons (pe_ix (r := rIxL K) ix_list (pv 8) (pv 9) (fun _ _ => rfl)) (pa_cons (pe_ix (r := rIxL K) ix_list (pv 8) (pe_op op_add (pv 9) pe_int) (fun _ _ => rfl)) pa_nil)))))))
      (pss_cons (ps_if (PW.pt (pw_or (pt_cmpR op_eq (pv 3) pe_int (nomark _)) (pw_or1 (pt_cmpR op_eq (pe_call GR (hr.mono (by decide)) rfl mR kR bR .nil pass0 (pa_cons (pv 0) (pa_cons pe_int pa_nil))) pe_int (nomark _))))) (pss_one (ps_expr (pe_bm PySem.F.plainAttrs_list PySem.F.slot_list_append PySem.F.type_list_append mt_append (pv 4) (pa_cons (pe_tup (pa_cons (pe_ix (r := rIxL K) ix_list (pv 8) (pe_un un_neg pe_int) (fun _ _ => rfl)) (pa_cons (pe_ix (r := rIxL K) ix_list (pv 8) pe_int (fun _ _ => rfl)) pa_nil))) pa_nil)))) pss_nil)
      (pss_one (ps_set (i := 6) nd rfl (.inl rfl) (pe_op op_add (pv 6) (pe_callB call_len_seq (by rfl) mLen PySem.boot_len (pa_cons (pv 8) pa_nil)))))))))
    (pss_one (ps_ret (pv 4))))))))), ?_⟩
  refine ⟨_, rfl, _, rfl, g, t, ns, n, rfl, L, ntg, gen, h100, by omega, fun p0 ms H1 pm k1 n0 e0 gen1 => ?_⟩
  refine ⟨_, rfl, g, 5, _, rfl, gen1, by decide, by decide, by omega, fun way H2 w0 w1 gen2 b2 => ?_⟩
  refine ⟨Nat.zero_le _, fun p1 n1 => ⟨by show 3 ≤ sizeLine; decide, fun p2 n2 => ?_⟩⟩
  have m1 := same_new n1 (o := .lst [])
  have e1 : upd H2 p1 (.lst []) p1 = some (.lst []) := upd_same
  generalize upd H2 p1 (.lst []) = H3 at m1 e1 n2 ⊢
  have m2 := same_new n2 (o := .tup [.ref p0, .int way, .ref p1])
  have e2 : upd H3 p2 (.tup [.ref p0, .int way, .ref p1]) p2 = some (.tup [.ref p0, .int way, .ref p1]) := upd_same
  generalize upd H3 p2 (.tup [.ref p0, .int way, .ref p1]) = H4 at m2 e2 ⊢
  refine ⟨p2, [.ref p0, .int way, .ref p1], rfl, .inl (.inl e2), rfl, _, _, rfl, _, _, rfl, _, _, rfl, rfl, ?_⟩
  have np0g : p0 ≠ g := gen.ne n0
  have k4 : Keep g H H4 := (k1.trans (Keep.of_but b2)).trans (Keep.of_same (m1.trans m2))
  have gen4 := (gen2.same m1).same m2
  have o4 : H4 p0 = some (.lst (ms.map V.int)) := m2 _ _ (m1 _ _ ((b2 p0 np0g).trans e0))
  have f4 := m2 _ _ e1
  have L4 : SqL K H4 t (ns.map V.int) := k4.seq ntg L
  have nodm : ms.Nodup := pm.nodup_iff.mpr nod
  have subm : ∀ x ∈ ms, x ∈ ns := fun x hx => pm.subset hx
  have lenm : ms.length = ns.length := pm.length_eq
  have p1free : H p1 = none := by
    refine Keep.free (k1.trans (Keep.of_but b2)) gen.at n1 gen2.at
  -- way == 0
  refine ⟨_, rfl, rfl, _, rfl, ite2 (fun c => ?_) fun c => ?_⟩
  · refine ⟨_, rfl, _, rfl, g, t, ns, _, rfl, L4, ntg, gen4, h100, by omega, fun p5 os H5 pm5 k5 n5 e5 gen5 => ?_⟩
    have o5 : H5 p0 = some (.lst (ms.map V.int)) := k5 _ _ np0g o4
    have np5g : p5 ≠ g := gen4.ne n5
    have leno : os.length = ns.length := pm5.length_eq
    have hm : (((ms.map V.int).length : Nat) : Int).toNat = ms.length := by rw [List.length_map]; omega
    refine ⟨_, rfl, p0, _, rfl, .inl (SqL.of o5), _, rfl, by rw [List.length_map]; omega, by rw [List.length_map]; omega, fun D nD => lc_range (lo := 0) (n := (((ms.map V.int).length : Nat) : Int).toNat) (fun k H' => ∃ (ps : List (Int × Int)) (rs : List V), H' D = some (.lst rs) ∧ rs.length ≤ k ∧ Tups H' rs (ps.map pairV) ∧ ps.Sublist ((ms.zip os).take k) ∧ Keep g H5 H' ∧ Gen H' g (n + 3 * ns.length + 3 + 3 * ns.length + 3 * k))
      ⟨[], [], upd_same, Nat.le_refl _, .nil, List.nil_sublist _, Keep.of_same (same_new nD), (gen5.same (same_new nD)).mono (by omega)⟩ (fun k H' hk hP => ?_) fun H' hP => ?_⟩
    · obtain ⟨ps, rs, eD, hl, tp, sb, kp, gn⟩ := hP
      rw [hm] at hk
      have nDg : D ≠ g := gen5.ne nD
      have ga : ms[k]? = some ms[k] := List.getElem?_eq_getElem hk
      have gb : os[k]? = some (os[k]'(by omega)) := List.getElem?_eq_getElem (by omega)
      have gz := zip_at ga gb
      refine ⟨rfl, _, rfl, g, 3, _, rfl, gn, by decide, by decide, by omega, fun r H6 r0 r1 gn6 bt => ⟨_, _, rfl, rfl, _, rfl, ite2 (fun c2 => ?_) fun c2 => ?_⟩⟩
      · have kp6 : Keep g H5 H6 := kp.trans (Keep.of_but bt)
        have eD6 : H6 D = some (.lst rs) := (bt D nDg).trans eD
        refine ⟨_, rfl, _, rfl, p0, _, _, _, rfl, rfl, SqL.of (kp6 _ _ np0g o5), at_ints ga, _, rfl, _, rfl, p5, _, _, _, rfl, rfl, SqL.of (kp6 _ _ np5g e5), at_ints gb, by show 2 ≤ sizeLine; decide, fun T nT => ?_⟩
        have mT := same_new nT (o := .tup [.int ms[k], .int (os[k]'(by omega))])
        have eT : upd H6 T (.tup [.int ms[k], .int (os[k]'(by omega))]) T = some (.tup [.int ms[k], .int (os[k]'(by omega))]) := upd_same
        generalize upd H6 T (.tup [.int ms[k], .int (os[k]'(by omega))]) = H7 at mT eT ⊢
        have eD7 := mT _ _ eD6
        refine ⟨rs, eD7, small1000 (by omega), ps ++ [(ms[k], os[k]'(by omega))], rs ++ [.ref T], upd_same, ?_, ?_, sub_put sb gz, ?_, ?_⟩
        · rw [List.length_append, List.length_singleton]
          omega
        · rw [List.map_append]
          exact (Tups.put eT ((tp.keep (tk_keep (Keep.of_but bt) gn)).keep (tk_same mT))).keep (tk_lst eD7)
        · exact (kp6.trans (Keep.of_same mT)).upd_new nD
        · exact ((gn6.same mT).upd nDg.symm).mono (by omega)
      · exact ⟨ps, rs, (bt D nDg).trans eD, by omega, tp.keep (tk_keep (Keep.of_but bt) gn), sub_skip sb gz, kp.trans (Keep.of_but bt), gn6.mono (by omega)⟩
    · obtain ⟨ps, rs, eD, hl, tp, sb, kp, gn⟩ := hP
      rw [hm] at sb gn
      have nD4 : H4 D = none := Keep.free k5 gen4.at nD gen5.at
      have nD0 : H D = none := Keep.free k4 gen.at nD4 gen4.at
      exact q D rs ps H' ((oneToOne_zip nodm (pm5.nodup_iff.mpr nod) subm (fun x hx => pm5.subset hx)).sub (sb.trans (List.take_sublist _ _))) ((k4.trans k5).trans kp) nD0 eD tp (gn.mono (by omega))
  -- way == 1
  refine ⟨_, rfl, rfl, _, rfl, ite2 (fun c => ?_) fun c => ?_⟩
  · have hm : ((((ms.map V.int).length : Nat) : Int) - 1).toNat = ms.length - 1 := by rw [List.length_map]; omega
    refine ⟨_, rfl, p0, _, rfl, .inl (SqL.of o4), _, _, rfl, rfl, _, rfl, by rw [List.length_map]; omega, by rw [List.length_map]; omega, fun D nD => lc_range (lo := 0) (n := ((((ms.map V.int).length : Nat) : Int) - 1).toNat) (fun k H' => ∃ (ps : List (Int × Int)) (rs : List V), H' D = some (.lst rs) ∧ rs.length ≤ k ∧ Tups H' rs (ps.map pairV) ∧ ps.Sublist ((ms.zip (ms.drop 1)).take k) ∧ Keep g H4 H' ∧ Gen H' g (n + 3 * ns.length + 3 + 3 * k))
      ⟨[], [], upd_same, Nat.le_refl _, .nil, List.nil_sublist _, Keep.of_same (same_new nD), (gen4.same (same_new nD)).mono (by omega)⟩ (fun k H' hk hP => ?_) fun H' hP => ?_⟩
    · obtain ⟨ps, rs, eD, hl, tp, sb, kp, gn⟩ := hP
      rw [hm] at hk
      have nDg : D ≠ g := gen4.ne nD
      have ga : ms[k]? = some (ms[k]'(by omega)) := List.getElem?_eq_getElem (by omega)
      have gb : ms[k + 1]? = some (ms[k + 1]'(by omega)) := List.getElem?_eq_getElem (by omega)
      have gb' : (ms.drop 1)[k]? = some (ms[k + 1]'(by omega)) := by rw [List.getElem?_drop, Nat.add_comm]; exact gb
      have gz := zip_at ga gb'
      refine ⟨rfl, _, rfl, g, 6, _, rfl, gn, by decide, by decide, by omega, fun r H6 r0 r1 gn6 bt => ⟨_, _, rfl, rfl, _, rfl, ite2 (fun c2 => ?_) fun c2 => ?_⟩⟩
      · have kp6 : Keep g H4 H6 := kp.trans (Keep.of_but bt)
        have eD6 : H6 D = some (.lst rs) := (bt D nDg).trans eD
        refine ⟨_, rfl, _, rfl, p0, _, _, _, rfl, rfl, SqL.of (kp6 _ _ np0g o4), at_ints ga, _, rfl, _, rfl, _, _, rfl, rfl, p0, _, _, _, rfl, rfl, SqL.of (kp6 _ _ np0g o4), at_ints1 gb, by show 2 ≤ sizeLine; decide, fun T nT => ?_⟩
        have mT := same_new nT (o := .tup [.int (ms[k]'(by omega)), .int (ms[k + 1]'(by omega))])
        have eT : upd H6 T (.tup [.int (ms[k]'(by omega)), .int (ms[k + 1]'(by omega))]) T = some (.tup [.int (ms[k]'(by omega)), .int (ms[k + 1]'(by omega))]) := upd_same
        generalize upd H6 T (.tup [.int (ms[k]'(by omega)), .int (ms[k + 1]'(by omega))]) = H7 at mT eT ⊢
        have eD7 := mT _ _ eD6
        refine ⟨rs, eD7, small1000 (by omega), ps ++ [(ms[k]'(by omega), ms[k + 1]'(by omega))], rs ++ [.ref T], upd_same, ?_, ?_, sub_put sb gz, ?_, ?_⟩
        · rw [List.length_append, List.length_singleton]
          omega
        · rw [List.map_append]
          exact (Tups.put eT ((tp.keep (tk_keep (Keep.of_but bt) gn)).keep (tk_same mT))).keep (tk_lst eD7)
        · exact (kp6.trans (Keep.of_same mT)).upd_new nD
        · exact ((gn6.same mT).upd nDg.symm).mono (by omega)
      · exact ⟨ps, rs, (bt D nDg).trans eD, by omega, tp.keep (tk_keep (Keep.of_but bt) gn), sub_skip sb gz, kp.trans (Keep.of_but bt), gn6.mono (by omega)⟩
    · obtain ⟨ps, rs, eD, hl, tp, sb, kp, gn⟩ := hP
      rw [hm] at sb gn
      have nD0 : H D = none := Keep.free k4 gen.at nD gen4.at
      exact q D rs ps H' ((oneToOne_zip nodm ((List.drop_sublist 1 ms).nodup nodm) subm (fun x hx => subm x ((List.drop_sublist 1 ms).subset hx))).sub (sb.trans (List.take_sublist _ _))) (k4.trans kp) nD0 eD tp (gn.mono (by omega))
  -- way == 2
  refine ⟨_, rfl, rfl, _, rfl, ite2 (fun c => ?_) fun c => ?_⟩
  · refine ⟨_, rfl, g, 4, _, rfl, gen4, by decide, by decide, by omega, fun r H5 r0 r1 gen5 b5 => ⟨_, _, rfl, rfl, ?_⟩⟩
    have k5 : Keep g H4 H5 := Keep.of_but b5
    have L5 : SqL K H5 t (ns.map V.int) := k5.seq ntg L4
    have hm : ((((ns.map V.int).length : Nat) : Int) - (1 + r)).toNat = ns.length - (1 + r).toNat := by rw [List.length_map]; omega
    refine ⟨_, rfl, t, _, rfl, .inl L5, _, rfl, _, _, rfl, rfl, _, rfl, by rw [List.length_map]; omega, by rw [List.length_map]; omega, fun D nD => lc_range (lo := 0) (n := ((((ns.map V.int).length : Nat) : Int) - (1 + r)).toNat) (fun k H' => ∃ (ps : List (Int × Int)) (rs : List V), H' D = some (.lst rs) ∧ rs.length ≤ k ∧ Tups H' rs (ps.map pairV) ∧ ps.Sublist ((ns.zip (ns.drop (1 + r).toNat)).take k) ∧ Keep g H5 H' ∧ Gen H' g (n + 3 * ns.length + 6))
      ⟨[], [], upd_same, Nat.le_refl _, .nil, List.nil_sublist _, Keep.of_same (same_new nD), (gen5.same (same_new nD)).mono (by omega)⟩ (fun k H' hk hP => ?_) fun H' hP => ?_⟩
    · obtain ⟨ps, rs, eD, hl, tp, sb, kp, gn⟩ := hP
      rw [hm] at hk
      have nDg : D ≠ g := gen5.ne nD
      have hw : (((1 + r).toNat : Nat) : Int) = 1 + r := by omega
      have ga : ns[k]? = some (ns[k]'(by omega)) := List.getElem?_eq_getElem (by omega)
      have gb : ns[k + (1 + r).toNat]? = some (ns[k + (1 + r).toNat]'(by omega)) := List.getElem?_eq_getElem (by omega)
      have gb' : (ns.drop (1 + r).toNat)[k]? = some (ns[k + (1 + r).toNat]'(by omega)) := by rw [List.getElem?_drop, Nat.add_comm]; exact gb
      have gz := zip_at ga gb'
      refine ⟨rfl, _, rfl, _, rfl, t, _, _, _, rfl, rfl, kp.seq ntg L5, at_ints ga, _, rfl, _, rfl, _, rfl, _, _, rfl, rfl, t, _, _, _, rfl, rfl, kp.seq ntg L5, at_intsW hw gb, by show 2 ≤ sizeLine; decide, fun T nT => ?_⟩
      have mT := same_new nT (o := .tup [.int (ns[k]'(by omega)), .int (ns[k + (1 + r).toNat]'(by omega))])
      have eT : upd H' T (.tup [.int (ns[k]'(by omega)), .int (ns[k + (1 + r).toNat]'(by omega))]) T = some (.tup [.int (ns[k]'(by omega)), .int (ns[k + (1 + r).toNat]'(by omega))]) := upd_same
      generalize upd H' T (.tup [.int (ns[k]'(by omega)), .int (ns[k + (1 + r).toNat]'(by omega))]) = H7 at mT eT ⊢
      have eD7 := mT _ _ eD
      refine ⟨rs, eD7, small1000 (by omega), ps ++ [(ns[k]'(by omega), ns[k + (1 + r).toNat]'(by omega))], rs ++ [.ref T], upd_same, ?_, ?_, sub_put sb gz, ?_, ?_⟩
      · rw [List.length_append, List.length_singleton]
        omega
      · rw [List.map_append]
        exact (Tups.put eT (tp.keep (tk_same mT))).keep (tk_lst eD7)
      · exact (kp.trans (Keep.of_same mT)).upd_new nD
      · exact (gn.same mT).upd nDg.symm
    · obtain ⟨ps, rs, eD, hl, tp, sb, kp, gn⟩ := hP
      have nD4 : H4 D = none := Keep.free k5 gen4.at nD gen5.at
      have nD0 : H D = none := Keep.free k4 gen.at nD4 gen4.at
      exact q D rs ps H' ((oneToOne_zip nod ((List.drop_sublist _ ns).nodup nod) (fun _ z => z) (fun x hx => (List.drop_sublist _ ns).subset hx)).sub (sb.trans (List.take_sublist _ _))) ((k4.trans k5).trans kp) nD0 eD tp (gn.mono (by omega))
  -- at = 0
  refine while_by (fun σ H' => ∃ (k : Nat) (pf : Addr) (ps : List (Int × Int)) (rs : List V) (y : Option V), σ = [some (.ref g), some (.ref t), some (.ref p0), some (.int way), some (.ref pf), none, some (.int k), none, y, none] ∧ k ≤ ms.length ∧ H pf = none ∧ H' pf = some (.lst rs) ∧ rs.length ≤ 2 * k ∧ Tups H' rs (ps.map pairV) ∧ Inj (ps.map (·.1)) (ms.take k) ∧ Inj (ps.map (·.2)) (ms.take k) ∧ Keep g H4 H' ∧ Gen H' g (n + 3 * ns.length + 3 + 6 * k)) (fun σ _ => ms.length - atOf σ)
    ⟨0, p1, [], [], none, rfl, Nat.zero_le _, p1free, f4, Nat.le_refl _, .nil, ⟨List.nodup_nil, fun _ h => by cases h⟩, ⟨List.nodup_nil, fun _ h => by cases h⟩, Keep.refl g H4, gen4.mono (by omega)⟩ (fun σ H' hP => ?_) fun σ H' Q Q' h hc => ?_
  · obtain ⟨k, pf, ps, rs, y, rfl, hk, npf, ef, hl, tp, j1, j2, kp, gn⟩ := hP
    have o5 : H' p0 = some (.lst (ms.map V.int)) := kp _ _ np0g o4
    refine ⟨_, rfl, _, rfl, p0, _, rfl, .inl (SqL.of o5), _, _, rfl, rfl, _, rfl, ite2 (fun c => ?_) fun c => ?_⟩
    · have hk' : k < ms.length := by
        have z := of_decide_eq_true c
        rw [List.length_map] at z
        omega
      refine ⟨_, rfl, _, rfl, _, rfl, _, rfl, _, _, rfl, rfl, _, rfl, g, 5, _, rfl, gn, by decide, by decide, by omega, fun r H6 r0 r1 gn6 b6 => ⟨_, _, rfl, rfl, _, rfl, p0, _, rfl, SqL.of ((b6 p0 np0g).trans o5), fun pr nr => ?_⟩⟩
      obtain ⟨x, rr, er, hr2, htk⟩ := cut_ring (r := r) hk' r0
      have k6 : Keep g H4 H6 := kp.trans (Keep.of_but b6)
      rw [er]
      have npr0 : pr ≠ g := gn6.ne nr
      have mr := same_new nr (o := .lst ((x :: rr).map V.int))
      have er7 : upd H6 pr (.lst ((x :: rr).map V.int)) pr = some (.lst ((x :: rr).map V.int)) := upd_same
      generalize upd H6 pr (.lst ((x :: rr).map V.int)) = H7 at mr er7 ⊢
      have k7 : Keep g H4 H7 := k6.trans (Keep.of_same mr)
      have gn7 := gn6.same mr
      have pfg : pf ≠ g := gen.ne npf
      have ef7 : H7 pf = some (.lst rs) := mr _ _ ((b6 pf pfg).trans ef)
      have tp7 := (tp.keep (tk_keep (Keep.of_but b6) gn)).keep (tk_same mr)
      have hlr : (x :: rr).length = rr.length + 1 := rfl
      have hm : (((((x :: rr).map V.int).length : Nat) : Int) - 1).toNat = rr.length := by rw [List.length_map]; omega
      -- found = found + [..]
      refine ⟨_, rfl, _, rfl, pr, _, rfl, .inl (SqL.of er7), _, _, rfl, rfl, _, rfl, by rw [List.length_map]; omega, by rw [List.length_map]; omega, fun D nD => lc_range (lo := 0) (n := (((((x :: rr).map V.int).length : Nat) : Int) - 1).toNat) (fun j H' => ∃ (rs' : List V), H' D = some (.lst rs') ∧ rs'.length ≤ j ∧ Tups H' rs' ((((x :: rr).zip rr).take j).map pairV) ∧ Keep g H7 H' ∧ Gen H' g (n + 3 * ns.length + 3 + 6 * k + 3))
        ⟨[], upd_same, Nat.le_refl _, .nil, Keep.of_same (same_new nD), gn7.same (same_new nD)⟩ (fun j H' hj hP => ?_) fun H8 hP => ?_⟩
      · obtain ⟨rs', eD, hl', tp', kp', gn'⟩ := hP
        rw [hm] at hj
        have nDg : D ≠ g := gn7.ne nD
        have ga : (x :: rr)[j]? = some ((x :: rr)[j]'(by omega)) := List.getElem?_eq_getElem (by omega)
        have gb : (x :: rr)[j + 1]? = some (rr[j]'hj) := by rw [List.getElem?_cons_succ]; exact List.getElem?_eq_getElem hj
        have gz := zip_at ga (List.getElem?_eq_getElem hj)
        refine ⟨rfl, _, rfl, _, rfl, pr, _, _, _, rfl, rfl, SqL.of (kp' _ _ npr0 er7), at_ints ga, _, rfl, _, rfl, _, _, rfl, rfl, pr, _, _, _, rfl, rfl, SqL.of (kp' _ _ npr0 er7), at_ints1 gb, by show 2 ≤ sizeLine; decide, fun T nT => ?_⟩
        have mT := same_new nT (o := .tup [.int ((x :: rr)[j]'(by omega)), .int (rr[j]'hj)])
        have eT : upd H' T (.tup [.int ((x :: rr)[j]'(by omega)), .int (rr[j]'hj)]) T = some (.tup [.int ((x :: rr)[j]'(by omega)), .int (rr[j]'hj)]) := upd_same
        generalize upd H' T (.tup [.int ((x :: rr)[j]'(by omega)), .int (rr[j]'hj)]) = H9 at mT eT ⊢
        have eD9 := mT _ _ eD
        refine ⟨rs', eD9, small1000 (by omega), rs' ++ [.ref T], upd_same, ?_, ?_, (kp'.trans (Keep.of_same mT)).upd_new nD, (gn'.same mT).upd nDg.symm⟩
        · rw [List.length_append, List.length_singleton]
          omega
        · rw [take_next gz, List.map_append]
          exact (Tups.put eT (tp'.keep (tk_same mT))).keep (tk_lst eD9)
      obtain ⟨rs', eD, hl', tp', kp', gn'⟩ := hP
      rw [hm] at hl' tp'
      rw [List.take_of_length_le (by rw [List.length_zip]; omega)] at tp'
      have npD : pf ≠ D := ne_of_none ef7 nD
      have ef8 := kp' _ _ pfg ef7
      refine ⟨pf, D, _, _, rfl, rfl, ef8, eD, Nat.le_trans (show rs.length + rs'.length ≤ 1000 by omega) (by decide), fun p7 n7 => ?_⟩
      have m7 := same_new n7 (o := .lst (rs ++ rs'))
      have e7 : upd H8 p7 (.lst (rs ++ rs')) p7 = some (.lst (rs ++ rs')) := upd_same
      generalize upd H8 p7 (.lst (rs ++ rs')) = H9 at m7 e7 ⊢
      have k9 : Keep g H4 H9 := (k7.trans kp').trans (Keep.of_same m7)
      have gn9 := gn'.same m7
      have tp9 : Tups H9 (rs ++ rs') ((ps ++ (x :: rr).zip rr).map pairV) := by
        rw [List.map_append]
        exact (Tups.append (tp7.keep (tk_keep kp' gn7)) tp').keep (tk_same m7)
      have er9 : H9 pr = some (.lst ((x :: rr).map V.int)) := m7 _ _ (kp' _ _ npr0 er7)
      have n74 : H4 p7 = none := Keep.free (k7.trans kp') gen4.at n7 gn'.at
      have n70 : H p7 = none := Keep.free k4 gen.at n74 gen4.at
      have n7g : p7 ≠ g := gen.ne n70
      have nodx : (ms.take k ++ (x :: rr)).Nodup := by
        rw [htk]
        exact (List.take_sublist _ _).nodup nodm
      have nodr : (x :: rr).Nodup := (List.nodup_append.mp nodx).2.1
      -- the turn's end
      have fin : ∀ (cl : Bool) (rs8 : List V) (H8 : Hp), H8 p7 = some (.lst rs8) → rs8.length ≤ 2 * (k + (x :: rr).length) → Tups H8 rs8 ((ps ++ ringOf x rr cl).map pairV) → Keep g H4 H8 → Gen H8 g (n + 3 * ns.length + 3 + 6 * k + 6) →
          ∃ (k' : Nat) (pf : Addr) (ps : List (Int × Int)) (rs : List V) (y : Option V), [some (V.ref g), some (.ref t), some (.ref p0), some (.int way), some (.ref p7), none, some (.int ((k : Int) + (((x :: rr).map V.int).length : Nat))), none, some (.ref pr), none] = [some (.ref g), some (.ref t), some (.ref p0), some (.int way), some (.ref pf), none, some (.int k'), none, y, none] ∧ k' ≤ ms.length ∧ H pf = none ∧ H8 pf = some (.lst rs) ∧ rs.length ≤ 2 * k' ∧ Tups H8 rs (ps.map pairV) ∧ Inj (ps.map (·.1)) (ms.take k') ∧ Inj (ps.map (·.2)) (ms.take k') ∧ Keep g H4 H8 ∧ Gen H8 g (n + 3 * ns.length + 3 + 6 * k') := by
        intro cl rs8 H8 e8 l8 t8 kk8 g8
        have ri := ring_inj (closed := cl) nodr
        refine ⟨k + (x :: rr).length, p7, ps ++ ringOf x rr cl, rs8, some (.ref pr), by rw [List.length_map]; rfl, hr2, n70, e8, l8, t8, ?_, ?_, kk8, g8.mono (by omega)⟩
        · rw [List.map_append, ← htk]
          exact j1.append ri.1 nodx
        · rw [List.map_append, ← htk]
          exact j2.append ri.2 nodx
      have less : ms.length - atOf [some (V.ref g), some (.ref t), some (.ref p0), some (.int way), some (.ref p7), none, some (.int ((k : Int) + (((x :: rr).map V.int).length : Nat))), none, some (.ref pr), none] < ms.length - atOf [some (V.ref g), some (.ref t), some (.ref p0), some (.int way), some (.ref pf), none, some (.int (k : Int)), none, y, none] := by
        show ms.length - ((k : Int) + (((x :: rr).map V.int).length : Nat)).toNat < ms.length - (k : Int).toNat
        rw [List.length_map]
        omega
      have l9 : (rs ++ rs').length + 1 ≤ 2 * (k + (x :: rr).length) := by
        rw [List.length_append]
        omega
      have lst0 : atI ((x :: rr).map V.int) (-1) = some (.int ((x :: rr).getLast (by simp))) := at_last
      refine ⟨_, rfl, rfl, _, rfl, ite2 (fun c3 => ?_) fun c3 => ?_⟩
      · refine ⟨_, rfl, .inl ⟨rfl, _, SqL.of e7⟩, _, rfl, _, rfl, pr, _, _, _, rfl, rfl, SqL.of er9, lst0, _, rfl, pr, _, 0, .int x, rfl, rfl, SqL.of er9, atI_nat (j := 0) rfl, by show 2 ≤ sizeLine; decide, fun T nT => ?_⟩
        have mT := same_new nT (o := .tup [.int ((x :: rr).getLast (by simp)), .int x])
        have eT : upd H9 T (.tup [.int ((x :: rr).getLast (by simp)), .int x]) T = some (.tup [.int ((x :: rr).getLast (by simp)), .int x]) := upd_same
        generalize upd H9 T (.tup [.int ((x :: rr).getLast (by simp)), .int x]) = H11 at mT eT ⊢
        have e11 := mT _ _ e7
        refine ⟨p7, _, _, rfl, rfl, e11, small1000 (by omega), ?_⟩
        have npp : pr ≠ p7 := ne_of_none (kp' _ _ npr0 er7) n7
        refine ⟨_, rfl, _, rfl, pr, _, rfl, .inl (SqL.of (by rw [upd_ne npp]; exact mT _ _ er9)), _, _, rfl, rfl, fin true (rs ++ rs' ++ [.ref T]) _ upd_same ?_ ?_ ((k9.trans (Keep.of_same mT)).upd_new n74) (((gn9.mono (show n + 3 * ns.length + 3 + 6 * k + 3 ≤ n + 3 * ns.length + 3 + 6 * k + 6 by omega)).same mT).upd n7g.symm), less⟩
        · rw [List.length_append, List.length_singleton]
          omega
        · have z := (Tups.put eT (tp9.keep (tk_same mT))).keep (tk_lst (ys := rs ++ rs' ++ [.ref T]) e11)
          show Tups _ _ ((ps ++ ((x :: rr).zip rr ++ [((x :: rr).getLast (by simp), x)])).map pairV)
          rw [← List.append_assoc, List.map_append]
          exact z
      · refine ⟨_, rfl, g, 2, _, rfl, gn9, by decide, by decide, by omega, fun r2 H10 r20 r21 gn10 b10 => ⟨rfl, _, rfl, ?_⟩⟩
        have e710 := (b10 p7 n7g).trans e7
        have er10 := (b10 pr npr0).trans er9
        have tp10 := tp9.keep (tk_keep (Keep.of_but b10) gn9)
        have k10 := k9.trans (Keep.of_but b10)
        refine ite2 (fun c4 => ?_) fun c4 => ?_
        · refine ⟨_, rfl, .inl ⟨rfl, _, SqL.of e710⟩, _, rfl, _, rfl, pr, _, _, _, rfl, rfl, SqL.of er10, lst0, _, rfl, pr, _, 0, .int x, rfl, rfl, SqL.of er10, atI_nat (j := 0) rfl, by show 2 ≤ sizeLine; decide, fun T nT => ?_⟩
          have mT := same_new nT (o := .tup [.int ((x :: rr).getLast (by simp)), .int x])
          have eT : upd H10 T (.tup [.int ((x :: rr).getLast (by simp)), .int x]) T = some (.tup [.int ((x :: rr).getLast (by simp)), .int x]) := upd_same
          generalize upd H10 T (.tup [.int ((x :: rr).getLast (by simp)), .int x]) = H11 at mT eT ⊢
          have e11 := mT _ _ e710
          refine ⟨p7, _, _, rfl, rfl, e11, small1000 (by omega), ?_⟩
          have npp : pr ≠ p7 := ne_of_none (kp' _ _ npr0 er7) n7
          refine ⟨_, rfl, _, rfl, pr, _, rfl, .inl (SqL.of (by rw [upd_ne npp]; exact mT _ _ er10)), _, _, rfl, rfl, fin true (rs ++ rs' ++ [.ref T]) _ upd_same ?_ ?_ ((k10.trans (Keep.of_same mT)).upd_new n74) (((gn10.mono (show n + 3 * ns.length + 3 + 6 * k + 3 + 3 ≤ n + 3 * ns.length + 3 + 6 * k + 6 by omega)).same mT).upd n7g.symm), less⟩
          · rw [List.length_append, List.length_singleton]
            omega
          · have z := (Tups.put eT (tp10.keep (tk_same mT))).keep (tk_lst (ys := rs ++ rs' ++ [.ref T]) e11)
            show Tups _ _ ((ps ++ ((x :: rr).zip rr ++ [((x :: rr).getLast (by simp), x)])).map pairV)
            rw [← List.append_assoc, List.map_append]
            exact z
        · refine ⟨_, rfl, _, rfl, pr, _, rfl, .inl (SqL.of er10), _, _, rfl, rfl, fin false (rs ++ rs') _ e710 (by omega) ?_ k10 (gn10.mono (by omega)), less⟩
          show Tups _ _ ((ps ++ ((x :: rr).zip rr ++ [])).map pairV)
          rw [List.append_nil]
          exact tp10
    · -- the end
      have hk2 : k = ms.length := by
        have z := of_decide_eq_false (Bool.eq_false_iff.mpr c)
        rw [List.length_map] at z
        omega
      rw [hk2, List.take_length] at j1 j2
      exact ⟨_, rfl, q pf rs ps H' (inj_oneToOne j1 j2 subm) (k4.trans kp) npf ef tp (gn.mono (by omega))⟩
  · obtain ⟨v, e, v2, e2, p, ys, e3, o, i, j, ei, ej, kk, ek, z⟩ := hc
    exact ⟨v, e, v2, e2, p, ys, e3, o, i, j, ei, ej, kk, ek, h _ _ z⟩
end
end DQ

set_option Elab.async false
set_option linter.all false
set_option maxRecDepth 100000
set_option maxHeartbeats 4000000
namespace DQ
open PySem PySem.Spec PyProof.Rows L2
/-- rising items -/
def Rising (ns : List Int) : Prop := ns.Pairwise (· < ·) ∧ ∀ x ∈ ns, 0 ≤ x ∧ x ≤ 1000000000
theorem Rising.nodup {ns : List Int} (h : Rising ns) : ns.Nodup := h.1.imp fun h e => by omega
theorem rising_put {ns : List Int} {v : Int} (h : Rising ns) (hv : ∀ x ∈ ns, x < v) (v0 : 0 ≤ v) (v1 : v ≤ 1000000000) : Rising (ns ++ [v]) := by
  refine ⟨List.pairwise_append.mpr ⟨h.1, List.pairwise_singleton _ _, fun x hx y hy => ?_⟩, fun x hx => ?_⟩
  · rw [List.mem_singleton] at hy
    rw [hy]
    exact hv x hx
  · rcases List.mem_append.mp hx with z | z
    · exact h.2 x z
    · rw [List.mem_singleton] at z
      rw [z]
      exact ⟨v0, v1⟩
end DQ

set_option Elab.async false
set_option linter.all false
set_option maxRecDepth 100000
set_option maxHeartbeats 4000000
namespace DQ
open PySem PySem.Spec PyProof.Rows L2
/-! ### sorted(xs), the items data of one shape -/
theorem vals_each {β : Type} : ∀ {zs : List (V × β)} {us : List Value}, Vals (zs.map (·.1)) us → PySem.W.EachIs (fun (u : Value) (z : V × β) => RelV z.1 u) us zs
  | [], _, .nil => .nil
  | _ :: _, _, .cons r t => .cons r (vals_each t)
theorem each_vals {β : Type} : ∀ {us : List Value} {zs : List (V × β)}, PySem.W.EachIs (fun (u : Value) (z : V × β) => RelV z.1 u) us zs → Vals (zs.map (·.1)) us
  | _, _, .nil => .nil
  | _, _, .cons r t => .cons r (each_vals t)
def rSortD {β : Type} (enc : β → PyData) (K : PySem.W.Frag) : List V → Hp → VK → Prop := fun vs H Q => ∃ (a : Addr) (zs : List (V × β)), vs = [.ref a] ∧ SqL K H a (zs.map (·.1)) ∧ (∀ z ∈ zs, Dp K H z.1 (enc z.2)) ∧ PySem.W.AllAlike (zs.map fun z => enc z.2) ∧ PySem.W.Sortable (zs.map fun z => enc z.2) ∧
  (∀ z ∈ zs, (enc z.2).depth ≤ 8) ∧ ∀ p, H p = none → Q (.ref p) (upd H p (.lst ((zs.mergeSort (PySem.W.dataLe false fun z => enc z.2)).map (·.1))))
theorem each_reads {X : Cx} {pins : List (Addr × Obj)} {σ : L2.St} {H : Hp} {s : Shared} {β : Type} {enc : β → PyData} (I : Inv X pins σ H s) : ∀ {zs : List (V × β)} {us : List Value}, Vals (zs.map (·.1)) us → (∀ z ∈ zs, Dp X.K H z.1 (enc z.2)) → PySem.W.EachIs (fun (u : Value) (z : V × β) => ∃ as, Reads s.heap u (enc z.2) as) us zs
  | [], _, .nil, _ => .nil
  | z :: _, _, .cons r t, h => .cons (Dp.reads I _ _ _ (h z (List.mem_cons_self ..)) r) (each_reads I t fun y hy => h y (List.mem_cons_of_mem _ hy))
theorem cr_sortD {X : Cx} {β : Type} {enc : β → PyData} (hu : X.A.units + 64 < cLine) : CallR X (.builtin "sorted") (rSortD enc X.K) := by
  intro pins s σ H vs us Q I r h
  obtain ⟨a, zs, rfl, hs, hd, al, so, dep, q⟩ := h
  obtain ⟨its, rv, hl, hz⟩ := I.list hs
  obtain ⟨u, rfl, ru⟩ := vals1 r
  obtain rfl : u = Value.ref a := ru
  have hz' : its.length ≤ sizeLine := by rw [← rv.length]; exact hz
  have hlen : zs.length = its.length := by rw [← rv.length, List.length_map]
  refine PySem.W.sorted_data (enc := fun z : V × β => enc z.2) hl.isList (vals_each rv) (each_reads I rv hd) al so (by rw [hlen]; exact hz') (fun z hz => by have := dep z hz; omega) fun out ho eo => ?_
  obtain ⟨c, hc⟩ := sortedAll_at s.heap its out.toArray
  have ro := each_vals eo
  have hn : H (s.heap.objs.size + 1) = none := I.hok.fresh (Nat.le_succ _)
  refine ⟨.ref (s.heap.objs.size + 1), _, I.laid (t' := s.toks) (o := .lst ((zs.mergeSort (PySem.W.dataLe false fun z => enc z.2)).map (·.1))) (fun _ _ => sortedAll_old) (Nat.le_succ _) ⟨?_, out, c, ro, hc⟩, rfl, q _ hn⟩
  rw [ro.length, ho, hlen]
  exact hz'
end DQ

set_option Elab.async false
set_option linter.all false
set_option maxRecDepth 100000
namespace DQ
open PySem PySem.Spec PyProof.Rows L2
/-- a fact -/
inductive Fact where
  | mark (m : Str) (i : Int)
  | link (c : Str) (a b : Int)
def Fact.v : Fact → List V
  | .mark m i => [.str "mark", .str m, .int i]
  | .link c a b => [.str "link", .str c, .int a, .int b]
def Fact.d : Fact → PyData
  | .mark m i => .tuple [.str "mark", .str m, .int i]
  | .link c a b => .tuple [.str "link", .str c, .int a, .int b]
/-- the links of a column -/
def Fact.on (c : Str) : Fact → Option (Int × Int)
  | .mark _ _ => none
  | .link c' a b => if c' = c then some (a, b) else none
def linksOf (c : Str) (fs : List Fact) : List (Int × Int) := fs.filterMap (Fact.on c)
structure Store where
  marks : List Str
  columns : List Str
  items : List Int
  facts : List Fact
def Fact.of (S : Store) : Fact → Prop
  | .mark m i => m ∈ S.marks ∧ i ∈ S.items
  | .link c a b => c ∈ S.columns ∧ a ∈ S.items ∧ b ∈ S.items
/-- a drawn store of at most so many items -/
structure Drawn (m : Nat) (S : Store) : Prop where
  marks : ∃ k, k ≤ 3 ∧ S.marks = (["red", "blue", "gold"] : List Str).take k
  columns : ∃ k, 1 ≤ k ∧ k ≤ 2 ∧ S.columns = (["next", "below"] : List Str).take k
  items : Rising S.items
  few : S.items.length ≤ m
  short : S.facts.length ≤ 1000
  rise : S.facts.Pairwise fun x y => PySem.W.dataLt x.d y.d = true
  facts : ∀ x ∈ S.facts, x.of S
  links : ∀ c, OneToOne S.items (linksOf c S.facts)
theorem str_inj {x y : Str} (h : x.cps.toList = y.cps.toList) : x = y := PySem.W.str_of_cps h
theorem fact_toks {x y : Fact} (h : PySem.W.keyToks x.d = PySem.W.keyToks y.d) : x = y := by
  cases x with
  | mark m i =>
    cases y with
    | mark m' i' =>
      simp only [Fact.d, PySem.W.keyToks, PySem.W.keyToksAll, List.cons_append, List.nil_append, List.cons.injEq, Sum.inr.injEq, Sum.inl.injEq, true_and, and_true] at h
      rw [str_inj h.1, h.2]
    | link c a b =>
      simp only [Fact.d, PySem.W.keyToks, PySem.W.keyToksAll, List.cons_append, List.nil_append, List.cons.injEq, Sum.inr.injEq, Sum.inl.injEq, true_and, and_true] at h
      exact absurd h.1 (by decide)
  | link c a b =>
    cases y with
    | mark m' i' =>
      simp only [Fact.d, PySem.W.keyToks, PySem.W.keyToksAll, List.cons_append, List.nil_append, List.cons.injEq, Sum.inr.injEq, Sum.inl.injEq, true_and, and_true] at h
      exact absurd h.1 (by decide)
    | link c' a' b' =>
      simp only [Fact.d, PySem.W.keyToks, PySem.W.keyToksAll, List.cons_append, List.nil_append, List.cons.injEq, Sum.inr.injEq, Sum.inl.injEq, true_and, and_true] at h
      rw [str_inj h.1, h.2.1, h.2.2]
theorem fact_lt {x y : Fact} (ne : x ≠ y) (h : PySem.W.dataLt y.d x.d = false) : PySem.W.dataLt x.d y.d = true := by
  cases q : PySem.W.dataLt x.d y.d with
  | true => rfl
  | false => exact absurd (fact_toks (lex_total _ _ q h)) ne
theorem sorted_rise {zs : List (V × Fact)} (nd : (zs.map (·.2)).Nodup) : ((zs.mergeSort (PySem.W.dataLe false fun z => z.2.d)).map (·.2)).Pairwise fun x y => PySem.W.dataLt x.d y.d = true := by
  have pm : (zs.mergeSort (PySem.W.dataLe false fun z => z.2.d)).Perm zs := List.mergeSort_perm _ _
  have nd2 : ((zs.mergeSort (PySem.W.dataLe false fun z => z.2.d)).map (·.2)).Nodup := (pm.map (·.2)).nodup_iff.mpr nd
  have so := PySem.W.sort_pairwise (PySem.W.sortLe_total (listOrd itemOrd) false fun z : V × Fact => PySem.W.keyToks z.2.d) zs
  refine List.pairwise_map.mpr ?_
  have nd3 := List.pairwise_map.mp nd2
  exact (List.pairwise_and_iff.mpr ⟨so, nd3⟩).imp fun {a b} h => fact_lt h.2 (by
    have z : (!PySem.W.dataLt b.2.d a.2.d) = true := h.1
    simpa using z)
theorem OneToOne.perm {ns : List Int} {ps qs : List (Int × Int)} (h : OneToOne ns ps) (p : qs.Perm ps) : OneToOne ns qs :=
  ⟨(p.map (·.1)).nodup_iff.mpr h.1, (p.map (·.2)).nodup_iff.mpr h.2.1, fun x hx => h.2.2 x (p.subset hx)⟩
theorem links_perm {c : Str} {fs gs : List Fact} (p : fs.Perm gs) : (linksOf c fs).Perm (linksOf c gs) := p.filterMap _
theorem links_append {c : Str} {fs gs : List Fact} : linksOf c (fs ++ gs) = linksOf c fs ++ linksOf c gs := List.filterMap_append
end DQ
namespace DQ
open PySem PySem.Spec PyProof.Rows L2
theorem links_marks {c : Str} {fs : List Fact} (h : ∀ x ∈ fs, ∃ m i, x = Fact.mark m i) : linksOf c fs = [] := by
  unfold linksOf
  refine List.filterMap_eq_nil_iff.mpr fun x hx => ?_
  obtain ⟨m, i, rfl⟩ := h x hx
  rfl
theorem links_self {c : Str} : ∀ ps : List (Int × Int), linksOf c (ps.map fun p => Fact.link c p.1 p.2) = ps
  | [] => rfl
  | p :: r => by
    have ih := links_self (c := c) r
    unfold linksOf at ih ⊢
    rw [List.map_cons, List.filterMap_cons_some (b := p) (by show (if c = c then some (p.1, p.2) else none) = some p; rw [if_pos rfl]), ih]
theorem links_other {c c' : Str} (ne : c ≠ c') (ps : List (Int × Int)) : linksOf c' (ps.map fun p => Fact.link c p.1 p.2) = [] := by
  unfold linksOf
  refine List.filterMap_eq_nil_iff.mpr fun x hx => ?_
  obtain ⟨p, _, rfl⟩ := List.mem_map.mp hx
  show (if c = c' then some (p.1, p.2) else none) = none
  rw [if_neg ne]
theorem len_sub : ∀ {l m : List Int}, l.Nodup → (∀ x ∈ l, x ∈ m) → l.length ≤ m.length
  | [], _, _, _ => Nat.zero_le _
  | x :: l, m, nd, h => by
    have hx := h x (List.mem_cons_self ..)
    obtain ⟨h1, h2⟩ := List.nodup_cons.mp nd
    have z := len_sub (l := l) (m := m.erase x) h2 fun y hy => (List.mem_erase_of_ne (fun e => h1 (by rw [← e]; exact hy))).mpr (h y (List.mem_cons_of_mem _ hy))
    rw [List.length_erase_of_mem hx] at z
    have := List.length_pos_of_mem hx
    rw [List.length_cons]
    omega
theorem OneToOne.len {ns : List Int} {ps : List (Int × Int)} (h : OneToOne ns ps) : ps.length ≤ ns.length := by
  have z := len_sub h.1 fun x hx => by
    obtain ⟨p, hp, rfl⟩ := List.mem_map.mp hx
    exact (h.2.2 p hp).1
  rw [List.length_map] at z
  exact z
theorem OneToOne.nodup {ns : List Int} {ps : List (Int × Int)} (h : OneToOne ns ps) : ps.Nodup := (List.pairwise_map.mp h.1).imp fun h e => h (by rw [e])
theorem oneToOne_nil (ns : List Int) : OneToOne ns [] := ⟨List.nodup_nil, List.nodup_nil, fun p h => by cases h⟩
theorem Tups.get {H : Hp} : ∀ {rs : List V} {ts : List (List V)} {k : Nat} {x : V}, Tups H rs ts → rs[k]? = some x → ∃ a t, x = .ref a ∧ H a = some (.tup t) ∧ ts[k]? = some t
  | _, _, k, x, .nil, h => by simp at h
  | _, _, 0, x, .cons ⟨a, e, h1⟩ _, h => by
    cases h
    exact ⟨a, _, e, h1, rfl⟩
  | _, _, k + 1, x, .cons _ r, h => Tups.get r (k := k) (by simpa using h)
theorem Tups.length {H : Hp} {rs : List V} {ts : List (List V)} (h : Tups H rs ts) : rs.length = ts.length := Paired.length h
theorem Tups.zip {H : Hp} : ∀ {rs : List V} {fs : List Fact}, Tups H rs (fs.map Fact.v) → ∀ z ∈ rs.zip fs, ∃ a, z.1 = .ref a ∧ H a = some (.tup z.2.v)
  | [], [], _, z, h => by cases h
  | [], _ :: _, t, _, _ => by cases t
  | _ :: _, [], t, _, _ => by cases t
  | r :: rs, f :: fs, .cons h t, z, hz => by
    rcases List.mem_cons.mp hz with e | e
    · rw [e]
      exact h
    · exact Tups.zip t z e
theorem tups_of {H : Hp} : ∀ zs : List (V × Fact), (∀ z ∈ zs, ∃ a, z.1 = .ref a ∧ H a = some (.tup z.2.v)) → Tups H (zs.map (·.1)) ((zs.map (·.2)).map Fact.v)
  | [], _ => .nil
  | z :: r, h => .cons (h z (List.mem_cons_self ..)) (tups_of r fun y hy => h y (List.mem_cons_of_mem _ hy))
theorem fact_dp {K : PySem.W.Frag} {H : Hp} {a : Addr} {x : Fact} (h : H a = some (.tup x.v)) : Dp K H (.ref a) x.d := by
  cases x with
  | mark m i => exact .tup (.inl (.inl h)) (.cons (.str _) (.cons (.str _) (.cons (.int _) .nil)))
  | link c a b => exact .tup (.inl (.inl h)) (.cons (.str _) (.cons (.str _) (.cons (.int _) (.cons (.int _) .nil))))
theorem fact_alike (x y : Fact) : PySem.W.alike x.d y.d = true := by
  cases x <;> cases y <;> rfl
theorem fact_depth (x : Fact) : x.d.depth ≤ 8 := by
  cases x
  · show 0 + 1 ≤ 8
    decide
  · show 0 + 1 ≤ 8
    decide
theorem fact_tuple (x : Fact) : ∃ y r, x.d = .tuple (y :: r) := by
  cases x
  · exact ⟨_, _, rfl⟩
  · exact ⟨_, _, rfl⟩
theorem links_out {S : Store} {c : Str} {fs : List Fact} (h : ∀ x ∈ fs, x.of S) (nc : c ∉ S.columns) : linksOf c fs = [] := by
  unfold linksOf
  refine List.filterMap_eq_nil_iff.mpr fun x hx => ?_
  cases x with
  | mark m i => rfl
  | link c' a b =>
    have z := (h _ hx).1
    show (if c' = c then some (a, b) else none) = none
    rw [if_neg fun e => nc (by rw [← e]; exact z)]
end DQ

set_option Elab.async false
set_option linter.all false
set_option maxRecDepth 100000
set_option maxHeartbeats 4000000
namespace DQ
open PySem PySem.Spec PyProof.Rows L2
/-- the store stands at v -/
def StoAt (H : Hp) (v : V) (S : Store) : Prop := ∃ (a m c i f : Addr) (rs : List V), v = .ref a ∧ H a = some (.tup [.str "store", .ref m, .ref c, .ref i, .ref f]) ∧ H m = some (.lst (S.marks.map V.str)) ∧ H c = some (.lst (S.columns.map V.str)) ∧ H i = some (.lst (S.items.map V.int)) ∧ H f = some (.lst rs) ∧ Tups H rs (S.facts.map Fact.v)
theorem tk_del {g : Addr} {H : Hp} {n : Int} (G : Gen H g n) : TupKeep H (del H g) := fun a t h => by
  obtain ⟨x, y, z, eg, _⟩ := G
  rw [del_ne (fun e => by rw [e, eg] at h; cases h)]
  exact h
theorem cut_take {xs : List V} {r : Int} (h0 : 0 ≤ r) : cutV xs none (some r) = xs.take r.toNat := by
  have e : r = ((r.toNat : Nat) : Int) := by omega
  unfold cutV
  rw [HT.sIx_none, List.drop_zero, e, show HT.sIx xs.length xs.length (some ((r.toNat : Nat) : Int)) = min r.toNat xs.length from HT.sIx_nat _ _ _, Nat.sub_zero, Int.toNat_natCast]
  by_cases h : r.toNat ≤ xs.length
  · rw [Nat.min_eq_left h]
  · rw [Nat.min_eq_right (by omega), List.take_length, List.take_of_length_le (by omega)]
theorem at_map {α β : Type} {f : α → β} {l : List α} {i : Nat} {y : β} (h : (l.map f)[i]? = some y) : ∃ x, l[i]? = some x ∧ y = f x := by
  rw [List.getElem?_map] at h
  obtain ⟨x, hx, e⟩ := Option.map_eq_some_iff.mp h
  exact ⟨x, hx, e.symm⟩
end DQ

set_option Elab.async false
set_option linter.all false
set_option maxRecDepth 100000
set_option maxHeartbeats 4000000
/-! ### len(set(texts)), a list of any length -/
namespace DQ
open PySem PySem.Spec PyProof.Rows L2
/-- how many differ among the first i -/
def differ (xs : List Str) : Nat → Nat
  | 0 => 0
  | i + 1 => if (xs.take i).any (· == xs.getD i Str.empty) = true then differ xs i else differ xs i + 1
theorem differ_le (xs : List Str) : ∀ i, differ xs i ≤ i
  | 0 => Nat.le_refl _
  | i + 1 => by
    have := differ_le xs i
    unfold differ
    split <;> omega
theorem differ_nodup {xs : List Str} (nd : xs.Nodup) : ∀ i, i ≤ xs.length → differ xs i = i
  | 0, _ => rfl
  | i + 1, h => by
    have e : xs[i]? = some (xs.getD i Str.empty) := by
      rw [List.getD_eq_getElem?_getD, List.getElem?_eq_getElem (by omega)]
      rfl
    have no : ¬ (xs.take i).any (· == xs.getD i Str.empty) = true := fun q => by
      obtain ⟨y, hy, ey⟩ := List.any_eq_true.mp q
      have z : (xs.take i ++ [xs.getD i Str.empty]).Nodup := by
        rw [← take_next e]
        exact (List.take_sublist _ _).nodup nd
      exact (List.nodup_append.mp z).2.2 y hy _ (List.mem_singleton.mpr rfl) (eq_of_beq ey)
    unfold differ
    rw [if_neg no, differ_nodup nd i (by omega)]
theorem any_next {xs : List Str} {i : Nat} (h : i < xs.length) (k : Str) : ((xs.take i).any (· == k) || decide (k = xs.getD i Str.empty)) = (xs.take (i + 1)).any (· == k) := by
  have e : xs[i]? = some (xs.getD i Str.empty) := by
    rw [List.getD_eq_getElem?_getD, List.getElem?_eq_getElem h]
    rfl
  rw [take_next e, List.any_append]
  congr 1
  show decide (k = xs.getD i Str.empty) = ((xs.getD i Str.empty == k) || false)
  rw [Bool.or_false]
  by_cases q : k = xs.getD i Str.empty
  · rw [← q]; simp
  · rw [decide_eq_false q]
    exact (beq_eq_false_iff_ne.mpr fun z => q z.symm).symm
section
variable {prog : Program} {w : World} {A : Around} {R : Result → Shared → Prop} {I : Addr} {fp wr : List Addr} {G : Array GenState → Array GenState → Prop} {n : Nat} {P : Nat → Value → Prop} {St : Nat → Shared → Prop}
theorem texts_in (W : WalksS prog w A.in1 I fp wr G n P St) {S : Addr} (out : S ∉ fp) {xs : List Str} (len : xs.length = n) (few : n + 1 < scanBound) (val : ∀ i v, P i v → ∃ t, v = .str (xs.getD i Str.empty) t) :
    ∀ (k i : Nat) (s : Shared), n - i = k → i ≤ n → St i s → s.heap.SetOf (PySem.strKind prog w) S (fun z => (xs.take i).any (· == z)) (differ xs i) →
      (∀ s', Moved (S :: wr) G s s' → s'.heap.SetOf (PySem.strKind prog w) S (fun z => (xs.take n).any (· == z)) (differ xs n) → R (.ok (.ret .none)) s') →
      codeAny (model prog w) A (.builtin "set.update.loop" ⟨[.ref S, .ref I], []⟩) R s := by
  have outw : S ∉ wr := fun h => out (W.sub _ h)
  have more : ∀ b ∈ wr, b ∈ S :: wr := fun b h => List.mem_cons_of_mem _ h
  have kept : ∀ {s s' : Shared} {T : Str → Bool} {c : Nat}, Moved wr G s s' → s.heap.SetOf (PySem.strKind prog w) S T c → s'.heap.SetOf (PySem.strKind prog w) S T c := fun m ⟨o, es, ep, t, ho, r⟩ => ⟨o, es, ep, t, m.heap S _ outw ho, r⟩
  intro k
  induction k with
  | zero =>
    intro i s hk hi st hS done
    obtain rfl : i = n := by omega
    refine codeAny_builtin PyProof.Rows.F.entry_set_update_loop ?_
    rw [Around.under_plainId PyProof.Rows.F.plain_set_update_loop _]
    show wpAny _ A.in1 (pyNext (.ref I) >>= _) _ _ s
    refine wpAny_bind (W.done s _ _ st fun s' m => ?_)
    show wpAny _ A.in1 (ret Value.none) _ _ s'
    exact wpAny_pure (done s' (m.mono more) (kept m hS))
  | succ k ih =>
    intro i s hk hi st hS done
    have lt : i < n := by omega
    refine codeAny_builtin PyProof.Rows.F.entry_set_update_loop ?_
    rw [Around.under_plainId PyProof.Rows.F.plain_set_update_loop _]
    show wpAny _ A.in1 (pyNext (.ref I) >>= _) _ _ s
    refine wpAny_bind (W.item i s _ _ lt st fun v s' hP st' m => ?_)
    obtain ⟨t, rfl⟩ := val i v hP
    have hS1 := kept m hS
    show wpAny _ A.in1 (holding [Value.str (xs.getD i Str.empty) t] (setAdd S (.str (xs.getD i Str.empty) t)) >>= _) _ _ s'
    refine wpAny_bind (wpAny_holding ?_)
    unfold setAdd
    refine wpAny_holding (wpAny_bind ((PySem.strKind prog w).pyHash (k := xs.getD i Str.empty) (strKind_is _ _ _ _) ?_))
    refine wpAny_setAddHashed_of (knd := PySem.strKind prog w) (s := { s' with toks := s'.toks + 1 }) (strKind_is _ _ _ _) rfl hS1 (by have := differ_le xs i; omega) fun h' same hS2 => ?_
    refine wpAny_pure ⟨plainId_quiet PyProof.Rows.F.plain_set_update_loop _, ih (i + 1) _ (by omega) lt (W.frame _ s' _ _ st' (Nat.le_succ _) fun b hb o e => ?_) (SetOf_congr hS2 (fun z => any_next (by omega) z) rfl) fun s'' m2 hS3 => ?_⟩
    · rw [same.2 b fun z : b = S => out (by rw [← z]; exact hb)]
      exact e
    · refine done s'' (Moved.trans W.gtrans ((m.mono more).then_heap (Nat.le_succ _) fun b o hb e => ?_) m2) hS3
      rw [same.2 b fun z : b = S => hb (by rw [z]; exact List.mem_cons_self)]
      exact e
end
section
variable {prog : Program} {w : World} {A : Around} {E : Value → Shared → Prop} {s : Shared}
theorem set_of_texts {l : Addr} {items : Array Value} {xs : List Str} {Q : Value → Shared → Prop} (hh : A.handled = none) (hl : s.heap.IsList l items) (hi : StrsAre items.toList xs) (few : items.size + 1 < scanBound)
    (done : ∀ (h' : Heap) (tk : Nat), h'.SetOf (PySem.strKind prog w) s.heap.objs.size (fun z => (xs.take items.size).any (· == z)) (differ xs items.size) →
      (∀ b o, b < s.heap.objs.size → s.heap.get? b = some o → h'.get? b = some o) → Q (.ref s.heap.objs.size) { s with heap := h', toks := tk }) :
    wpAny (model prog w) A (call (.type "set") [.ref l]) Q E s := by
  obtain ⟨c, tl, hmro⟩ := PySem.F.called_set.mro
  have made := PySem.F.called_set.made
  have sub := PySem.F.called_set.sub
  refine wpAny_call (codeAny_of_tree ?_)
  show wpAny _ _ (callAny (.type "set") _) _ _ _
  refine wpAny_pure ⟨Code.quiet_builtin _ (by decide +kernel), codeAny_builtin PySem.F.entry_type_call ?_⟩
  rw [Around.under_plain (weight_type_call_type "set" [.ref l] []) rfl]
  have h1 := PySem.F.called_set.notType
  have h2 := PySem.F.called_set.canCreate
  have h3 := PySem.F.typeCall_set_1 (.ref l)
  repeat (any_goals (first | assumption | wp_step))
  refine codeAny_mono (code_set_new_1 (.ref l) (E := E) (Q₁ := fun o s1 => ∃ led : Bool, o = .ref s.heap.objs.size ∧ s1 = { s with heap := s.heap.push { cls := .type "set", dict := none, data := .set #[] 0 (.fresh 0 0 led) } }) fun led => ⟨led, rfl, rfl⟩) fun r s1 hr => ?_
  cases r with
  | error e => exact hr
  | ok fl =>
    cases fl with
    | ret o =>
      obtain ⟨led, rfl, rfl⟩ := hr
      have hS : (s.heap.push { cls := .type "set", dict := none, data := .set #[] 0 (.fresh 0 0 led) }).get? s.heap.objs.size = some { cls := .type "set", dict := none, data := .set #[] 0 (.fresh 0 0 led) } := Heap.get?_push_size _ rfl
      have hT : Shared.TypeIs { s with heap := s.heap.push { cls := .type "set", dict := none, data := .set #[] 0 (.fresh 0 0 led) } } (.ref s.heap.objs.size) "set" := ⟨_, hS, rfl⟩
      have i1 := PySem.F.called_set.init.lookup
      have i2 := PySem.F.called_set.init.bind (.ref s.heap.objs.size)
      repeat (any_goals (first | assumption | wp_step))
      refine codeAny_mono (codeAny_call_builtin (R := wants (fun r s2 => r = .none ∧ ∃ h' tk, s2 = { s with heap := h', toks := tk } ∧ h'.SetOf (PySem.strKind prog w) s.heap.objs.size (fun z => (xs.take items.size).any (· == z)) (differ xs items.size) ∧
          (∀ b o, b < s.heap.objs.size → s.heap.get? b = some o → h'.get? b = some o)) E) PySem.F.called_set.init.plain PySem.F.entry_set_init (check_set_init_1 hT ?_)) fun r s2 hr => ?_
      · obtain ⟨⟨cls, dd, dt, sl⟩, ho, hc, nl, hd⟩ := hl
        simp only at hc hd
        subst hc hd
        have ho1 : (s.heap.push { cls := .type "set", dict := none, data := .set #[] 0 (.fresh 0 0 led) }).get? l = some { cls := .type "list", dict := dd, data := .seq items nl, slots := sl } := Heap.get?_push_of_some _ ho
        have l1 : (s.heap.push { cls := .type "set", dict := none, data := .set #[] 0 (.fresh 0 0 led) }).IsList l items := ⟨_, ho1, rfl, nl, rfl⟩
        have n1 := PySem.F.sub_list_set
        have n2 := PySem.F.sub_list_frozenset
        have n3 : (Value.type "list" == Value.type "dict") = false := by decide
        unfold Builtin.«set.__init__» noKeywords Builtin.Frozenset.updateFrom
        generalize hit : pyIter = it
        wp_walk
        subst hit
        refine wpAny_pyIter_list l1 (wpAny_bind (wpAny_runValue ?_))
        have hlt : l < s.heap.objs.size := Heap.lt_size ho
        have sz := Heap.size_push s.heap { cls := .type "set", dict := none, data := .set #[] 0 (.fresh 0 0 led) }
        have n4 : l ≠ (s.heap.push { cls := .type "set", dict := none, data := .set #[] 0 (.fresh 0 0 led) }).objs.size := by
          rw [sz]
          exact Nat.ne_of_lt (Nat.lt_succ_of_lt hlt)
        have n5 : s.heap.objs.size ∉ [(s.heap.push { cls := .type "set", dict := none, data := .set #[] 0 (.fresh 0 0 led) }).objs.size, l] := fun q => by
          rw [sz] at q
          rcases List.mem_cons.mp q with e | q
          · exact absurd e (Nat.ne_of_lt (Nat.lt_succ_self _))
          · exact absurd (List.mem_singleton.mp q) (Nat.ne_of_gt hlt)
        have val : ∀ (i : Nat) (v : Value), items[i]? = some v → ∃ t, v = .str (xs.getD i Str.empty) t := fun i v hv => SS.strs_at hi i v (by rw [Array.getElem?_toList]; exact hv)
        refine texts_in ((Walks.list (by simp [hh]) _ l n4 items).toS) n5 (by rw [← StrsAre.len_eq hi, Array.length_toList]) few val items.size 0 _ (Nat.sub_zero _) (Nat.zero_le _) ⟨⟨_, Heap.get?_push_size _ rfl, rfl, rfl⟩, l1.push _⟩ ?_ ?_
        · exact SetOf_congr ((setObjOf_fresh (knd := PySem.strKind prog w) led).setOf (Heap.get?_push_of_some _ hS) (by unfold scanBound; omega)) (fun _ => rfl) rfl
        · intro s' m hS'
          obtain ⟨h', g', d', tk', os'⟩ := s'
          obtain rfl : g' = s.gens := m.gens
          obtain rfl : d' = s.drawn := m.drawn
          obtain rfl : os' = s.os := m.os
          show wpAny _ _ _ _ _ _
          refine wpAny_pure ?_
          show wpAny _ _ (ret Value.none) _ _ _
          refine wpAny_pure ⟨rfl, h', tk', rfl, hS', fun b o hb e => m.heap b o (fun q => ?_) (Heap.get?_push_of_some _ (Heap.get?_push_of_some _ e))⟩
          rw [sz] at q
          rcases List.mem_cons.mp q with e | q
          · exact absurd e (Nat.ne_of_lt hb)
          · exact absurd (List.mem_singleton.mp q) (Nat.ne_of_lt (Nat.lt_succ_of_lt hb))
      · cases r with
        | error e => exact hr
        | ok fl2 =>
          cases fl2 with
          | ret r =>
            obtain ⟨rfl, h', tk, rfl, hS', k⟩ := hr
            repeat (any_goals (first | assumption | wp_step))
            exact done _ _ hS' k
          | _ => exact hr.elim
    | _ => exact hr.elim
end
section
variable {X : Cx}
/-- len(set(xs)), xs a list of texts -/
def tLenSetT (K : PySem.W.Frag) (ta : TE) : TE := fun σ H Q => ta σ H fun x H1 => ∃ (l : Addr) (xs : List Str), x = .ref l ∧ SqL K H1 l (xs.map V.str) ∧ xs.length ≤ 1000 ∧ Q (.int (differ xs xs.length : Nat)) H1
theorem pe_lenSetT {a : Expr} {ta : TE} {p p2 q pos : Pos} (hc : X.calm = true) (hg : Gl X "len") (hm : X.mg "len" = none) (hg2 : Gl X "set") (hm2 : X.mg "set" = none) (ha : PE X a ta)
    (na : starEach [a] X.env = (false, eval a X.env) :: starEach [] X.env := by rfl) : PE X (.Call (.Name "len" p) [.Call (.Name "set" p2) [a] [] q] [] pos) (tLenSetT X.K ta) := by
  refine ⟨fun pins s σ H Q I h => ?_⟩
  refine Call_ (ld_blt I hg hm boot_len ?_)
  refine callWith_builtin1 (args_cons ?_ rfl) rfl rfl
  refine Call_ (ld_blt I hg2 hm2 boot_set ?_)
  refine callWith_type1 (args_cons (thn (ha.run pins s σ H _ I h) fun v s1 ⟨x, H1, I1, r1, q1⟩ => args_nil ?_) na) na rfl
  obtain ⟨l, xs, rfl, hq, h1, q1⟩ := q1
  cases r1
  obtain ⟨its, r, pl, hz⟩ := I1.list hq
  have hl : its.toArray.size = xs.length := by rw [List.size_toArray, ← r.length, List.length_map]
  refine set_of_texts (I1.ok.hd hc) pl.isList (by simpa using strsAre_of r) (by unfold scanBound; omega) fun h' tk hS hk => args_nil ?_
  rw [hl] at hS
  obtain ⟨o, es, ep, t, ho, hex, hd, _, _, _, hf, hn⟩ := hS
  have I2 : Inv X pins σ H1 { s1 with heap := h', toks := tk } := I1.kept fun b o e => hk b o (Heap.lt_size e) e
  have dl := differ_le xs xs.length
  exact call_len_set ho hex hd hf (by rw [hn] <;> omega) ⟨.int (differ xs xs.length : Nat), H1, I2.tok _, ⟨_, by rw [hn]⟩, q1⟩
end
end DQ

set_option Elab.async false
set_option linter.all false
set_option maxRecDepth 100000
set_option maxHeartbeats 4000000
namespace DQ
open PySem PySem.Spec PyProof.Rows L2
/-! ### a comprehension whose items are flags, without an if -/
theorem same_upd {H H' : Hp} {D : Addr} {o : HO} (s : Same H H') (nD : H D = none) : Same H (upd H' D o) := fun b u e => by
  rw [upd_ne (ne_of_none e nD)]
  exact s b u e
theorem yes_if {A B : Prop} (h : A) : if (true : Bool) = true then A else B := (if_pos rfl : (if (true : Bool) = true then A else B) = A).mpr h
theorem lc_bools {J : It} {n : Nat} {G : Hp → Prop} {Y : Nat → Hp → V → Hp → Prop} (w : Walk J n G Y) {g : TG} {te : TE} {vs : List Nat} {σ : L2.St} {H1 : Hp} {D : Addr} {Qd : Hp → Prop} (bs : List Bool) (hn : bs.length = n) (few : n < sizeLine) (nD : H1 D = none)
    (hG : ∀ H, Same H1 H → G H) (hY : ∀ i H x H', Y i H x H' → Same H H')
    (hs : ∀ i x H H' b, i < n → bs[i]? = some b → Same H1 H → Y i H x H' → ∀ R : V → Hp → Prop, (∀ H4, Same H' H4 → R (.bl b) H4) → g x (wipe σ vs) H' fun σ2 H2 => wipe σ2 vs = wipe σ vs ∧ te σ2 H2 R)
    (hd : ∀ H, Same H1 H → H D = some (.lst (bs.map V.bl)) → Qd H) (gm : ∀ x σ H (Q Q' : L2.St → Hp → Prop), (∀ σ H, Q σ H → Q' σ H) → g x σ H Q → g x σ H Q') :
    ∃ W : Nat → Nat → Hp → Prop, (∃ m, W 0 m (upd H1 D (.lst []))) ∧ ∀ i m H, W i m H →
      (J.stop i H ∧ Qd H) ∨ (J.go i H ∧ ∃ Nx : Hp → Prop, (∀ H', Nx H' → ∃ m', m' < m ∧ W (i + 1) m' H') ∧ ∀ x H', J.yld i H x H' → g x (wipe σ vs) H' fun σ2 H2 => wipe σ2 vs = wipe σ vs ∧ tYes σ2 H2 fun b H3 =>
        if b = true then te σ2 H3 fun y H4 => ∃ acc, H4 D = some (.lst acc) ∧ acc.length < sizeLine ∧ Nx (upd H4 D (.lst (acc ++ [y]))) else Nx H3) := by
  refine lc_it w (fun i H => H D = some (.lst ((bs.take i).map V.bl)) ∧ Same H1 H) ⟨upd_same, same_new nD⟩ (fun i H _ p => hG H p.2) (fun i x H H' hi p y => ?_) fun H p => hd H p.2 (by rw [← hn, List.take_length] at p; exact p.1)
  obtain ⟨e, s⟩ := p
  have hb : bs[i]? = some bs[i] := List.getElem?_eq_getElem (by omega)
  refine (fun z => gm x _ _ _ _ (fun σ2 H2 z => ⟨z.1, z.2⟩) z) (hs i x H H' _ hi hb s y (fun y H4 => ∃ acc, H4 D = some (.lst acc) ∧ acc.length < sizeLine ∧ upd H4 D (.lst (acc ++ [y])) D = some (.lst ((bs.take (i + 1)).map V.bl)) ∧ Same H1 (upd H4 D (.lst (acc ++ [y])))) fun H4 s4 => ?_)
  have e4 := s4 _ _ (hY _ _ _ _ y _ _ e)
  refine ⟨_, e4, ?_, ?_, ?_⟩
  · rw [List.length_map, List.length_take]
    omega
  · rw [take_next hb, List.map_append]
    exact upd_same
  · exact same_upd ((s.trans (hY _ _ _ _ y)).trans s4) nD
end DQ

set_option Elab.async false
set_option linter.all false
set_option maxRecDepth 100000
set_option maxHeartbeats 4000000
namespace DQ
open PySem PySem.Spec PyProof.Rows L2
abbrev sIsWord : Stmt := topS 11
abbrev sSpelled : Stmt := topS 12
def letters : Str := "abcdefghijklmnopqrstuvwxyz"
def wordSigns : Str := "abcdefghijklmnopqrstuvwxyz0123456789"
def reserved : List Str := ["all", "and", "false", "in", "link", "mark", "not", "or", "same", "some", "true"]
/-- a text of 1 to 30 signs that are small letters or digits, the first a letter -/
def spelled (x : Str) : Bool := decide (1 ≤ x.length) && decide (x.length ≤ 30) && (x.cps.toList.head?.any fun c => decide (c ∈ letters.cps.toList)) && x.cps.toList.all fun c => decide (c ∈ wordSigns.cps.toList)
def wordB (x : Str) : Bool := spelled x && !inV (.str x) (reserved.map V.str)
theorem scIsWord : FnScope ["value"] ["value"] (defScope sIsWord) := ⟨rfl, rfl, rfl, by decide +kernel, rfl, by decide +kernel, by decide +kernel⟩
theorem scSpelled : FnScope ["text", "sign"] ["text"] (defScope sSpelled) := ⟨rfl, rfl, rfl, by decide +kernel, rfl, by decide +kernel, by decide +kernel⟩
section
variable {P : Program} {w : World} {K : PySem.W.Frag} {mg : Str → Option Value} {base : Heap}
def spSpelled : Sp := fun vs H Q _ => ∃ x : Str, vs = [.str x] ∧ x.length ≤ 1000 ∧ ∀ H', Same H H' → Q (.bl (spelled x)) H'
theorem ok_spelled {f : Addr} {fd : FuncData} {t1 t2 t3 : Tok} (F : Fun K "is_spelled" "is_spelled" sSpelled f fd) (mL : mg "LETTERS" = some (.str letters t1)) (mW : mg "WORD_SIGNS" = some (.str wordSigns t2)) (mM : mg "MOST_SIGNS" = some (.int 30 t3))
    (mLen : mg "len" = none) (mAll : mg "all" = none) : FnOk P w K mg base CX0 1 f fd ["text"] spSpelled := by
  refine F.ok scSpelled (fun vs H Q E h => ?_) (fun cdv A outer s H vs Q E hr h => ?_)
  · obtain ⟨x, rfl, _⟩ := h
    rfl
  obtain ⟨x, rfl, few, q⟩ := h
  have nd := scSpelled.nd
  refine ⟨_, (pss_cons (ps_if (PW.pt (pw_or (pt_not (pt_chain op_le op_le pe_int (pe_callB call_len_str (by rfl) mLen PySem.boot_len (pa_cons (pv 0) pa_nil)) (pe_glob (v := .int 30) (by rfl) mM ⟨_, rfl⟩))) (pw_or1 (pt_cmpR op_notIn_sign (pe_ix (r := rIxS) ix_str (pv 0) pe_int (fun _ _ => rfl)) (pe_glob (v := .str letters) (by rfl) mL ⟨_, rfl⟩) (by rfl))))) (pss_one (ps_ret pe_bl)) pss_nil)
    (pss_one (ps_ret (pe_callB (cr_all rfl) (by rfl) mAll (by decide +kernel) (pa_cons (pe_lc (own := [("sign", 1)]) (g := gName 1) (tt := tYes) rfl nd (pi_str (pv 0)) (blkOk_by (own := [("sign", 1)]) (N := ["text", "sign"]) (sc := defScope sSpelled) (by decide +kernel)) (fun _ _ _ _ _ => pg_name (i := 1) nd rfl (Or.inl rfl)) (fun _ _ _ _ _ => pts_nil) (fun _ _ _ _ _ => pe_cmpR op_in_sign (pv 1) (pe_glob (v := .str wordSigns) (by rfl) mW ⟨_, rfl⟩) (by rfl))) pa_nil))))), ?_⟩
  have end0 : spelled x = false → Q (.bl false) H := fun e => by
    have := q H (fun _ _ h => h)
    rwa [e] at this
  refine ⟨_, rfl, x, rfl, Nat.le_trans few (by decide), _, _, rfl, rfl, _, rfl, ite2 (fun c1 => ⟨_, _, rfl, rfl, _, rfl, ite2 (fun c2 => ?_) fun c2 => ?_⟩) fun c1 => ⟨_, rfl, ?_⟩⟩
  · -- too long
    refine end0 ?_
    have z : ¬ x.length ≤ 30 := fun z => by
      rw [decide_eq_true (show (x.length : Int) ≤ 30 by omega)] at c2
      exact absurd c2 (by decide)
    unfold spelled
    rw [decide_eq_false z, Bool.and_false, Bool.false_and, Bool.false_and]
  · have l1 : 1 ≤ x.length := by
      have := of_decide_eq_true c1
      omega
    have l2 : x.length ≤ 30 := by
      by_cases z : (x.length : Int) ≤ 30
      · omega
      · rw [decide_eq_false z] at c2
        exact absurd rfl c2
    obtain ⟨c, r, hx⟩ : ∃ c r, x.cps.toList = c :: r := by
      cases e : x.cps.toList with
      | nil =>
        have : x.length = 0 := by
          show x.cps.size = 0
          rw [← Array.length_toList, e]
          rfl
        omega
      | cons c r => exact ⟨c, r, rfl⟩
    have sp : spelled x = (decide (c ∈ letters.cps.toList) && x.cps.toList.all fun c => decide (c ∈ wordSigns.cps.toList)) := by
      unfold spelled
      rw [decide_eq_true l1, decide_eq_true l2, hx]
      rfl
    refine ⟨_, rfl, x, 0, c, rfl, rfl, Nat.le_trans few (by decide), by rw [hx]; exact atI_nat (j := 0) rfl, c, letters, rfl, rfl, _, rfl, ite2 (fun c3 => ?_) fun c3 => ?_⟩
    · refine end0 ?_
      rw [sp]
      cases h : decide (c ∈ letters.cps.toList) with
      | true =>
        rw [h] at c3
        exact absurd c3 (by decide)
      | false => rfl
    · have h : decide (c ∈ letters.cps.toList) = true := by
        cases h : decide (c ∈ letters.cps.toList) with
        | true => rfl
        | false =>
          rw [h] at c3
          exact absurd rfl c3
      rw [h, Bool.true_and] at sp
      refine ⟨_, rfl, x, rfl, fun D nD => lc_bools (walk_str (z := x)) (x.cps.toList.map fun c => decide (c ∈ wordSigns.cps.toList)) (by rw [List.length_map, Array.length_toList]) (Nat.lt_of_le_of_lt (show x.cps.size ≤ 1000 from few) (by decide)) nD (fun _ _ => trivial) (fun _ _ _ _ y => by rw [y.1]; exact fun _ _ h => h)
        (fun i v H2 H3 b hi hb s1 y R hR => ?_) (fun H2 s2 e2 => ?_) (fun _ _ _ _ _ m h => m _ _ h)⟩
      · obtain ⟨rfl, d, hd, rfl⟩ := y
        rw [List.getElem?_map, Array.getElem?_toList, hd] at hb
        cases hb
        exact ⟨rfl, _, rfl, d, wordSigns, rfl, rfl, hR _ fun _ _ h => h⟩
      · refine ⟨D, _, rfl, SqL.of e2, ?_⟩
        have e : (List.map (fun c => decide (c ∈ wordSigns.cps.toList)) x.cps.toList).any id = true ∨ True := .inr trivial
        rw [List.all_map]
        have := q H2 s2
        rw [sp] at this
        exact this
  · -- empty
    refine end0 ?_
    have z : ¬ 1 ≤ x.length := fun z => c1 (decide_eq_true (by omega))
    unfold spelled
    rw [decide_eq_false z]
    rfl
def spIsWord (K : PySem.W.Frag) : Sp := fun vs H Q _ => ∃ v, vs = [v] ∧ ((∃ x : Str, v = .str x ∧ x.length ≤ 1000 ∧ ∀ H', Same H H' → Q (.bl (wordB x)) H') ∨ ((∃ t, TyX K H v t ∧ PySem.W.kitOne K t (.type "str") = some false) ∧ Q (.bl false) H))
theorem ok_isWord {f fs r : Addr} {fd fds : FuncData} (F : Fun K "is_word" "is_word" sIsWord f fd) (GS : FnOk P w K mg base CX0 1 fs fds ["text"] spSpelled) (bS : Binds K fds ["text"] []) (kS : PySem.W.keepIn K (.ref fs) = true) (mS : mg "is_spelled" = some (.ref fs))
    (mI : mg "isinstance" = none) (mStr : mg "str" = none) (mR : mg "RESERVED" = some (.ref r)) (eR : ∀ H, SqT K H r (reserved.map V.str)) : FnOk P w K mg base CX0 2 f fd ["value"] (spIsWord K) := by
  refine F.ok scIsWord (fun vs H Q E h => ?_) (fun cdv A outer s H vs Q E hr h => ?_)
  · obtain ⟨x, rfl, _⟩ := h
    rfl
  obtain ⟨v, rfl, h⟩ := h
  refine ⟨_, pss_one (ps_ret (pe_and (pe_callB call_isi (by rfl) mI (by decide +kernel) (pa_cons (pv 0) (pa_cons (pe_bltn (v := .ty "str") (by rfl) mStr (by decide +kernel) rfl) pa_nil))) (pe_and (pe_call GS (hr.mono (by decide)) rfl mS kS bS .nil pass0 (pa_cons (pv 0) pa_nil)) (pe_one (pe_cmpR op_notIn_seq (pv 0) (pe_glob (v := .ref r) (by rfl) mR rfl) (by rfl)))))), ?_⟩
  rcases h with ⟨x, rfl, few, q⟩ | ⟨⟨t, ty, kt⟩, q⟩
  · refine ⟨_, rfl, .str x, .ty "str", _, _, true, rfl, .ty "str", .base (.str x), kit_ty (by decide +kernel), true, rfl, ?_⟩
    refine ⟨_, rfl, x, rfl, few, fun H' sm => ⟨_, rfl, ite2 (fun c => ?_) fun c => ?_⟩⟩
    · refine ⟨_, rfl, r, _, rfl, .inr (eR _), rfl, ?_, ?_⟩
      · decide
      · have := q H' sm
        unfold wordB at this
        rw [c, Bool.true_and] at this
        exact this
    · have := q H' sm
      unfold wordB at this
      rw [Bool.eq_false_iff.mpr c, Bool.false_and] at this
      exact this
  · exact ⟨_, rfl, v, .ty "str", _, _, false, rfl, .ty "str", ty, kt, false, rfl, q⟩
end
end DQ

set_option Elab.async false
set_option linter.all false
set_option maxRecDepth 100000
set_option maxHeartbeats 4000000
namespace DQ
open PySem PySem.Spec PyProof.Rows L2
/-! ### data on the heap -/
theorem Same.seqT {K : PySem.W.Frag} {H H' : Hp} {a : Addr} {xs : List V} (e : Same H H') (h : SqT K H a xs) : SqT K H' a xs := by
  rcases h with (h | ⟨o, h⟩) | h
  · exact .inl (.inl (e _ _ h))
  · exact .inl (.inr ⟨o, e _ _ h⟩)
  · exact .inr h
mutual
theorem dp_same {K : PySem.W.Frag} {H H' : Hp} (e : Same H H') : ∀ (d : PyData) (v : V), Dp K H v d → Dp K H' v d
  | .none, _, h => by cases h; exact .non
  | .bool b, _, h => by cases h; exact .bl b
  | .int i, _, h => by cases h; exact .int i
  | .str x, _, h => by cases h; exact .str x
  | .list ds, _, h => by
    cases h with
    | lst h a => exact .lst (L2.Same.seq e h) (dpAll_same e ds _ a)
  | .tuple ds, _, h => by
    cases h with
    | tup h a => exact .tup (DQ.Same.seqT e h) (dpAll_same e ds _ a)
  | .dict _, _, h => by
    cases h with
    | dct h => exact .dct (e _ _ h)
theorem dpAll_same {K : PySem.W.Frag} {H H' : Hp} (e : Same H H') : ∀ (ds : List PyData) (vs : List V), DpAll K H vs ds → DpAll K H' vs ds
  | [], _, h => by cases h; exact .nil
  | d :: ds, _, h => by
    cases h with
    | cons a b => exact .cons (dp_same e d _ a) (dpAll_same e ds _ b)
end
theorem dpAll_len {K : PySem.W.Frag} {H : Hp} : ∀ {vs : List V} {ds : List PyData}, DpAll K H vs ds → vs.length = ds.length
  | _, _, .nil => rfl
  | _, _, .cons _ t => congrArg Nat.succ (dpAll_len t)
theorem dpAll_at {K : PySem.W.Frag} {H : Hp} : ∀ {vs : List V} {ds : List PyData} {i : Nat} {v : V}, DpAll K H vs ds → vs[i]? = some v → ∃ d, ds[i]? = some d ∧ Dp K H v d
  | _, _, _, _, .nil, h => by simp at h
  | _, _, 0, _, .cons a _, h => by
    cases h
    exact ⟨_, rfl, a⟩
  | _, _, i + 1, _, .cons _ t, h => dpAll_at (i := i) t (by simpa using h)
theorem dpAll_get {K : PySem.W.Frag} {H : Hp} {vs : List V} {ds : List PyData} {i : Nat} {v : V} {d : PyData} (a : DpAll K H vs ds) (h : vs[i]? = some v) (hd : ds[i]? = some d) : Dp K H v d := by
  obtain ⟨e, he, q⟩ := dpAll_at a h
  rw [hd] at he
  cases he
  exact q
/-- the name of its type -/
def tyN : PyData → String
  | .none => "NoneType"
  | .bool _ => "bool"
  | .int _ => "int"
  | .str _ => "str"
  | .list _ => "list"
  | .tuple _ => "tuple"
  | .dict _ => "dict"
theorem dp_ty {K : PySem.W.Frag} {H : Hp} {v : V} {d : PyData} (h : Dp K H v d) : TyX K H v (.type (tyN d)) := by
  cases h with
  | non => exact .base .non
  | bl b => exact .base (.bl b)
  | int i => exact .base (.int i)
  | str x => exact .base (.str x)
  | lst h _ =>
    rcases h with (h | ⟨o, h⟩) | ⟨o, _, _, h, c, _⟩
    · exact .base (.lst h)
    · exact .base (.frz h)
    · exact .kList h c
  | tup h _ =>
    rcases h with (h | ⟨o, h⟩) | ⟨o, _, _, h, c, _⟩
    · exact .base (.tup h)
    · exact .fTuple h
    · exact .kTuple h c
  | dct h => exact .base (.dK h)
/-- isinstance(d, T) -/
def isTN (T n : String) : Bool := n == T || (n == "bool" && T == "int")
def isT (T : String) (d : PyData) : Bool := isTN T (tyN d)
def tyNames : List String := ["NoneType", "bool", "int", "str", "list", "tuple", "dict"]
theorem kit_names : ∀ T ∈ ["int", "bool", "str", "list", "tuple"], ∀ n ∈ tyNames, kitB n T = some (isTN T n) := by decide +kernel
theorem tyN_mem : ∀ d : PyData, tyN d ∈ tyNames
  | .none => by unfold tyN tyNames; simp
  | .bool _ => by unfold tyN tyNames; simp
  | .int _ => by unfold tyN tyNames; simp
  | .str _ => by unfold tyN tyNames; simp
  | .list _ => by unfold tyN tyNames; simp
  | .tuple _ => by unfold tyN tyNames; simp
  | .dict _ => by unfold tyN tyNames; simp
theorem kit_data {K : PySem.W.Frag} {T : String} (hT : T ∈ ["int", "bool", "str", "list", "tuple"]) (d : PyData) : PySem.W.kitOne K (.type (tyN d)) (.type T) = some (isT T d) :=
  kit_ty (kit_names T hT _ (tyN_mem d))
/-- x < y of alike data -/
def rLtD (K : PySem.W.Frag) : R2 := fun x y H Q => ∃ d e, Dp K H x d ∧ Dp K H y e ∧ PySem.W.alike d e = true ∧ d ≠ .none ∧ d.depth ≤ 8 ∧ Q (.bl (PySem.W.dataLt d e)) H
theorem op_ltD {X : Cx} (hu : X.A.units + 64 < cLine) : OpR X (compareOp .Lt) (rLtD X.K) := by
  intro pins s σ H x y v u Q I rx ry h
  obtain ⟨d, e, hd, he, al, nn, dep, q⟩ := h
  obtain ⟨as, r1⟩ := Dp.reads I d x v hd rx
  obtain ⟨bs, r2⟩ := Dp.reads I e y u he ry
  exact PySem.W.rcLt_alike d e X.A s v u as bs r1 r2 al nn (by have := Nat.min_le_left d.depth e.depth; omega) X.prog X.w _ _ ⟨.bl _, H, I, rfl, q⟩
end DQ

set_option Elab.async false
set_option linter.all false
set_option maxRecDepth 100000
set_option maxHeartbeats 1000000
namespace DQ
open PySem PySem.Spec PyProof.Rows
open L2 (Hp V VK XK R2 OpR SqL SqT Inv RelV Vals HOk Cx EP CallR)
/-! ### repr of data, empty dicts among it -/
mutual
theorem dp_shown {X : Cx} {pins : List (Addr × Obj)} {σ : L2.St} {H : Hp} {s : Shared} (I : Inv X pins σ H s) : ∀ (d : PyData) (v : V) (u : Value), Dp X.K H v d → RelV v u → d.showable = true → d.shown.length ≤ sizeLine →
    ∃ bs, ReadAtMost s.heap d.depth bs ∧ ReprK X.prog X.w bs s.heap d.depth u d.shown
  | .none, v, u, h, r, sh, sz => (Dp.reads I .none v u h r).elim fun as rd => ReprK.of_reads rd sh (fun z => by simp [PyData.hasDict] at z) sz
  | .bool b, v, u, h, r, sh, sz => (Dp.reads I (.bool b) v u h r).elim fun as rd => ReprK.of_reads rd sh (fun z => by simp [PyData.hasDict] at z) sz
  | .int i, v, u, h, r, sh, sz => (Dp.reads I (.int i) v u h r).elim fun as rd => ReprK.of_reads rd sh (fun z => by simp [PyData.hasDict] at z) sz
  | .str x, v, u, h, r, sh, sz => (Dp.reads I (.str x) v u h r).elim fun as rd => ReprK.of_reads rd sh (fun z => by simp [PyData.hasDict] at z) sz
  | .list ds, v, u, h, r, sh, sz => by
    obtain ⟨as, rd⟩ := Dp.reads I (.list ds) v u h r
    cases h with
    | lst hs ha =>
      obtain rfl : u = Value.ref _ := r
      obtain ⟨its, rv, ⟨o, n, ho, hc, _, hd⟩, _⟩ := I.list hs
      have sz' : (listText (PyData.shownAll ds)).length ≤ sizeLine := by simpa only [PyData.shown] using sz
      obtain ⟨bs, hb, hk⟩ := dpAll_shown I ds _ its ha rv (by simpa only [PyData.showable] using sh) fun t ht => Nat.le_trans (listText_mem_le ht) sz'
      have hna := not_mem_of_deeper rd (by simp only [PyData.depth]; omega) hb
      refine ⟨_ :: bs, ReadAtMost.cons rd (by simp only [PyData.depth]; omega) hb, ?_⟩
      simp only [PyData.depth, PyData.shown]
      cases its with
      | nil =>
        cases rv
        cases ha
        simp only [PyData.shownAll, listText_nil]
        exact ReprK.listEmpty ho hc hd
      | cons y ys => exact ReprK.list ho hc hd hna (by simpa using hk.length_eq) fun i z e => hk.item i z (by simpa using e)
  | .tuple ds, v, u, h, r, sh, sz => by
    obtain ⟨as, rd⟩ := Dp.reads I (.tuple ds) v u h r
    cases h with
    | tup hs ha =>
      obtain rfl : u = Value.ref _ := r
      obtain ⟨its, rv, ⟨o, ho, hc, n, hd⟩, _⟩ := I.tuple hs
      have sz' : (tupleText (PyData.shownAll ds)).length ≤ sizeLine := by simpa only [PyData.shown] using sz
      obtain ⟨bs, hb, hk⟩ := dpAll_shown I ds _ its ha rv (by simpa only [PyData.showable] using sh) fun t ht => Nat.le_trans (tupleText_mem_le ht) sz'
      have hna := not_mem_of_deeper rd (by simp only [PyData.depth]; omega) hb
      refine ⟨_ :: bs, ReadAtMost.cons rd (by simp only [PyData.depth]; omega) hb, ?_⟩
      simp only [PyData.depth, PyData.shown]
      exact ReprK.tuple ho hc hd hna (by simpa using hk)
  | .dict kvs, v, u, h, r, sh, sz => by
    obtain ⟨as, rd⟩ := Dp.reads I (.dict kvs) v u h r
    cases h with
    | dct hs =>
      obtain rfl : u = Value.ref _ := r
      obtain ⟨_, hsys, vs, kv, o, es, ep, ho, ex, hd, _, ps, _⟩ := L2.dk_of I.hok hs
      have e0 : vs = [] := by
        cases kv
        rfl
      subst e0
      have e1 : es.toList = [] := List.length_eq_zero_iff.mp (by simpa using PySem.Pairs.length ps)
      refine ⟨[_], ReadAtMost.cons (bs := []) rd (n := 0) (Nat.zero_le _) (fun b hb => nomatch hb), ?_⟩
      simp only [PyData.depth, PyData.depthKv, PyData.shown, PyData.shownKv]
      exact ReprK.dict ho ex.1 hd hsys (by simp) (by rw [e1]; exact .nil)
theorem dpAll_shown {X : Cx} {pins : List (Addr × Obj)} {σ : L2.St} {H : Hp} {s : Shared} (I : Inv X pins σ H s) : ∀ (ds : List PyData) (vs : List V) (us : List Value), DpAll X.K H vs ds → Vals vs us → PyData.showableAll ds = true → (∀ t ∈ PyData.shownAll ds, t.length ≤ sizeLine) →
    ∃ bs, ReadAtMost s.heap (PyData.depthAll ds) bs ∧ ReprAllK X.prog X.w bs s.heap (PyData.depthAll ds) us (PyData.shownAll ds)
  | [], _, _, h, r, _, _ => by
    cases h
    cases r
    exact ⟨[], (fun _ h => nomatch h), by simp only [PyData.shownAll]; exact .nil⟩
  | d :: ds, _, _, h, r, sh, sz => by
    cases h with
    | cons h1 h2 =>
      cases r with
      | cons r1 r2 =>
        have sh' : d.showable = true ∧ PyData.showableAll ds = true := by simpa [PyData.showableAll] using sh
        obtain ⟨b1, hb1, k1⟩ := dp_shown I d _ _ h1 r1 sh'.1 (sz _ (by simp only [PyData.shownAll]; exact List.mem_cons_self ..))
        obtain ⟨b2, hb2, k2⟩ := dpAll_shown I ds _ _ h2 r2 sh'.2 fun t ht => sz t (by simp only [PyData.shownAll]; exact List.mem_cons_of_mem _ ht)
        have m1 : PyData.depth d ≤ PyData.depthAll (d :: ds) := by simp only [PyData.depthAll]; exact Nat.le_max_left _ _
        have m2 : PyData.depthAll ds ≤ PyData.depthAll (d :: ds) := by simp only [PyData.depthAll]; exact Nat.le_max_right _ _
        refine ⟨b1 ++ b2, (hb1.mono m1).append (hb2.mono m2), ?_⟩
        simp only [PyData.shownAll]
        exact .cons ((k1.more fun b hb => List.mem_append_left _ hb).level_le m1) (k2.more_le (fun b hb => List.mem_append_right _ hb) m2)
end
/-- what repr wants of data, dicts among it -/
structure ShowsZ (d : PyData) : Prop where
  sh : d.showable = true
  dep : d.depth ≤ 64
  sz : d.shown.length ≤ sizeLine
/-- repr of a tuple of data; the guards around are known to be none -/
def rReprT (K : PySem.W.Frag) : List V → Hp → VK → Prop := fun xs H Q => ∃ (a : Addr) (ds : List PyData), xs = [.ref a] ∧ Dp K H (.ref a) (.tuple ds) ∧ ShowsZ (.tuple ds) ∧ Q (.str (PyData.tuple ds).shown) H
theorem call_reprT {X : Cx} (hu : X.A.units + 65 < cLine) (hg : X.A.guards = some []) : CallR X (.builtin "repr") (rReprT X.K) := by
  intro pins s σ H xs us Q I r h
  obtain ⟨a, ds, rfl, hd, ⟨sh, dep, sz⟩, q⟩ := h
  obtain ⟨u, rfl, ru⟩ := L2.vals1 r
  obtain ⟨as, rd⟩ := Dp.reads I (.tuple ds) _ _ hd ru
  cases hd with
  | tup hs ha =>
    obtain rfl : u = Value.ref a := ru
    obtain ⟨its, rv, ⟨o, ho, hc, n, hd⟩, _⟩ := I.tuple hs
    have sz' : (tupleText (PyData.shownAll ds)).length ≤ sizeLine := by simpa only [PyData.shown] using sz
    obtain ⟨bs, hb, hk⟩ := dpAll_shown I ds _ its ha rv (by simpa only [PyData.showable] using sh) fun t ht => Nat.le_trans (tupleText_mem_le ht) sz'
    have hna := not_mem_of_deeper rd (by simp only [PyData.depth]; omega) hb
    have dp : PyData.depthAll ds + 1 ≤ 64 := by simpa only [PyData.depth] using dep
    refine call_repr_slot (by omega) ⟨o, ho, hc⟩ F.slot_tuple_repr (call_tuple_reprK ho hc hd hna (by simpa using hk) hg (fun b _ => Clear.nil b) (by show X.A.units + 1 + _ < _; omega) (fun _ _ e => e) (fun h' u tk k => ⟨_, _, rfl, ?_⟩) sz')
    simp only [PyData.shown] at q
    exact ⟨.str _, H, I.kept fun b o e => k b o e, ⟨u, rfl⟩, q⟩
end DQ

set_option Elab.async false
set_option linter.all false
set_option maxRecDepth 100000
set_option maxHeartbeats 2000000
namespace DQ
open PySem PySem.Spec PyProof.Rows L2
/-- repr of data that stands as an object; the guards around are known to be none -/
def rReprD (K : PySem.W.Frag) : List V → Hp → VK → Prop := fun xs H Q => ∃ (a : Addr) (d : PyData), xs = [.ref a] ∧ Dp K H (.ref a) d ∧ d.showable = true ∧ d.hasDict = false ∧ d.depth ≤ 64 ∧ d.shown.length ≤ sizeLine ∧ Q (.str d.shown) H
theorem call_reprD {X : Cx} (hu : X.A.units + 65 < cLine) (hg : X.A.guards = some []) : CallR X (.builtin "repr") (rReprD X.K) := by
  intro pins s σ H xs us Q I r h
  obtain ⟨a, d, rfl, hd, sh, nd, dep, sz, q⟩ := h
  obtain ⟨u, rfl, ru⟩ := vals1 r
  obtain rfl : u = Value.ref a := ru
  obtain ⟨as, rd⟩ := Dp.reads I d _ _ hd rfl
  refine repr_of_reads' rd sh (fun h => by rw [nd] at h; exact nomatch h) hg (by omega) (fun _ _ e => e) (fun h' u tk k => ?_) sz
  exact ⟨.str d.shown, H, I.kept fun b o e => k b o e, ⟨u, rfl⟩, q⟩
end DQ
namespace DQ
open PySem PySem.Spec PyProof.Rows L2
/-! ### defs that are called where no guard is around (repr wants that) -/
structure FnG (P : Program) (w : World) (K : PySem.W.Frag) (mg : Str → Option Value) (base : Heap) (CX : CXT) (k : Nat) (f : Addr) (fd : FuncData) (ps : List Str) (sp : Sp) : Prop where
  len : ∀ vs H Q E, sp vs H Q E → vs.length = ps.length
  run : ∀ (A : Around) (outer : List Env) (s : Shared) (H : Hp) (args : Args) (us : List Value) (vs : List V) (Q : VK) (E : XK), Room k A → A.guards = some [] → Env0 P w K mg base A outer s H → BindsTo s fd args (ps.zip us) → Vals vs us → sp vs H Q E →
    codeAny (model P w) A (.call (.ref f) args) (CR CX outer P w H s Q E) s
theorem FnG.of {P : Program} {w : World} {K : PySem.W.Frag} {mg : Str → Option Value} {base : Heap} {CX : CXT} {k : Nat} {f : Addr} {fd : FuncData} {ps : List Str} {sp : Sp} (F : FnOk P w K mg base CX k f fd ps sp) : FnG P w K mg base CX k f fd ps sp :=
  ⟨F.len, fun A outer s H args us vs Q E hr _ => F.run A outer s H args us vs Q E hr⟩
theorem fnG_of {CX : CXT} {P : Program} {w : World} {K : PySem.W.Frag} {mg : Str → Option Value} {base : Heap} {k : Nat} {f : Addr} {name qual : Str} {params : Arguments} {body : List Stmt} {scope : Scope} {dV kV doc pm cdv ct oc : Value} {an od : Option Addr}
    {osl : Array (Option Value)} {N ps : List Str} {sp : Sp} (lk : K.lookup f = some ⟨oc, od, .func (PySem.W.fnOf name qual params body scope dV kV doc pm an cdv ct), osl⟩) (hcd : PySem.W.codeIn K cdv qual = true) (S : FnScope N ps scope)
    (len : ∀ vs H Q E, sp vs H Q E → vs.length = ps.length)
    (hbody : ∀ (A : Around) (outer : List Env) (s : Shared) (H : Hp) (vs : List V) (Q : VK) (E : XK), Room k (A.deeper (envOfC qual scope s.heap.objs.size f cdv)) → A.guards = some [] → sp vs H Q E →
      ∃ t, PSs (cxOf CX P w K mg base N qual scope f cdv A outer s H E) body t ∧ t { nx := fun _ H' => Q .non H', rt := Q } (L2.start N vs) H) :
    FnG P w K mg base CX (k + 1) f (PySem.W.fnOf name qual params body scope dV kV doc pm an cdv ct) ps sp := by
  refine ⟨len, fun A outer s H args us vs Q E hr hg e0 hb r hsp => ?_⟩
  have hl := len _ _ _ _ hsp
  have KX : K.In s.heap := e0.mod.kin.keeps fun b o e => (e0.bs b o e).1
  have lim : s.heap.NoLimit := e0.mod.nolimit.keeps fun b o e => (e0.bs b o e).1
  have hkind : ∀ y ∈ ps.zip us, scope.names.lookup y.1 = some .local ∨ (scope.names.lookup y.1 = some .cell ∧ ((cellsFrom (s.heap.objs.size + 1) scope.names []).lookup y.1).isSome = true) := fun ⟨n, v⟩ hy => by
    rcases S.par n (List.of_mem_zip hy).1 with q | q
    · exact .inl q
    · exact .inr ⟨q, PySem.W.cellsFrom_some _ _ _ (.inl q)⟩
  refine codeAny_call_function hr.depth (KX _ _ lk) rfl S.co S.gen rfl (PySem.W.codeRec_of KX hcd) (hb _ _ _ _ ?_)
  refine wpAny_newFunctionEnv_cells S.kind hkind fun env he s1 x => ?_
  subst he
  refine ⟨lim.keeps x.toInCall.keep, codeAny_func ?_⟩
  obtain ⟨t, ht, hq⟩ := hbody A outer s H vs Q E (hr.deeper _) hg hsp
  have I : Inv (cxOf CX P w K mg base N qual scope f cdv A outer s H E) [] (L2.start N vs) H s1 := inv_start S hr.hd e0 hl r x
  refine wpAny_mono (ht.run [] s1 (L2.start N vs) H _ I hq) (fun fl s' hs => ?_) fun e s' hs => hs
  have fin : ∀ {σ' : L2.St} {H' : Hp} {v : V} {u : Value}, Inv (cxOf CX P w K mg base N qual scope f cdv A outer s H E) [] σ' H' s' → RelV v u → Q v H' → CE outer P w H s Q u s' :=
    fun {σ' H' v u} J rv q => ⟨v, H', J.os, J.bare, J.base, J.hok, rv, q⟩
  cases fl with
  | ret u =>
    obtain ⟨v, σ', H', J, rv, q⟩ := hs
    exact fin J rv q
  | next =>
    obtain ⟨σ', H', J, q⟩ := hs
    exact fin (v := V.non) (u := Value.none) J rfl q
  | brk =>
    obtain ⟨_, _, _, q⟩ := hs
    exact False.elim q
  | cont =>
    obtain ⟨_, _, _, q⟩ := hs
    exact False.elim q
section
variable {P : Program} {w : World} {K : PySem.W.Frag} {mg : Str → Option Value} {base : Heap}
theorem fun_okG {CX : CXT} {x qual : Str} {st : Stmt} {f : Addr} {fd : FuncData} {N ps : List Str} {k : Nat} {sp : Sp} (F : Fun K x qual st f fd) (S : FnScope N ps (defScope st)) (len : ∀ vs H Q E, sp vs H Q E → vs.length = ps.length)
    (hbody : ∀ (cdv : Value) (A : Around) (outer : List Env) (s : Shared) (H : Hp) (vs : List V) (Q : VK) (E : XK), Room k (A.deeper (envOfC qual (defScope st) s.heap.objs.size f cdv)) → A.guards = some [] → sp vs H Q E →
      ∃ t, PSs (cxOf CX P w K mg base N qual (defScope st) f cdv A outer s H E) (defBody st) t ∧ t { nx := fun _ H' => Q .non H', rt := Q } (L2.start N vs) H) : FnG P w K mg base CX (k + 1) f fd ps sp := by
  obtain ⟨oc, od, kV, doc, pm, an, cdv, ct, osl, rfl, lk, hcd⟩ := F.ex
  exact fnG_of lk hcd S len fun A outer s H vs Q E hr hg hsp => hbody cdv A outer s H vs Q E hr hg hsp
end
section
variable {X : Cx} {CX : CXT} {k : Nat} {f : Addr} {fd : FuncData} {ps : List Str} {sp : Sp} {dvs : List V} {ds : List Value} {E : XK} {x : Str} {p pos : Pos} {e : Expr} {es : List Expr} {t : TA}
theorem run_fnG {pins : List (Addr × Obj)} {σ : L2.St} {H : Hp} {s : Shared} {Q : VK} {us : List Value} {vs : List V} (F : FnG X.prog X.w X.K X.mg X.base CX k f fd ps sp) (hr : Room k X.A) (hG : X.A.guards = some []) (hb : Binds X.K fd ps ds) (hd : Vals dvs ds) (hx : Passes CX X E)
    (I : Inv X pins σ H s) (r : Vals vs us) (h : sp (vs ++ dvs) H Q E) : wpAny (model X.prog X.w) X.A (call (.ref f) us) (EP X pins σ Q) X.xe s := by
  have r2 : Vals (vs ++ dvs) (us ++ ds) := r.append hd
  have hl : (us ++ ds).length = ps.length := by rw [← r2.length]; exact F.len _ _ _ _ h
  refine wpAny_call (codeAny_mono (F.run X.A X.stack s H ⟨us, []⟩ (us ++ ds) (vs ++ dvs) Q E hr hG I.env0 (hb s us I.kIn hl) r2 h) fun r s' hq => ?_)
  cases r with
  | error e => exact hx pins σ H s e s' I hq
  | ok fl =>
    cases fl with
    | ret u => exact I.after hq
    | next => exact False.elim hq
    | brk => exact False.elim hq
    | cont => exact False.elim hq
theorem pe_callGd (F : FnG X.prog X.w X.K X.mg X.base CX k f fd ps sp) (hr : Room k X.A) (hG : X.A.guards = some []) (hg : Gl X x) (hm : X.mg x = some (.ref f)) (hk : PySem.W.keepIn X.K (.ref f) = true) (hb : Binds X.K fd ps ds) (hd : Vals dvs ds) (hx : Passes CX X E)
    (ha : PA X (e :: es) t) (hdb : (x == ("__debug__" : Str)) = false := by decide) (he : starEach (e :: es) X.env = (false, eval e X.env) :: starEach es X.env := by rfl) (hpl : (backTo pos (starEach es X.env)).any (·.1) = false := by rfl) :
    PE X (.Call (.Name x p) (e :: es) [] pos) (tCall sp dvs E t) := by
  refine ⟨fun pins s σ H Q I h => ?_⟩
  refine wpAny_Call_Name_kw (ld_glob I hg hm ?_ hdb)
  refine PySem.W.callWith_K (h₀ := X.base) I.ok.mod.kin hk (thn (ha.run pos pins s σ H _ I h) fun us s1 ⟨vs, H1, I1, r, q⟩ => ⟨I1.kIn, ?_⟩) he hpl
  exact run_fnG F hr hG hb hd hx I1 r q
end
end DQ
namespace DQ
open PySem PySem.Spec PyProof.Rows L2
/-- what repr wants of data -/
structure Shows (d : PyData) : Prop where
  sh : d.showable = true
  nod : d.hasDict = false
  dep : d.depth ≤ 64
  sz : d.shown.length ≤ sizeLine
/-- repr of any data; the guards around are known to be none -/
def rReprV (K : PySem.W.Frag) : List V → Hp → VK → Prop := fun xs H Q => ∃ (v : V) (d : PyData), xs = [v] ∧ Dp K H v d ∧ Shows d ∧ Q (.str d.shown) H
theorem call_reprV {X : Cx} (hu : X.A.units + 65 < cLine) (hg : X.A.guards = some []) : CallR X (.builtin "repr") (rReprV X.K) := by
  intro pins s σ H xs us Q I r h
  obtain ⟨v, d, rfl, hd, ⟨sh, nod, dep, sz⟩, q⟩ := h
  cases hd with
  | non =>
    obtain ⟨u, rfl, ru⟩ := vals1 r
    obtain rfl : u = Value.none := ru
    exact PySem.P.repr_of_none ⟨.str _, H, I.tok _, ⟨_, rfl⟩, q⟩
  | bl b =>
    obtain ⟨u, rfl, ru⟩ := vals1 r
    obtain rfl : u = Value.bool b := ru
    exact PySem.P.repr_of_bool ⟨.str _, H, I.tok _, ⟨_, rfl⟩, q⟩
  | int i =>
    obtain ⟨u, rfl, t, rfl⟩ := vals1 r
    exact PySem.P.repr_of_int (by simpa [PyData.showable] using sh) ⟨.str _, H, I.tok _, ⟨_, rfl⟩, q⟩
  | str x =>
    obtain ⟨u, rfl, t, rfl⟩ := vals1 r
    exact PySem.P.repr_of_str ⟨.str _, H, I.tok _, ⟨_, rfl⟩, q⟩ sz
  | lst hs ha => exact call_reprD hu hg pins s σ H _ us Q I r ⟨_, _, rfl, .lst hs ha, sh, nod, dep, sz, q⟩
  | tup hs ha => exact call_reprD hu hg pins s σ H _ us Q I r ⟨_, _, rfl, .tup hs ha, sh, nod, dep, sz, q⟩
  | dct h => simp [PyData.hasDict] at nod
end DQ

set_option Elab.async false
set_option linter.all false
set_option maxRecDepth 100000
set_option maxHeartbeats 4000000
namespace DQ
open PySem PySem.Spec PyProof.Rows L2
abbrev sWhole : Stmt := topS 19
abbrev sBetween : Stmt := topS 20
abbrev sNumber : Stmt := topS 22
abbrev sWords : Stmt := topS 23
abbrev sMarks : Stmt := topS 24
abbrev sColumns : Stmt := topS 25
abbrev sNumbers : Stmt := topS 26
theorem scWhole : FnScope ["value"] ["value"] (defScope sWhole) := ⟨rfl, rfl, rfl, by decide +kernel, rfl, by decide +kernel, by decide +kernel⟩
theorem scBetween : FnScope ["value", "least", "most"] ["value", "least", "most"] (defScope sBetween) := ⟨rfl, rfl, rfl, by decide +kernel, rfl, by decide +kernel, by decide +kernel⟩
theorem scNumber : FnScope ["value"] ["value"] (defScope sNumber) := ⟨rfl, rfl, rfl, by decide +kernel, rfl, by decide +kernel, by decide +kernel⟩
theorem scWords : FnScope ["value", "most", "word"] ["value", "most"] (defScope sWords) := ⟨rfl, rfl, rfl, by decide +kernel, rfl, by decide +kernel, by decide +kernel⟩
theorem scMarks : FnScope ["value"] ["value"] (defScope sMarks) := ⟨rfl, rfl, rfl, by decide +kernel, rfl, by decide +kernel, by decide +kernel⟩
theorem scColumns : FnScope ["marks", "value", "word"] ["marks", "value"] (defScope sColumns) := ⟨rfl, rfl, rfl, by decide +kernel, rfl, by decide +kernel, by decide +kernel⟩
theorem scNumbers : FnScope ["value", "item"] ["value"] (defScope sNumbers) := ⟨rfl, rfl, rfl, by decide +kernel, rfl, by decide +kernel, by decide +kernel⟩
def numD : PyData → Bool
  | .int i => decide (0 ≤ i) && decide (i ≤ 1000000000)
  | _ => false
def numsD : PyData → Bool
  | .list ds => ds.all numD
  | _ => false
def wordD : PyData → Bool
  | .str x => wordB x
  | _ => false
def textD : PyData → Option Str
  | .str x => some x
  | _ => none
def texts (ds : List PyData) : List Str := ds.filterMap textD
def wordsD (m : Nat) : PyData → Bool
  | .list ds => decide (ds.length ≤ m) && (ds.all wordD && decide (differ (texts ds) ds.length = ds.length))
  | _ => false
/-- no text of more than 1000 signs -/
def Short (d : PyData) : Prop := ∀ x, d = .str x → x.length ≤ 1000
/-- a list is of at most 10000 items, no text among them of more than 1000 signs -/
def Fits (d : PyData) : Prop := ∀ ds, d = .list ds → ds.length ≤ 10000 ∧ ∀ e ∈ ds, Short e
theorem texts_all {K : PySem.W.Frag} {H : Hp} : ∀ {vs : List V} {ds : List PyData}, DpAll K H vs ds → ds.all wordD = true → vs = (texts ds).map V.str ∧ (texts ds).length = ds.length
  | _, _, .nil, _ => ⟨rfl, rfl⟩
  | v :: vs, d :: ds, .cons a t, h => by
    rw [List.all_cons, Bool.and_eq_true] at h
    obtain ⟨h1, h2⟩ := h
    obtain ⟨e, l⟩ := texts_all t h2
    cases a with
    | str x =>
      unfold texts at e l ⊢
      rw [List.filterMap_cons_some (f := textD) (a := .str x) (b := x) rfl, List.map_cons, ← e, List.length_cons, l]
      exact ⟨rfl, rfl⟩
    | _ => cases h1
theorem all_at {f : PyData → Bool} {ds : List PyData} {i : Nat} {b : Bool} (h : (ds.map f)[i]? = some b) : ∃ d, ds[i]? = some d ∧ b = f d := by
  rw [List.getElem?_map] at h
  obtain ⟨x, hx, e⟩ := Option.map_eq_some_iff.mp h
  exact ⟨x, hx, e.symm⟩
section
variable {P : Program} {w : World} {K : PySem.W.Frag} {mg : Str → Option Value} {base : Heap}
/-- an int, no flag -/
def wholeD : PyData → Bool
  | .int _ => true
  | _ => false
/-- an int within bounds -/
def betweenD (a b : Int) : PyData → Bool
  | .int i => decide (a ≤ i) && decide (i ≤ b)
  | _ => false
def spWhole (K : PySem.W.Frag) : Sp := fun vs H Q _ => ∃ (v : V) (d : PyData), vs = [v] ∧ Dp K H v d ∧ Q (.bl (wholeD d)) H
theorem ok_whole {f : Addr} {fd : FuncData} (F : Fun K "is_whole" "is_whole" sWhole f fd) (mI : mg "isinstance" = none) (mInt : mg "int" = none) (mBool : mg "bool" = none) :
    FnOk P w K mg base CX0 1 f fd ["value"] (spWhole K) := by
  refine F.ok scWhole (fun vs H Q E h => ?_) (fun cdv A outer s H vs Q E hr h => ?_)
  · obtain ⟨v, d, rfl, _⟩ := h
    rfl
  obtain ⟨v, d, rfl, hd, q⟩ := h
  refine ⟨_, pss_one (ps_ret (pe_and (pe_callB call_isi (by rfl) mI (by decide +kernel) (pa_cons (pv 0) (pa_cons (pe_bltn (v := .ty "int") (by rfl) mInt (by decide +kernel) rfl) pa_nil)))
    (pe_one (pe_not (pe_callB call_isi (by rfl) mI (by decide +kernel) (pa_cons (pv 0) (pa_cons (pe_bltn (v := .ty "bool") (by rfl) mBool (by decide +kernel) rfl) pa_nil))))))), ?_⟩
  have ty := dp_ty hd
  refine ⟨_, rfl, v, .ty "int", _, _, _, rfl, .ty "int", ty, kit_data (by simp) d, _, rfl, ite2 (fun c1 => ⟨_, rfl, v, .ty "bool", _, _, _, rfl, .ty "bool", ty, kit_data (by simp) d, _, rfl, ?_⟩) fun c1 => ?_⟩
  · cases hd with
    | int i => exact q
    | bl b => exact q
    | _ => exact absurd c1 (by simp only [isT, tyN]; decide)
  · have : wholeD d = false := by
      cases hd with
      | int i => exact absurd rfl c1
      | _ => rfl
    rw [this] at q
    exact q
def spBetween (K : PySem.W.Frag) : Sp := fun vs H Q _ => ∃ (v : V) (d : PyData) (a b : Int), vs = [v, .int a, .int b] ∧ Dp K H v d ∧ Q (.bl (betweenD a b d)) H
theorem ok_between {f fw : Addr} {fd fdw : FuncData} (F : Fun K "is_between" "is_between" sBetween f fd) (GW : FnOk P w K mg base CX0 1 fw fdw ["value"] (spWhole K)) (bW : Binds K fdw ["value"] []) (kW : PySem.W.keepIn K (.ref fw) = true) (mW : mg "is_whole" = some (.ref fw)) :
    FnOk P w K mg base CX0 2 f fd ["value", "least", "most"] (spBetween K) := by
  refine F.ok scBetween (fun vs H Q E h => ?_) (fun cdv A outer s H vs Q E hr h => ?_)
  · obtain ⟨v, d, a, b, rfl, _⟩ := h
    rfl
  obtain ⟨v, d, a, b, rfl, hd, q⟩ := h
  refine ⟨_, pss_one (ps_ret (pe_and (pe_call GW (hr.mono (by decide)) rfl mW kW bW .nil pass0 (pa_cons (pv 0) pa_nil)) (pe_one (pe_chain op_le op_le (pv 1) (pv 0) (pv 2))))), ?_⟩
  refine ⟨_, rfl, v, d, rfl, hd, _, rfl, ite2 (fun c2 => ?_) fun c2 => ?_⟩
  · cases hd with
    | int i =>
      refine ⟨_, rfl, _, rfl, _, _, rfl, rfl, _, rfl, ite2 (fun c3 => ⟨_, rfl, _, _, rfl, rfl, ?_⟩) fun c3 => ?_⟩
      · have : betweenD a b (.int i) = decide (i ≤ b) := by
          show (decide (a ≤ i) && decide (i ≤ b)) = _
          rw [c3, Bool.true_and]
        rw [this] at q
        exact q
      · have : betweenD a b (.int i) = false := by
          show (decide (a ≤ i) && decide (i ≤ b)) = _
          rw [Bool.eq_false_iff.mpr c3, Bool.false_and]
        rw [this] at q
        exact q
    | _ => exact absurd c2 (by simp only [wholeD]; decide)
  · have : betweenD a b d = false := by
      cases hd with
      | int i => exact absurd rfl c2
      | _ => rfl
    rw [this] at q
    exact q
theorem num_between (d : PyData) : betweenD 0 1000000000 d = numD d := by cases d <;> rfl
def spNumber (K : PySem.W.Frag) : Sp := fun vs H Q _ => ∃ (v : V) (d : PyData), vs = [v] ∧ Dp K H v d ∧ Q (.bl (numD d)) H
theorem ok_number {f fb : Addr} {fd fdb : FuncData} {t1 : Tok} (F : Fun K "is_number" "is_number" sNumber f fd) (GB : FnOk P w K mg base CX0 2 fb fdb ["value", "least", "most"] (spBetween K)) (bB : Binds K fdb ["value", "least", "most"] []) (kB : PySem.W.keepIn K (.ref fb) = true) (mB : mg "is_between" = some (.ref fb))
    (mM : mg "MOST_NUMBER" = some (.int 1000000000 t1)) : FnOk P w K mg base CX0 3 f fd ["value"] (spNumber K) := by
  refine F.ok scNumber (fun vs H Q E h => ?_) (fun cdv A outer s H vs Q E hr h => ?_)
  · obtain ⟨v, d, rfl, _⟩ := h
    rfl
  obtain ⟨v, d, rfl, hd, q⟩ := h
  refine ⟨_, pss_one (ps_ret (pe_call GB (hr.mono (by decide)) rfl mB kB bB .nil pass0 (pa_cons (pv 0) (pa_cons pe_int (pa_cons (pe_glob (v := .int 1000000000) (by rfl) mM ⟨_, rfl⟩) pa_nil))))), ?_⟩
  refine ⟨_, rfl, v, d, 0, 1000000000, rfl, hd, ?_⟩
  rw [num_between]
  exact q
def spNumbers (K : PySem.W.Frag) : Sp := fun vs H Q _ => ∃ (v : V) (d : PyData), vs = [v] ∧ Dp K H v d ∧ Fits d ∧ ∀ H', Same H H' → Q (.bl (numsD d)) H'
theorem ok_numbers {f fn : Addr} {fd fdn : FuncData} (F : Fun K "are_numbers" "are_numbers" sNumbers f fd) (GN : FnOk P w K mg base CX0 3 fn fdn ["value"] (spNumber K)) (bN : Binds K fdn ["value"] []) (kN : PySem.W.keepIn K (.ref fn) = true) (mN : mg "is_number" = some (.ref fn))
    (mI : mg "isinstance" = none) (mList : mg "list" = none) (mAll : mg "all" = none) : FnOk P w K mg base CX0 4 f fd ["value"] (spNumbers K) := by
  refine F.ok scNumbers (fun vs H Q E h => ?_) (fun cdv A outer s H vs Q E hr h => ?_)
  · obtain ⟨v, d, rfl, _⟩ := h
    rfl
  obtain ⟨v, d, rfl, hd, fit, q⟩ := h
  have nd := scNumbers.nd
  refine ⟨_, pss_one (ps_ret (pe_and (pe_callB call_isi (by rfl) mI (by decide +kernel) (pa_cons (pv 0) (pa_cons (pe_bltn (v := .ty "list") (by rfl) mList (by decide +kernel) rfl) pa_nil)))
    (pe_one (pe_callB (cr_all rfl) (by rfl) mAll (by decide +kernel) (pa_cons (pe_lc (own := [("item", 1)]) (g := gName 1) (tt := tYes) rfl nd (pi_list (pv 0)) (blkOk_by (own := [("item", 1)]) (N := ["value", "item"]) (sc := defScope sNumbers) (by decide +kernel)) (fun _ _ _ _ _ => pg_name (i := 1) nd rfl (Or.inl rfl)) (fun _ _ _ _ _ => pts_nil)
      (fun _ _ _ _ _ => pe_call GN (hr.mono (by decide)) rfl mN kN bN .nil pass0 (pa_cons (pv 1) pa_nil))) pa_nil))))), ?_⟩
  have ty := dp_ty hd
  refine ⟨_, rfl, v, .ty "list", _, _, _, rfl, .ty "list", ty, kit_data (by simp) d, _, rfl, ite2 (fun c1 => ?_) fun c1 => ?_⟩
  · cases hd with
    | @lst a xs ds hs ha =>
      have len := dpAll_len ha
      obtain ⟨few, _⟩ := fit ds rfl
      refine ⟨_, rfl, a, rfl, ⟨_, hs⟩, fun D nD => lc_bools (walk_list (K := K) (a := a) (xs := xs)) (ds.map numD) (by rw [List.length_map, len]) (Nat.lt_of_le_of_lt (show xs.length ≤ 10000 by rw [len]; exact few) (by decide)) nD (fun _ s1 => L2.Same.seq s1 hs) (fun _ _ _ _ y => by rw [y.1]; exact fun _ _ h => h)
        (fun i v H2 H3 b hi hb s1 y R hR => ?_) (fun H2 s2 e2 => ?_) (fun _ _ _ _ _ m h => m _ _ h)⟩
      · obtain ⟨rfl, hv⟩ := y
        obtain ⟨e, he, rfl⟩ := all_at hb
        exact ⟨rfl, _, rfl, v, e, rfl, dp_same s1 _ _ (dpAll_get ha hv he), hR _ fun _ _ h => h⟩
      · refine ⟨D, _, rfl, SqL.of e2, ?_⟩
        rw [List.all_map]
        exact q H2 s2
    | _ => exact absurd c1 (by simp only [isT, tyN]; decide)
  · have : numsD d = false := by
      cases hd with
      | lst hs ha => exact absurd rfl c1
      | _ => rfl
    have q := q H fun _ _ h => h
    rw [this] at q
    exact q
end
end DQ

set_option Elab.async false
set_option linter.all false
set_option maxRecDepth 100000
set_option maxHeartbeats 4000000
namespace DQ
open PySem PySem.Spec PyProof.Rows L2
theorem not_list {d : PyData} (h : isT "list" d = false) : ∀ ds, d ≠ .list ds := fun ds e => by
  rw [e] at h
  exact absurd h (by simp only [isT, tyN]; decide)
section
variable {P : Program} {w : World} {K : PySem.W.Frag} {mg : Str → Option Value} {base : Heap}
def spWords (K : PySem.W.Frag) : Sp := fun vs H Q _ => ∃ (v : V) (d : PyData) (m : Nat), vs = [v, .int m] ∧ m ≤ 100 ∧ Dp K H v d ∧ Fits d ∧ ∀ H', Same H H' → Q (.bl (wordsD m d)) H'
theorem ok_words {f fn : Addr} {fd fdn : FuncData} (F : Fun K "are_words" "are_words" sWords f fd) (GW : FnOk P w K mg base CX0 2 fn fdn ["value"] (spIsWord K)) (bW : Binds K fdn ["value"] []) (kW : PySem.W.keepIn K (.ref fn) = true) (mW : mg "is_word" = some (.ref fn))
    (mI : mg "isinstance" = none) (mList : mg "list" = none) (mLen : mg "len" = none) (mSet : mg "set" = none) (mAll : mg "all" = none) : FnOk P w K mg base CX0 3 f fd ["value", "most"] (spWords K) := by
  refine F.ok scWords (fun vs H Q E h => ?_) (fun cdv A outer s H vs Q E hr h => ?_)
  · obtain ⟨v, d, m, rfl, _⟩ := h
    rfl
  obtain ⟨v, d, m, rfl, hm, hd, fit, q⟩ := h
  have nd := scWords.nd
  refine ⟨_, (pss_cons (ps_if (PW.pt (pw_or (pt_not (pt_val (pe_callB call_isi (by rfl) mI (by decide +kernel) (pa_cons (pv 0) (pa_cons (pe_bltn (v := .ty "list") (by rfl) mList (by decide +kernel) rfl) pa_nil)))))
      (pw_or1 (pt_cmpR op_gt (pe_callB call_len_seq (by rfl) mLen PySem.boot_len (pa_cons (pv 0) pa_nil)) (pv 1) (by rfl))))) (pss_one (ps_ret pe_bl)) pss_nil)
    (pss_one (ps_ret (pe_and (pe_callB (cr_all rfl) (by rfl) mAll (by decide +kernel) (pa_cons (pe_lc (own := [("word", 2)]) (g := gName 2) (tt := tYes) rfl nd (pi_list (pv 0)) (blkOk_by (own := [("word", 2)]) (N := ["value", "most", "word"]) (sc := defScope sWords) (by decide +kernel)) (fun _ _ _ _ _ => pg_name (i := 2) nd rfl (Or.inl rfl)) (fun _ _ _ _ _ => pts_nil)
      (fun _ _ _ _ _ => pe_call GW (hr.mono (by decide)) rfl mW kW bW .nil pass0 (pa_cons (pv 2) pa_nil))) pa_nil))
      (pe_one (pe_cmpR op_eq (pe_lenSetT rfl (by rfl) mLen (by rfl) mSet (pv 0)) (pe_callB call_len_seq (by rfl) mLen PySem.boot_len (pa_cons (pv 0) pa_nil)) (by rfl))))))), ?_⟩
  have ty := dp_ty hd
  refine ⟨_, rfl, v, .ty "list", _, _, _, rfl, .ty "list", ty, kit_data (by simp) d, ?_⟩
  refine ⟨_, rfl, ite2 (fun c1 => ?_) fun c1 => ?_⟩
  · have no : wordsD m d = false := by
      cases hd with
      | lst hs ha => exact absurd c1 (by simp only [isT, tyN]; decide)
      | _ => rfl
    have q := q H fun _ _ h => h
    rw [no] at q
    exact q
  cases hd with
  | @lst a xs ds hs ha =>
    have len := dpAll_len ha
    obtain ⟨few, short⟩ := fit ds rfl
    refine ⟨_, rfl, a, _, rfl, .inl hs, _, rfl, _, _, rfl, rfl, _, rfl, ite2 (fun c2 => ?_) fun c2 => ?_⟩
    · have no : wordsD m (.list ds) = false := by
        have c2 := of_decide_eq_true c2
        show (decide (ds.length ≤ m) && _) = false
        rw [decide_eq_false (by omega), Bool.false_and]
      have q := q H fun _ _ h => h
      rw [no] at q
      exact q
    have le : ds.length ≤ m := by
      have c2 := of_decide_eq_false (Bool.eq_false_iff.mpr c2)
      omega
    have yes : wordsD m (.list ds) = (ds.all wordD && decide (differ (texts ds) ds.length = ds.length)) := by
      show (decide (ds.length ≤ m) && _) = _
      rw [decide_eq_true le, Bool.true_and]
    rw [yes] at q
    refine ⟨_, rfl, a, rfl, ⟨_, hs⟩, fun D nD => lc_bools (walk_list (K := K) (a := a) (xs := xs)) (ds.map wordD) (by rw [List.length_map, len]) (Nat.lt_of_le_of_lt (show xs.length ≤ 10000 by rw [len]; exact few) (by decide)) nD (fun _ s1 => L2.Same.seq s1 hs) (fun _ _ _ _ y => by rw [y.1]; exact fun _ _ h => h)
        (fun i v H2 H3 b hi hb s1 y R hR => ?_) (fun H2 s2 e2 => ?_) (fun _ _ _ _ _ m h => m _ _ h)⟩
    · obtain ⟨rfl, hv⟩ := y
      obtain ⟨e, he, rfl⟩ := all_at hb
      have dv := dp_same s1 _ _ (dpAll_get ha hv he)
      refine ⟨rfl, _, rfl, v, rfl, ?_⟩
      cases dv with
      | str x => exact .inl ⟨x, rfl, short _ (List.mem_of_getElem? he) x rfl, fun H' sm => hR H' sm⟩
      | non => exact .inr ⟨⟨_, dp_ty (K := K) (d := .none) .non, kit_data (by simp) _⟩, hR _ fun _ _ h => h⟩
      | bl b => exact .inr ⟨⟨_, dp_ty (K := K) (d := .bool b) (.bl b), kit_data (by simp) _⟩, hR _ fun _ _ h => h⟩
      | int i => exact .inr ⟨⟨_, dp_ty (K := K) (d := .int i) (.int i), kit_data (by simp) _⟩, hR _ fun _ _ h => h⟩
      | lst h1 h2 => exact .inr ⟨⟨_, dp_ty (Dp.lst h1 h2), kit_data (by simp) _⟩, hR _ fun _ _ h => h⟩
      | tup h1 h2 => exact .inr ⟨⟨_, dp_ty (Dp.tup h1 h2), kit_data (by simp) _⟩, hR _ fun _ _ h => h⟩
      | dct h1 => exact .inr ⟨⟨_, dp_ty (Dp.dct h1), kit_data (by simp) _⟩, hR _ fun _ _ h => h⟩
    · refine ⟨D, _, rfl, SqL.of e2, _, rfl, ite2 (fun c3 => ?_) fun c3 => ?_⟩
      · rw [List.all_map] at c3
        have c3 : ds.all wordD = true := c3
        obtain ⟨et, lt⟩ := texts_all ha c3
        have hs2 := L2.Same.seq s2 hs
        refine ⟨_, rfl, a, texts ds, rfl, by rw [← et]; exact hs2, by omega, _, rfl, a, xs, rfl, .inl hs2, rfl, ?_⟩
        have q := q H2 s2
        rw [c3, Bool.true_and] at q
        rw [lt, len]
        have ee : decide (V.int ((differ (texts ds) ds.length : Nat) : Int) = V.int (ds.length : Nat)) = decide (differ (texts ds) ds.length = ds.length) := by
          by_cases z : differ (texts ds) ds.length = ds.length
          · rw [z]
            simp
          · rw [decide_eq_false z]
            exact decide_eq_false fun k => z (by injection k with k; omega)
        rw [ee]
        exact q
      · rw [List.all_map] at c3
        have q := q H2 s2
        rw [show ds.all wordD = false from Bool.eq_false_iff.mpr c3, Bool.false_and] at q
        exact q
  | _ => exact absurd rfl c1
def spMarks (K : PySem.W.Frag) (m : Nat) : Sp := fun vs H Q _ => ∃ (v : V) (d : PyData), vs = [v] ∧ Dp K H v d ∧ Fits d ∧ ∀ H', Same H H' → Q (.bl (wordsD m d)) H'
theorem ok_marks {f fn : Addr} {fd fdn : FuncData} {t1 : Tok} (F : Fun K "are_marks" "are_marks" sMarks f fd) (GW : FnOk P w K mg base CX0 3 fn fdn ["value", "most"] (spWords K)) (bW : Binds K fdn ["value", "most"] []) (kW : PySem.W.keepIn K (.ref fn) = true) (mW : mg "are_words" = some (.ref fn))
    (mM : mg "MOST_MARKS" = some (.int 4 t1)) : FnOk P w K mg base CX0 4 f fd ["value"] (spMarks K 4) := by
  refine F.ok scMarks (fun vs H Q E h => ?_) (fun cdv A outer s H vs Q E hr h => ?_)
  · obtain ⟨v, d, rfl, _⟩ := h
    rfl
  obtain ⟨v, d, rfl, hd, fit, q⟩ := h
  refine ⟨_, pss_one (ps_ret (pe_call GW (hr.mono (by decide)) rfl mW kW bW .nil pass0 (pa_cons (pv 0) (pa_cons (pe_glob (v := .int 4) (by rfl) mM ⟨_, rfl⟩) pa_nil)))), ?_⟩
  exact ⟨_, rfl, v, d, 4, rfl, by decide, hd, fit, q⟩
end
end DQ

set_option Elab.async false
set_option linter.all false
set_option maxRecDepth 100000
set_option maxHeartbeats 4000000
namespace DQ
open PySem PySem.Spec PyProof.Rows L2
def columnsD (ms : List Str) : PyData → Bool
  | .list ds => wordsD 2 (.list ds) && !(texts ds).any fun x => inV (.str x) (ms.map V.str)
  | _ => false
theorem columns_no {ms : List Str} {d : PyData} (h : wordsD 2 d = false) : columnsD ms d = false := by
  cases d with
  | list ds =>
    show (wordsD 2 (.list ds) && _) = false
    rw [h, Bool.false_and]
  | _ => rfl
theorem cut_drop {xs : List V} {k : Nat} : cutV xs (some (k : Int)) none = xs.drop k := by
  unfold cutV
  rw [HT.sIx_none, show HT.sIx xs.length 0 (some (k : Int)) = min k xs.length from HT.sIx_nat _ _ _]
  by_cases h : k ≤ xs.length
  · rw [Nat.min_eq_left h, List.take_of_length_le (by rw [List.length_drop]; exact Nat.le_refl _)]
  · rw [Nat.min_eq_right (by omega), Nat.sub_self, List.take_zero, List.drop_eq_nil_of_le (by omega)]
def ascB (ds : List PyData) : Bool := (ds.zip (ds.drop 1)).all fun p => PySem.W.dataLt p.1 p.2
section
variable {P : Program} {w : World} {K : PySem.W.Frag} {mg : Str → Option Value} {base : Heap}
def spColumns (K : PySem.W.Frag) : Sp := fun vs H Q _ => ∃ (ma : Addr) (ms : List Str) (v : V) (d : PyData), vs = [.ref ma, v] ∧ SqL K H ma (ms.map V.str) ∧ Dp K H v d ∧ Fits d ∧ ∀ H', Same H H' → Q (.bl (columnsD ms d)) H'
theorem ok_columns {f fn : Addr} {fd fdn : FuncData} {t1 : Tok} (F : Fun K "are_columns" "are_columns" sColumns f fd) (GW : FnOk P w K mg base CX0 3 fn fdn ["value", "most"] (spWords K)) (bW : Binds K fdn ["value", "most"] []) (kW : PySem.W.keepIn K (.ref fn) = true) (mW : mg "are_words" = some (.ref fn))
    (mM : mg "MOST_COLUMNS" = some (.int 2 t1)) (mAny : mg "any" = none) : FnOk P w K mg base CX0 4 f fd ["marks", "value"] (spColumns K) := by
  refine F.ok scColumns (fun vs H Q E h => ?_) (fun cdv A outer s H vs Q E hr h => ?_)
  · obtain ⟨ma, ms, v, d, rfl, _⟩ := h
    rfl
  obtain ⟨ma, ms, v, d, rfl, hma, hd, fit, q⟩ := h
  have nd := scColumns.nd
  refine ⟨_, pss_one (ps_ret (pe_and (pe_call GW (hr.mono (by decide)) rfl mW kW bW .nil pass0 (pa_cons (pv 1) (pa_cons (pe_glob (v := .int 2) (by rfl) mM ⟨_, rfl⟩) pa_nil)))
    (pe_one (pe_not (pe_callB (cr_any rfl) (by rfl) mAny (by decide +kernel) (pa_cons (pe_lc (own := [("word", 2)]) (g := gName 2) (tt := tYes) rfl nd (pi_list (pv 1)) (blkOk_by (own := [("word", 2)]) (N := ["marks", "value", "word"]) (sc := defScope sColumns) (by decide +kernel)) (fun _ _ _ _ _ => pg_name (i := 2) nd rfl (Or.inl rfl)) (fun _ _ _ _ _ => pts_nil)
      (fun _ _ _ _ _ => pe_cmpR (r := rIn K false) op_in_seq (pv 2) (pv 0) (by rfl))) pa_nil)))))), ?_⟩
  refine ⟨_, rfl, v, d, 2, rfl, by decide, hd, fit, fun H1 s1 => ⟨_, rfl, ite2 (fun c1 => ?_) fun c1 => ?_⟩⟩
  · cases hd with
    | @lst a xs ds hs ha =>
      obtain ⟨few, short⟩ := fit ds rfl
      have c1' : (decide (ds.length ≤ 2) && (ds.all wordD && decide (differ (texts ds) ds.length = ds.length))) = true := c1
      rw [Bool.and_eq_true, Bool.and_eq_true] at c1'
      obtain ⟨et, lt⟩ := texts_all ha c1'.2.1
      have hs1 := L2.Same.seq s1 hs
      rw [et] at hs1
      have yes : columnsD ms (.list ds) = !(texts ds).any fun x => inV (.str x) (ms.map V.str) := by
        show (wordsD 2 (.list ds) && _) = _
        rw [c1, Bool.true_and]
      rw [yes] at q
      refine ⟨_, rfl, a, rfl, ⟨_, hs1⟩, fun D nD => lc_bools (walk_list (K := K) (a := a) (xs := (texts ds).map V.str)) ((texts ds).map fun x => inV (.str x) (ms.map V.str)) (by rw [List.length_map, List.length_map]) (Nat.lt_of_le_of_lt (show ((texts ds).map V.str).length ≤ 10000 by rw [List.length_map, lt]; exact few) (by decide)) nD (fun _ s2 => L2.Same.seq s2 hs1) (fun _ _ _ _ y => by rw [y.1]; exact fun _ _ h => h)
        (fun i v H2 H3 b hi hb s2 y R hR => ?_) (fun H2 s2 e2 => ?_) (fun _ _ _ _ _ m h => m _ _ h)⟩
      · obtain ⟨rfl, hv⟩ := y
        obtain ⟨x, hx, rfl⟩ := at_map hv
        rw [List.getElem?_map, hx] at hb
        cases hb
        exact ⟨rfl, _, rfl, _, rfl, ma, _, rfl, .inl (L2.Same.seq (s1.trans s2) hma), rfl, flat_strs ms, hR _ fun _ _ h => h⟩
      · refine ⟨D, _, rfl, SqL.of e2, _, rfl, ?_⟩
        rw [List.any_map]
        exact q H2 (s1.trans s2)
    | _ => exact absurd c1 (by simp [wordsD])
  · have q := q H1 s1
    rw [columns_no (Bool.eq_false_iff.mpr c1)] at q
    exact q
end
end DQ

set_option Elab.async false
set_option linter.all false
set_option maxRecDepth 100000
set_option maxHeartbeats 400000
namespace DQ
open PySem PySem.Spec PyProof.Rows L2
abbrev sIsFact : Stmt := topS 28
abbrev NF : List Str := ["marks", "columns", "known", "value", "fits", "item"]
theorem scIsFact : FnScope NF ["marks", "columns", "known", "value"] (defScope sIsFact) := ⟨rfl, rfl, rfl, by decide +kernel, rfl, by decide +kernel, by decide +kernel⟩
def okItem (ns : List Int) (d : PyData) : Bool := numD d && match d with
  | .int i => decide (i ∈ ns)
  | _ => false
def hasD (ms : List Str) (b : PyData) : Bool := (ms.map PyData.str).any fun z => PyData.eqv z b
def isFactD (ms cs : List Str) (ns : List Int) : PyData → Bool
  | .tuple (a :: b :: r) => decide (r.length = 1 ∨ r.length = 2) && ((if r.length = 1 then PyData.eqv a (.str "mark") && hasD ms b else PyData.eqv a (.str "link") && hasD cs b) && r.all (okItem ns))
  | _ => false
/-- the parts of a tuple are of a shape that == takes -/
def Parts (d : PyData) : Prop := ∀ ds, d = .tuple ds → ∀ e ∈ ds.take 2, SeqAt.shaped e = true
theorem dp_texts {K : PySem.W.Frag} {H : Hp} : ∀ ms : List Str, DpAll K H (ms.map V.str) (ms.map PyData.str)
  | [] => .nil
  | x :: r => .cons (.str x) (dp_texts r)
theorem room65 {k : Nat} {A : Around} (r : Room k A) : A.units + 65 < cLine := by have := r.un; omega
theorem room1 {k : Nat} {A : Around} (r : Room k A) : A.units + 1 < cLine := by have := r.un; omega
/-- the dict of the items -/
def KnownAt (H : Hp) (ka : Addr) (ns : List Int) : Prop := ∃ kvs : List (Key × V), H ka = some (.dK kvs) ∧ ∀ i : Int, (valV kvs (.inl i)).isSome = decide (i ∈ ns)
theorem dpAll_two {K : PySem.W.Frag} {H : Hp} {xs : List V} {ds : List PyData} (h : DpAll K H xs ds) (l : 2 ≤ ds.length) : ∃ x0 x1 xr d0 d1 dr, xs = x0 :: x1 :: xr ∧ ds = d0 :: d1 :: dr ∧ Dp K H x0 d0 ∧ Dp K H x1 d1 ∧ DpAll K H xr dr := by
  cases h with
  | nil => exact absurd l (by decide)
  | cons a h =>
    cases h with
    | nil => exact absurd l (by simp)
    | cons b h => exact ⟨_, _, _, _, _, _, rfl, rfl, a, b, h⟩
theorem in_34 (n : Nat) : inV (.int (n : Int)) [.int 3, .int 4] = (decide (n = 3) || decide (n = 4)) := by
  show (((3 : Int) == (n : Int)) || (((4 : Int) == (n : Int)) || false)) = _
  rw [Bool.or_false]
  congr 1
  · by_cases h : n = 3
    · rw [h]; rfl
    · rw [decide_eq_false h]
      exact beq_eq_false_iff_ne.mpr fun e => h (by omega)
  · by_cases h : n = 4
    · rw [h]; rfl
    · rw [decide_eq_false h]
      exact beq_eq_false_iff_ne.mpr fun e => h (by omega)
theorem fact_no {ms cs : List Str} {ns : List Int} {ds : List PyData} (h : ¬ (ds.length = 3 ∨ ds.length = 4)) : isFactD ms cs ns (.tuple ds) = false := by
  match ds, h with
  | [], _ => rfl
  | [_], _ => rfl
  | a :: b :: r, h =>
    show (decide (r.length = 1 ∨ r.length = 2) && _) = false
    rw [decide_eq_false (fun z => h (by simp only [List.length_cons]; omega)), Bool.false_and]
section
variable {P : Program} {w : World} {K : PySem.W.Frag} {mg : Str → Option Value} {base : Heap}
def spIsFact (K : PySem.W.Frag) : Sp := fun vs H Q _ => ∃ (ma ca ka : Addr) (ms cs : List Str) (ns : List Int) (v : V) (d : PyData), vs = [.ref ma, .ref ca, .ref ka, v] ∧ SqL K H ma (ms.map V.str) ∧ SqL K H ca (cs.map V.str) ∧ SeqAt.shaped (.list (ms.map PyData.str)) = true ∧ SeqAt.shaped (.list (cs.map PyData.str)) = true ∧
  KnownAt H ka ns ∧ Dp K H v d ∧ Parts d ∧ ∀ H', Same H H' → Q (.bl (isFactD ms cs ns d)) H'
theorem ok_isFact {f fn : Addr} {fd fdn : FuncData} (F : Fun K "is_fact" "is_fact" sIsFact f fd) (GN : FnOk P w K mg base CX0 3 fn fdn ["value"] (spNumber K)) (bN : Binds K fdn ["value"] []) (kN : PySem.W.keepIn K (.ref fn) = true) (mN : mg "is_number" = some (.ref fn))
    (mI : mg "isinstance" = none) (mTuple : mg "tuple" = none) (mLen : mg "len" = none) (mAll : mg "all" = none) : FnOk P w K mg base CX0 4 f fd ["marks", "columns", "known", "value"] (spIsFact K) := by
  refine F.ok scIsFact (fun vs H Q E h => ?_) (fun cdv A outer s H vs Q E hr h => ?_)
  · obtain ⟨_, _, _, _, _, _, _, _, rfl, _⟩ := h
    rfl
  obtain ⟨ma, ca, ka, ms, cs, ns, v, d, rfl, hma, hca, lm, lc, hk, hd, pd, q⟩ := h
  have nd := scIsFact.nd
  refine ⟨_, (pss_cons (ps_if (PW.pt (pw_or (pt_not (pt_val (pe_callB call_isi (by rfl) mI (by decide +kernel) (pa_cons (pv 3) (pa_cons (pe_bltn (v := .ty "tuple") (by rfl) mTuple (by decide +kernel) rfl) pa_nil)))))
      (pw_or1 (pt_cmpR op_notIn_seq (pe_callB call_len_seq (by rfl) mLen PySem.boot_len (pa_cons (pv 3) pa_nil)) (pe_tup (pa_cons pe_int (pa_cons pe_int pa_nil))) (by rfl))))) (pss_one (ps_ret pe_bl)) pss_nil)
    (pss_cons (ps_if (pt_cmpR op_eq (pe_callB call_len_seq (by rfl) mLen PySem.boot_len (pa_cons (pv 3) pa_nil)) pe_int (nomark _))
      (pss_one (ps_set (i := 4) nd rfl (.inl rfl) (pe_and (pe_cmpR (op_eqD hr.units) (pe_ix (r := rIxT K) ix_tup (pv 3) pe_int (fun _ _ => rfl)) pe_str (nomark _)) (pe_one (pe_cmpR (op_inD (room65 hr)) (pe_ix (r := rIxT K) ix_tup (pv 3) pe_int (fun _ _ => rfl)) (pv 0) (by rfl))))))
      (pss_one (ps_set (i := 4) nd rfl (.inl rfl) (pe_and (pe_cmpR (op_eqD hr.units) (pe_ix (r := rIxT K) ix_tup (pv 3) pe_int (fun _ _ => rfl)) pe_str (nomark _)) (pe_one (pe_cmpR (op_inD (room65 hr)) (pe_ix (r := rIxT K) ix_tup (pv 3) pe_int (fun _ _ => rfl)) (pv 1) (by rfl)))))))
    (pss_one (ps_ret (pe_and (pv 4) (pe_one (pe_callB (cr_all rfl) (by rfl) mAll (by decide +kernel) (pa_cons (pe_lc (own := [("item", 5)]) (g := gName 5) (tt := tYes) rfl nd (pi_tup (pe_slice sl_tup (pv 3) (po_some pe_int) po_none)) (blkOk_by (own := [("item", 5)]) (N := NF) (sc := defScope sIsFact) (by decide +kernel)) (fun _ _ _ _ _ => pg_name (i := 5) nd rfl (Or.inl rfl)) (fun _ _ _ _ _ => pts_nil)
      (fun _ _ _ _ _ => pe_and (pe_call GN (hr.mono (by decide)) rfl mN kN bN .nil pass0 (pa_cons (pv 5) pa_nil)) (pe_one (pe_cmp (pc_din (room1 hr) (pv 5) (pv 2)) (by rfl))))) pa_nil)))))))), ?_⟩
  have ty := dp_ty hd
  refine ⟨_, rfl, v, .ty "tuple", _, _, _, rfl, .ty "tuple", ty, kit_data (by simp) d, _, rfl, ite2 (fun c1 => ?_) fun c1 => ?_⟩
  · have no : isFactD ms cs ns d = false := by
      cases hd with
      | tup hs ha => exact absurd c1 (by simp only [isT, tyN]; decide)
      | _ => rfl
    have q := q H fun _ _ h => h
    rw [no] at q
    exact q
  cases hd with
  | @tup a xs ds hs ha =>
    have len := dpAll_len ha
    refine ⟨_, rfl, a, _, rfl, .inr hs, by show 2 ≤ sizeLine; decide, fun T nT => ?_⟩
    have mT := same_new nT (o := .tup [.int 3, .int 4])
    have eT : upd H T (.tup [.int 3, .int 4]) T = some (.tup [.int 3, .int 4]) := upd_same
    generalize upd H T (.tup [.int 3, .int 4]) = H1 at mT eT ⊢
    refine ⟨T, _, rfl, .inr (.inl (.inl eT)), rfl, rfl, _, rfl, ite2 (fun c2 => ?_) fun c2 => ?_⟩
    · have c2 : (!inV (.int (xs.length : Nat)) [.int 3, .int 4]) = true := c2
      rw [in_34, len] at c2
      have q := q H1 mT
      rw [fact_no (fun z => by
        rcases z with z | z
        · rw [z] at c2; exact absurd c2 (by decide)
        · rw [z] at c2; exact absurd c2 (by decide))] at q
      exact q
    have c2 : ¬ (!inV (.int (xs.length : Nat)) [.int 3, .int 4]) = true := c2
    rw [in_34, len] at c2
    have l34 : ds.length = 3 ∨ ds.length = 4 := by
      by_cases h3 : ds.length = 3
      · exact .inl h3
      · by_cases h4 : ds.length = 4
        · exact .inr h4
        · rw [decide_eq_false h3, decide_eq_false h4] at c2
          exact absurd rfl c2
    obtain ⟨x0, x1, xr, d0, d1, dr, ex, ed, a0, a1, ar⟩ := dpAll_two ha (by omega)
    have hs1 := DQ.Same.seqT mT hs
    rw [ex] at hs1
    have s0 : SeqAt.shaped d0 = true := pd _ rfl d0 (by rw [ed]; exact List.mem_cons_self ..)
    have s1 : SeqAt.shaped d1 = true := pd _ rfl d1 (by rw [ed]; exact List.mem_cons_of_mem _ (List.mem_cons_self ..))
    have at0 : atI (x0 :: x1 :: xr) 0 = some x0 := atI_nat (j := 0) rfl
    have at1 : atI (x0 :: x1 :: xr) 1 = some x1 := atI_nat (j := 1) rfl
    have lr : dr.length = 1 ∨ dr.length = 2 := by
      rw [ed] at l34
      simp only [List.length_cons] at l34
      omega
    have lx : xr.length = dr.length := dpAll_len ar
    refine ⟨_, rfl, a, _, rfl, .inr hs1, rfl, _, rfl, ite2 (fun c3 => ?_) fun c3 => ?_⟩
    · have yes : isFactD ms cs ns (.tuple ds) = ((PyData.eqv d0 (.str "mark") && hasD ms d1) && dr.all (okItem ns)) := by
        have e1 : (dr.length = 1) = True := by
          exact eq_true (by have c3 := of_decide_eq_true c3; injection c3 with c3; rw [List.length_cons, List.length_cons, lx] at c3; omega)
        rw [ed]
        show (decide (dr.length = 1 ∨ dr.length = 2) && ((if dr.length = 1 then _ else _) && _)) = _
        rw [decide_eq_true lr, Bool.true_and, if_pos (of_eq_true e1)]
      rw [yes] at q
      refine ⟨_, rfl, a, _, 0, x0, rfl, rfl, hs1, at0, d0, .str "mark", dp_same mT _ _ a0, .str _, s0, by decide +kernel, _, rfl, ite2 (fun c4 => ?_) fun c4 => ?_⟩
      · refine ⟨_, rfl, a, _, 1, x1, rfl, rfl, hs1, at1, _, rfl, d1, ms.map PyData.str, dp_same mT _ _ a1, .lst (L2.Same.seq mT hma) (dp_texts ms), s1, lm, ?_⟩
        rw [c4, Bool.true_and] at q
        refine ⟨_, rfl, hasD ms d1, rfl, ite2 (fun c5 => ?_) fun c5 => ?_⟩
        · rw [c5, Bool.true_and] at q
          refine ⟨_, rfl, _, rfl, a, _, rfl, hs1, fun z => ?_, fun p np => ?_⟩
          · have z := z.1
            rw [show (some (2 : Int)) = some ((2 : Nat) : Int) from rfl, HT.sIx_nat] at z
            simp only [List.length_cons] at z
            omega
          rw [show (some (2 : Int)) = some ((2 : Nat) : Int) from rfl, cut_drop]
          have mp := same_new np (o := .tup ((x0 :: x1 :: xr).drop 2))
          have ep : upd H1 p (.tup ((x0 :: x1 :: xr).drop 2)) p = some (.tup xr) := upd_same
          generalize upd H1 p (.tup ((x0 :: x1 :: xr).drop 2)) = H2 at mp ep ⊢
          have all2 : L2.Same H H2 := mT.trans mp
          refine ⟨p, rfl, ⟨_, .inl (.inl ep)⟩, fun D nD => lc_bools (walk_tup (K := K) (a := p) (xs := xr)) (dr.map (okItem ns)) (by rw [List.length_map, lx]) (Nat.lt_of_le_of_lt (show xr.length ≤ 2 by omega) (by decide)) nD (fun _ s2 => .inl (.inl (s2 _ _ ep))) (fun _ _ _ _ y => by rw [y.1]; exact fun _ _ h => h)
            (fun i v H3 H4 b hi hb s2 y R hR => ?_) (fun H3 s3 e3 => ?_) (fun _ _ _ _ _ m h => m _ _ h)⟩
          · obtain ⟨rfl, hv⟩ := y
            obtain ⟨e, he, rfl⟩ := all_at hb
            have dv := dp_same (all2.trans s2) _ _ (dpAll_get ar hv he)
            refine ⟨rfl, _, rfl, v, e, rfl, dv, _, rfl, ite2 (fun c6 => ?_) fun c6 => ?_⟩
            · cases dv with
              | int i =>
                obtain ⟨kvs, ek, iff⟩ := hk
                refine ⟨_, rfl, _, rfl, ka, _, rfl, .inl ⟨kvs, .inl i, .inl ((all2.trans s2) _ _ ek), rfl, rfl⟩, ?_⟩
                have z := hR _ fun _ _ h => h
                have eo : okItem ns (.int i) = (valV kvs (.inl i)).isSome := by
                  show (numD (.int i) && decide (i ∈ ns)) = _
                  rw [c6, Bool.true_and, iff]
                rw [eo] at z
                exact z
              | _ => exact absurd c6 (by simp [numD])
            · have z := hR _ fun _ _ h => h
              have eo : okItem ns e = false := by
                unfold okItem
                rw [Bool.eq_false_iff.mpr c6, Bool.false_and]
              rw [eo] at z
              exact z
          · refine ⟨D, _, rfl, SqL.of e3, ?_⟩
            rw [List.all_map]
            exact q H3 (all2.trans s3)
        · rw [Bool.eq_false_iff.mpr c5, Bool.false_and] at q
          exact q H1 mT
      · rw [Bool.eq_false_iff.mpr c4, Bool.false_and, Bool.false_and] at q
        exact ⟨_, rfl, false, rfl, q H1 mT⟩
    · have yes : isFactD ms cs ns (.tuple ds) = ((PyData.eqv d0 (.str "link") && hasD cs d1) && dr.all (okItem ns)) := by
        have e1 : (dr.length = 1) = False := by
          exact eq_false fun z => c3 (decide_eq_true (by rw [List.length_cons, List.length_cons, lx, z]; rfl))
        rw [ed]
        show (decide (dr.length = 1 ∨ dr.length = 2) && ((if dr.length = 1 then _ else _) && _)) = _
        rw [decide_eq_true lr, Bool.true_and, if_neg (of_eq_false e1)]
      rw [yes] at q
      refine ⟨_, rfl, a, _, 0, x0, rfl, rfl, hs1, at0, d0, .str "link", dp_same mT _ _ a0, .str _, s0, by decide +kernel, _, rfl, ite2 (fun c4 => ?_) fun c4 => ?_⟩
      · refine ⟨_, rfl, a, _, 1, x1, rfl, rfl, hs1, at1, _, rfl, d1, cs.map PyData.str, dp_same mT _ _ a1, .lst (L2.Same.seq mT hca) (dp_texts cs), s1, lc, ?_⟩
        rw [c4, Bool.true_and] at q
        refine ⟨_, rfl, hasD cs d1, rfl, ite2 (fun c5 => ?_) fun c5 => ?_⟩
        · rw [c5, Bool.true_and] at q
          refine ⟨_, rfl, _, rfl, a, _, rfl, hs1, fun z => ?_, fun p np => ?_⟩
          · have z := z.1
            rw [show (some (2 : Int)) = some ((2 : Nat) : Int) from rfl, HT.sIx_nat] at z
            simp only [List.length_cons] at z
            omega
          rw [show (some (2 : Int)) = some ((2 : Nat) : Int) from rfl, cut_drop]
          have mp := same_new np (o := .tup ((x0 :: x1 :: xr).drop 2))
          have ep : upd H1 p (.tup ((x0 :: x1 :: xr).drop 2)) p = some (.tup xr) := upd_same
          generalize upd H1 p (.tup ((x0 :: x1 :: xr).drop 2)) = H2 at mp ep ⊢
          have all2 : L2.Same H H2 := mT.trans mp
          refine ⟨p, rfl, ⟨_, .inl (.inl ep)⟩, fun D nD => lc_bools (walk_tup (K := K) (a := p) (xs := xr)) (dr.map (okItem ns)) (by rw [List.length_map, lx]) (Nat.lt_of_le_of_lt (show xr.length ≤ 2 by omega) (by decide)) nD (fun _ s2 => .inl (.inl (s2 _ _ ep))) (fun _ _ _ _ y => by rw [y.1]; exact fun _ _ h => h)
            (fun i v H3 H4 b hi hb s2 y R hR => ?_) (fun H3 s3 e3 => ?_) (fun _ _ _ _ _ m h => m _ _ h)⟩
          · obtain ⟨rfl, hv⟩ := y
            obtain ⟨e, he, rfl⟩ := all_at hb
            have dv := dp_same (all2.trans s2) _ _ (dpAll_get ar hv he)
            refine ⟨rfl, _, rfl, v, e, rfl, dv, _, rfl, ite2 (fun c6 => ?_) fun c6 => ?_⟩
            · cases dv with
              | int i =>
                obtain ⟨kvs, ek, iff⟩ := hk
                refine ⟨_, rfl, _, rfl, ka, _, rfl, .inl ⟨kvs, .inl i, .inl ((all2.trans s2) _ _ ek), rfl, rfl⟩, ?_⟩
                have z := hR _ fun _ _ h => h
                have eo : okItem ns (.int i) = (valV kvs (.inl i)).isSome := by
                  show (numD (.int i) && decide (i ∈ ns)) = _
                  rw [c6, Bool.true_and, iff]
                rw [eo] at z
                exact z
              | _ => exact absurd c6 (by simp [numD])
            · have z := hR _ fun _ _ h => h
              have eo : okItem ns e = false := by
                unfold okItem
                rw [Bool.eq_false_iff.mpr c6, Bool.false_and]
              rw [eo] at z
              exact z
          · refine ⟨D, _, rfl, SqL.of e3, ?_⟩
            rw [List.all_map]
            exact q H3 (all2.trans s3)
        · rw [Bool.eq_false_iff.mpr c5, Bool.false_and] at q
          exact q H1 mT
      · rw [Bool.eq_false_iff.mpr c4, Bool.false_and, Bool.false_and] at q
        exact ⟨_, rfl, false, rfl, q H1 mT⟩
  | _ => exact absurd rfl c1
end
end DQ

set_option Elab.async false
set_option linter.all false
set_option maxRecDepth 100000
set_option maxHeartbeats 400000
namespace DQ
open PySem PySem.Spec PyProof.Rows L2
/-! ### d.setdefault((..), x): keys that are tuples -/
section
variable {X : Cx} {pins : List (Addr × Obj)} {σ : L2.St} {H : Hp} {s : Shared} {a b : Addr} {r : Value} {d : V} {k : List Key} {A : Around} {E : Value → Shared → Prop}
theorem d_setdT {kvs : List (List Key × V)} {Q : Value → Shared → Prop} (hu : A.units + 1 < cLine) (I : Inv X pins σ H s) (e : H a = some (.dT kvs)) (eb : H b = some (.tup (k.map kV))) (rd : RelV d r) (hl : kvs.length < sizeLine)
    (h1 : ∀ v, valV kvs k = some v → ∀ (w' : Value) (s' : Shared), Inv X pins σ H s' → RelV v w' → Q w' s') (h2 : valV kvs k = none → ∀ (w' : Value) (s' : Shared), Inv X pins σ (upd H a (.dT (putK kvs k d))) s' → RelV d w' → Q w' s') :
    wpAny (model X.prog X.w) A (call (.builtin "dict.setdefault") [.ref a, .ref b, r]) Q E s := by
  obtain ⟨z, hd, xs, rel, dd⟩ := dt_of I.hok e
  have hz : xs.length ≤ sizeLine := by rw [← Paired.length rel]; exact z
  refine call_setdefault_heap (hsz := hz) (tupleKind_room_in1 hu) (key_of I.hok eb) hd dd (fun p hp => ?_) fun hn h' dd' hs => ?_
  · have q := rel.val k
    rw [hp] at q
    cases q0 : valV kvs k with
    | none =>
      rw [q0] at q
      exact (show False from q).elim
    | some v0 =>
      rw [q0] at q
      exact h1 v0 q0 _ _ (I.tok _) q
  · have q := rel.val k
    rw [hn] at q
    cases q0 : valV kvs k with
    | some v0 =>
      rw [q0] at q
      exact (show False from q).elim
    | none =>
      have hl2 : (putK kvs k d).length ≤ sizeLine := by
        have := length_putK kvs k d
        omega
      obtain ⟨o, es, ep, hq, e2, e3, e4, _, e5⟩ := dd'
      refine h2 q0 _ _ (d_write (t' := _) I (by rw [e]; exact True.intro) hs ⟨o, hq⟩ ⟨hl2, hd, _, (rel.put k eb rd).keeps fun c ys ec => ?_, o, es, ep, hq, e2, e3, e4, e5⟩) rd
      rw [upd_ne (ne_of ec e (fun z => nomatch z))]
      exact ec
end
def tDSetdT (td ty tx : TE) : TE := fun σ H Q => td σ H fun x H1 => ∃ a, x = .ref a ∧ IsD H1 a ∧ ty σ H1 fun y H2 => tx σ H2 fun z H3 => ∃ (kvs : List (List Key × V)) (k : List Key) (b : Addr), H3 a = some (.dT kvs) ∧ y = .ref b ∧ H3 b = some (.tup (k.map kV)) ∧ kvs.length < sizeLine ∧
  (∀ v, valV kvs k = some v → Q v H3) ∧ (valV kvs k = none → Q z (upd H3 a (.dT (putK kvs k z))))
section
variable {X : Cx} {o e f : Expr} {td ty tx : TE} {apos cpos : Pos}
theorem pe_dsetdT (hu : X.A.units + 1 < cLine) (ho : PE X o td) (he : PE X e ty) (hf : PE X f tx) (m : M2 X o "setdefault" apos e f cpos) : PE X (.Call (.Attribute o "setdefault" apos) [e, f] [] cpos) (tDSetdT td ty tx) := by
  refine ⟨fun pins s σ H Q I h => ?_⟩
  refine wpAny_Call_method m.base m.few m.line PySem.F.plainAttrs_dict PySem.F.slot_dict_setdefault PySem.F.type_dict_setdefault (thn (ho.run pins s σ H _ I h) fun u s1 ⟨x, H1, I1, rx, a, ex, d, q1⟩ => ?_)
  subst ex
  obtain rfl : u = Value.ref a := rx
  obtain ⟨t1, t2, _⟩ := isD_at I1 d
  refine ⟨t1, t2, ?_⟩
  rw [m.trees]
  refine Calls.callWith_builtin rfl (Calls.evalArgs_plain (Calls.spliced_cons (thn (he.run pins s1 σ H1 _ I1 q1) fun iv s2 ⟨y, H2, I2, ry, q2⟩ =>
    Calls.spliced_cons (thn (hf.run pins s2 σ H2 _ I2 q2) fun fv s3 ⟨z, H3, I3, rz, kvs, k, b, ea, ey, eb, hl, q3, q4⟩ => Calls.spliced_nil ?_))))
  subst ey
  obtain rfl : iv = Value.ref b := ry
  exact d_setdT hu I3 ea eb rz hl (fun v hv w' s4 I4 rw' => ⟨v, _, I4, rw', q3 v hv⟩) fun hn w' s4 I4 rw' => ⟨z, _, I4, rw', q4 hn⟩
end
end DQ

set_option Elab.async false
set_option linter.all false
set_option maxRecDepth 100000
set_option maxHeartbeats 400000
namespace DQ
open PySem PySem.Spec PyProof.Rows L2
/-! ### links that clash -/
def clashes : Fact → Fact → Bool
  | .link c a b, .link c' a' b' => decide (c = c') && ((decide (a = a') && !decide (b = b')) || (decide (b = b') && !decide (a = a')))
  | _, _ => false
def NoClash (fs : List Fact) : Prop := ∀ x ∈ fs, ∀ y ∈ fs, clashes x y = false
theorem clashes_self (x : Fact) : clashes x x = false := by
  cases x with
  | mark _ _ => rfl
  | link c a b => simp [clashes]
theorem clashes_comm (x y : Fact) : clashes x y = clashes y x := by
  cases x with
  | mark _ _ => cases y <;> rfl
  | link c a b =>
    cases y with
    | mark _ _ => rfl
    | link c' a' b' =>
      show (decide (c = c') && ((decide (a = a') && !decide (b = b')) || (decide (b = b') && !decide (a = a')))) = (decide (c' = c) && ((decide (a' = a) && !decide (b' = b)) || (decide (b' = b) && !decide (a' = a))))
      rw [show decide (c = c') = decide (c' = c) from decide_eq_decide.mpr ⟨Eq.symm, Eq.symm⟩, show decide (a = a') = decide (a' = a) from decide_eq_decide.mpr ⟨Eq.symm, Eq.symm⟩, show decide (b = b') = decide (b' = b) from decide_eq_decide.mpr ⟨Eq.symm, Eq.symm⟩]
theorem noClash_snoc {fs : List Fact} {y : Fact} (h : NoClash fs) (n : ∀ x ∈ fs, clashes x y = false) : NoClash (fs ++ [y]) := fun x hx z hz => by
  rcases List.mem_append.mp hx with hx | hx <;> rcases List.mem_append.mp hz with hz | hz
  · exact h x hx z hz
  · rw [List.mem_singleton.mp hz]
    exact n x hx
  · rw [List.mem_singleton.mp hx, clashes_comm]
    exact n z hz
  · rw [List.mem_singleton.mp hx, List.mem_singleton.mp hz]
    exact clashes_self y
def isFrom (c : Str) (a : Int) : Fact → Bool
  | .link c' a' _ => decide (c' = c) && decide (a' = a)
  | _ => false
def isTo (c : Str) (b : Int) : Fact → Bool
  | .link c' _ b' => decide (c' = c) && decide (b' = b)
  | _ => false
/-- the first whose fact is such a one -/
def firstOf (p : Fact → Bool) (zs : List (V × Fact)) : Option V := (zs.find? fun z => p z.2).map (·.1)
theorem firstOf_snoc (p : Fact → Bool) (zs : List (V × Fact)) (z : V × Fact) : firstOf p (zs ++ [z]) = (firstOf p zs).or (if p z.2 = true then some z.1 else none) := by
  unfold firstOf
  rw [List.find?_append]
  cases zs.find? fun z => p z.2 with
  | some y => rfl
  | none =>
    by_cases h : p z.2 = true
    · rw [List.find?_cons_of_pos (by exact h), if_pos h]
      rfl
    · rw [List.find?_cons_of_neg (by exact h), if_neg h]
      rfl
theorem firstOf_some {p : Fact → Bool} {zs : List (V × Fact)} {v : V} (h : firstOf p zs = some v) : ∃ x, (v, x) ∈ zs ∧ p x = true := by
  unfold firstOf at h
  obtain ⟨z, hz, e⟩ := Option.map_eq_some_iff.mp h
  exact ⟨z.2, by rw [← e]; exact List.mem_of_find?_eq_some hz, by simpa using List.find?_some hz⟩
theorem firstOf_none {p : Fact → Bool} {zs : List (V × Fact)} (h : firstOf p zs = none) : ∀ z ∈ zs, p z.2 = false := by
  unfold firstOf at h
  have h := Option.map_eq_none_iff.mp h
  exact fun z hz => Bool.eq_false_iff.mpr (List.find?_eq_none.mp h z hz)
def kF (c : Str) (a : Int) : List Key := [.inr c, .inr "from", .inl a]
def kT (c : Str) (b : Int) : List Key := [.inr c, .inr "to", .inl b]
theorem kF_inj {c c' : Str} {a a' : Int} : kF c a = kF c' a' ↔ c = c' ∧ a = a' := by
  unfold kF
  constructor
  · intro h
    simp only [List.cons.injEq, Sum.inr.injEq, Sum.inl.injEq, and_true, true_and] at h
    exact h
  · rintro ⟨rfl, rfl⟩
    rfl
theorem kT_inj {c c' : Str} {a a' : Int} : kT c a = kT c' a' ↔ c = c' ∧ a = a' := by
  unfold kT
  constructor
  · intro h
    simp only [List.cons.injEq, Sum.inr.injEq, Sum.inl.injEq, and_true, true_and] at h
    exact h
  · rintro ⟨rfl, rfl⟩
    rfl
theorem kFT {c c' : Str} {a a' : Int} : kF c a ≠ kT c' a' := fun h => by
  unfold kF kT at h
  simp only [List.cons.injEq, Sum.inr.injEq] at h
  exact absurd h.2.1 (by decide)
theorem str_beq {x y : Str} : (x == y) = true ↔ x = y := ⟨fun h => eq_of_beq h, fun h => by rw [h]; exact beq_self_eq_true y⟩
theorem fact_eqv (x y : Fact) : PyData.eqv x.d y.d = true ↔ x = y := by
  cases x with
  | mark m i =>
    cases y with
    | mark m' i' =>
      simp only [Fact.d, PyData.eqv, PyData.eqvAll, Bool.and_true, Fact.mark.injEq, Bool.and_eq_true, str_beq, beq_iff_eq, true_and]
    | link c a b =>
      simp only [Fact.d, PyData.eqv, PyData.eqvAll, Bool.and_eq_true, str_beq]
      exact ⟨fun h => absurd h.1 (by decide), fun h => nomatch h⟩
  | link c a b =>
    cases y with
    | mark m' i' =>
      simp only [Fact.d, PyData.eqv, PyData.eqvAll, Bool.and_eq_true, str_beq]
      exact ⟨fun h => absurd h.1 (by decide), fun h => nomatch h⟩
    | link c' a' b' =>
      simp only [Fact.d, PyData.eqv, PyData.eqvAll, Bool.and_true, Fact.link.injEq, Bool.and_eq_true, str_beq, beq_iff_eq, true_and]
def Fact.word : Fact → Str
  | .mark m _ => m
  | .link c _ _ => c
theorem fact_shaped (x : Fact) (h : PyData.canLay0 (.str x.word) = true) : SeqAt.shaped x.d = true := by
  have e1 : PyData.canLay0 (.str "mark") = true := by decide +kernel
  have e2 : PyData.canLay0 (.str "link") = true := by decide +kernel
  have dep := fact_depth x
  show (PyData.canLay0 x.d && decide (x.d.depth ≤ 64)) = true
  rw [decide_eq_true (by omega), Bool.and_true]
  cases x with
  | mark m i =>
    have h : PyData.canLay0 (.str m) = true := h
    simp only [Fact.d, PyData.canLay0, PyData.canLayAll0, Bool.and_true] at h e1 e2 ⊢
    rw [e1, h]
    rfl
  | link c a b =>
    have h : PyData.canLay0 (.str c) = true := h
    simp only [Fact.d, PyData.canLay0, PyData.canLayAll0, Bool.and_true] at h e1 e2 ⊢
    rw [e2, h]
    rfl
end DQ

set_option Elab.async false
set_option linter.all false
set_option maxRecDepth 100000
set_option maxHeartbeats 400000
namespace DQ
open PySem PySem.Spec PyProof.Rows L2
abbrev sClash : Stmt := topS 29
abbrev NC : List Str := ["facts", "taken", "fact", "_", "column", "one", "other", "from_one", "to_other"]
theorem scClash : FnScope NC ["facts"] (defScope sClash) := ⟨rfl, rfl, rfl, by decide +kernel, rfl, by decide +kernel, by decide +kernel⟩
theorem both {Q : VK} {R : V → Prop} {N : Prop} {H3 H4 : Hp} {z : V} (P7 : V → Hp → Prop) (h1 : ∀ v, R v → P7 v H3) (h2 : N → P7 z H4) (h : ∀ v H, P7 v H → Q v H) : (∀ v, R v → Q v H3) ∧ (N → Q z H4) := ⟨fun v r => h _ _ (h1 v r), fun n => h _ _ (h2 n)⟩
theorem isFrom_iff {c : Str} {p : Int} {x : Fact} : isFrom c p x = true ↔ ∃ q, x = .link c p q := by
  cases x with
  | mark _ _ => exact ⟨fun h => absurd h (by simp [isFrom]), fun ⟨q, e⟩ => nomatch e⟩
  | link c' a b =>
    show (decide (c' = c) && decide (a = p)) = true ↔ _
    rw [Bool.and_eq_true, decide_eq_true_iff, decide_eq_true_iff]
    exact ⟨fun ⟨h1, h2⟩ => ⟨b, by rw [h1, h2]⟩, fun ⟨q, e⟩ => by cases e; exact ⟨rfl, rfl⟩⟩
theorem isTo_iff {c : Str} {p : Int} {x : Fact} : isTo c p x = true ↔ ∃ q, x = .link c q p := by
  cases x with
  | mark _ _ => exact ⟨fun h => absurd h (by simp [isTo]), fun ⟨q, e⟩ => nomatch e⟩
  | link c' a b =>
    show (decide (c' = c) && decide (b = p)) = true ↔ _
    rw [Bool.and_eq_true, decide_eq_true_iff, decide_eq_true_iff]
    exact ⟨fun ⟨h1, h2⟩ => ⟨a, by rw [h1, h2]⟩, fun ⟨q, e⟩ => by cases e; exact ⟨rfl, rfl⟩⟩
theorem clash_from {c : Str} {p q r : Int} (h : q ≠ r) : clashes (.link c p q) (.link c p r) = true := by simp [clashes, h]
theorem clash_to {c : Str} {p q r : Int} (h : q ≠ r) : clashes (.link c q p) (.link c r p) = true := by simp [clashes, h]
theorem no_clash {x y : Fact} (h1 : ∀ c p q r, y = .link c p q → x = .link c p r → x = y) (h2 : ∀ c p q r, y = .link c q p → x = .link c r p → x = y) : clashes x y = false := by
  refine Bool.eq_false_iff.mpr fun h => ?_
  cases x with
  | mark _ _ => exact absurd h (by simp [clashes])
  | link c a b =>
    cases y with
    | mark _ _ => exact absurd h (by simp [clashes])
    | link c' a' b' =>
      simp only [clashes, Bool.and_eq_true, Bool.or_eq_true, decide_eq_true_iff, Bool.not_eq_true', decide_eq_false_iff_not] at h
      obtain ⟨rfl, h⟩ := h
      rcases h with ⟨rfl, h⟩ | ⟨rfl, h⟩
      · have z := h1 _ _ _ _ rfl rfl
        cases z
        exact h rfl
      · have z := h2 _ _ _ _ rfl rfl
        cases z
        exact h rfl
/-- what a key's first fact tells of a fact behind it -/
structure Seen (p : Fact → Bool) (fs : List Fact) (x x7 : Fact) : Prop where
  same : x7 = x → ∀ y ∈ fs, p y = true → y = x
  other : x7 ≠ x → x7 ∈ fs ∧ clashes x7 x = true
theorem zip_take_mem {rs : List V} {fs : List Fact} (l : rs.length = fs.length) {i : Nat} {v : V} {x : Fact} (h : (v, x) ∈ (rs.zip fs).take i) : x ∈ fs.take i := by
  have z : x ∈ ((rs.zip fs).take i).map (·.2) := List.mem_map.mpr ⟨_, h, rfl⟩
  rwa [List.map_take, List.map_snd_zip (Nat.le_of_eq l.symm)] at z
theorem zip_take_of {rs : List V} {fs : List Fact} (l : rs.length = fs.length) {i : Nat} {x : Fact} (h : x ∈ fs.take i) : ∃ v, (v, x) ∈ (rs.zip fs).take i := by
  have z : x ∈ ((rs.zip fs).take i).map (·.2) := by rwa [List.map_take, List.map_snd_zip (Nat.le_of_eq l.symm)]
  obtain ⟨⟨v, y⟩, hz, rfl⟩ := List.mem_map.mp z
  exact ⟨v, hz⟩
theorem seen_some {rs : List V} {fs : List Fact} (l : rs.length = fs.length) {i : Nat} {p : Fact → Bool} {x : Fact} {v : V} (hp : ∀ y, p y = true → y ≠ x → clashes y x = true) (nc : NoClash (fs.take i)) (h : firstOf p ((rs.zip fs).take i) = some v) :
    ∃ x7, (v, x7) ∈ (rs.zip fs).take i ∧ Seen p (fs.take i) x x7 := by
  obtain ⟨x7, h1, h2⟩ := firstOf_some h
  have m := zip_take_mem l h1
  refine ⟨x7, h1, fun e y hy py => ?_, fun ne => ⟨m, hp x7 h2 ne⟩⟩
  by_cases z : y = x
  · exact z
  · have := nc y hy x7 m
    rw [e, hp y py z] at this
    exact nomatch this
theorem seen_none {rs : List V} {fs : List Fact} (l : rs.length = fs.length) {i : Nat} {p : Fact → Bool} {x : Fact} (h : firstOf p ((rs.zip fs).take i) = none) : Seen p (fs.take i) x x := by
  refine ⟨fun _ y hy py => ?_, fun ne => absurd rfl ne⟩
  obtain ⟨v, hv⟩ := zip_take_of l hy
  have := firstOf_none h _ hv
  rw [py] at this
  exact nomatch this
theorem next_some {zs : List (V × Fact)} {i : Nat} {z : V × Fact} {p : Fact → Bool} (hz : zs[i]? = some z) (h : p z.2 = true → (firstOf p (zs.take i)).isSome = true) : firstOf p (zs.take (i + 1)) = firstOf p (zs.take i) := by
  rw [take_next hz, firstOf_snoc]
  by_cases e : p z.2 = true
  · obtain ⟨v, hv⟩ := Option.isSome_iff_exists.mp (h e)
    rw [hv]
    rfl
  · rw [if_neg e, Option.or_none]
theorem next_none {zs : List (V × Fact)} {i : Nat} {z : V × Fact} {p : Fact → Bool} (hz : zs[i]? = some z) (e : p z.2 = true) (h : firstOf p (zs.take i) = none) : firstOf p (zs.take (i + 1)) = some z.1 := by
  rw [take_next hz, firstOf_snoc, h, if_pos e]
  rfl
section
variable {P : Program} {w : World} {K : PySem.W.Frag} {mg : Str → Option Value} {base : Heap}
def spClash (K : PySem.W.Frag) : Sp := fun vs H Q _ => ∃ (a : Addr) (rs : List V) (fs : List Fact), vs = [.ref a] ∧ SqL K H a rs ∧ Tups H rs (fs.map Fact.v) ∧ (∀ x ∈ fs, PyData.canLay0 (.str x.word) = true) ∧ fs.length ≤ 10000 ∧
  (∀ H', Same H H' → NoClash fs → Q .non H') ∧ ∀ i y v H', Same H H' → fs[i]? = some y → rs[i]? = some v → NoClash (fs.take i) → (∃ x ∈ fs.take i, clashes x y = true) → Q v H'
theorem ok_clash {f : Addr} {fd : FuncData} (F : Fun K "first_clash" "first_clash" sClash f fd) : FnOk P w K mg base CX0 1 f fd ["facts"] (spClash K) := by
  refine F.ok scClash (fun vs H Q E h => ?_) (fun cdv A outer s H vs Q E hr h => ?_)
  · obtain ⟨_, _, _, rfl, _⟩ := h
    rfl
  obtain ⟨a, rs, fs, rfl, hs, tp, lay, few, q1, q2⟩ := h
  have nd := scClash.nd
  refine ⟨_, (pss_cons (ps_set (i := 1) nd rfl (.inl rfl) pe_dnewT)
    (pss_cons (ps_for PassesOwn.never rfl (pi_list (pv 0)) (pg_name (i := 2) nd rfl (.inl rfl)) (pss_one (ps_if (pt_cmpR op_eq (pe_ix (r := rIxT K) ix_tup (pv 2) pe_int (fun _ _ => rfl)) pe_str (nomark _))
      (pss_cons (ps_asg (pv 2) (pg_tup rfl (pgs_cons (pg_name (i := 3) nd rfl (.inl rfl)) (pgs_cons (pg_name (i := 4) nd rfl (.inl rfl)) (pgs_cons (pg_name (i := 5) nd rfl (.inl rfl)) (pgs_cons (pg_name (i := 6) nd rfl (.inl rfl)) pgs_nil))))))
      (pss_cons (ps_set (i := 7) nd rfl (.inl rfl) (pe_dsetdT (room1 hr) (pv 1) (pe_tup (pa_cons (pv 4) (pa_cons pe_str (pa_cons (pv 5) pa_nil)))) (pv 2) (by constructor <;> rfl)))
      (pss_cons (ps_set (i := 8) nd rfl (.inl rfl) (pe_dsetdT (room1 hr) (pv 1) (pe_tup (pa_cons (pv 4) (pa_cons pe_str (pa_cons (pv 6) pa_nil)))) (pv 2) (by constructor <;> rfl)))
      (pss_one (ps_if (PW.pt (pw_or (pt_cmpR (op_neD hr.units) (pv 7) (pv 2) (nomark _)) (pw_or1 (pt_cmpR (op_neD hr.units) (pv 8) (pv 2) (nomark _))))) (pss_one (ps_ret (pv 2))) pss_nil)))))
      pss_nil)))
    (pss_one (ps_ret pe_non)))), ?_⟩
  intro D nD
  have sD := same_new nD (o := .dT [])
  have eD0 : upd H D (.dT []) D = some (.dT []) := upd_same
  generalize upd H D (.dT []) = H0 at sD eD0 ⊢
  have lr : rs.length = fs.length := by rw [tp.length, List.length_map]
  refine ⟨_, rfl, a, rfl, ⟨_, L2.Same.seq sD hs⟩, for_list (K := K) (a := a) (xs := rs) (fun i σ H' => ∃ (kvs : List (List Key × V)) (y2 y3 y4 y5 y6 y7 y8 : Option V), σ = [some (.ref a), some (.ref D), y2, y3, y4, y5, y6, y7, y8] ∧ Same H H' ∧ H' D = some (.dT kvs) ∧ kvs.length ≤ 2 * i ∧
      (∀ c x, valV kvs (kF c x) = firstOf (isFrom c x) ((rs.zip fs).take i)) ∧ (∀ c x, valV kvs (kT c x) = firstOf (isTo c x) ((rs.zip fs).take i)) ∧ NoClash (fs.take i))
    ⟨[], none, none, none, none, none, none, none, rfl, sD, eD0, Nat.le_refl _, fun _ _ => rfl, fun _ _ => rfl, fun x h => by cases h⟩ (fun i σ H' _ hP => ?_) (fun i v σ H' hx hP => ?_) fun σ H' hP => ?_⟩
  · obtain ⟨_, _, _, _, _, _, _, _, _, sm, _⟩ := hP
    exact L2.Same.seq sm hs
  · obtain ⟨kvs, y2, y3, y4, y5, y6, y7, y8, rfl, sm, eD, lk, hF, hT, nc⟩ := hP
    obtain ⟨t, tv, rfl, ht, htv⟩ := tp.get hx
    obtain ⟨x, hxf, rfl⟩ := at_map htv
    have hi : i < fs.length := (List.getElem?_eq_some_iff.mp hxf).1
    have hz : (rs.zip fs)[i]? = some (.ref t, x) := List.getElem?_zip_eq_some.mpr ⟨hx, hxf⟩
    have lx := lay x (List.mem_of_getElem? hxf)
    have ht' := sm _ _ ht
    have tk : fs.take (i + 1) = fs.take i ++ [x] := take_next hxf
    cases x with
    | mark m it =>
      refine ⟨_, rfl, t, _, 0, .str "mark", rfl, rfl, .inl (.inl ht'), atI_nat (j := 0) rfl, rfl, _, rfl, ?_⟩
      have ne : decide (V.str "mark" = V.str "link") = false := decide_eq_false (fun e => by injection e with e; exact absurd e (by decide))
      rw [ne]
      refine ⟨kvs, _, y3, y4, y5, y6, y7, y8, rfl, sm, eD, by omega, fun c x => ?_, fun c x => ?_, ?_⟩
      · rw [hF, next_some hz (fun e => absurd e (by simp [isFrom]))]
      · rw [hT, next_some hz (fun e => absurd e (by simp [isTo]))]
      · rw [tk]
        exact noClash_snoc nc fun y _ => by cases y <;> rfl
    | link c p q =>
      refine ⟨_, rfl, t, _, 0, .str "link", rfl, rfl, .inl (.inl ht'), atI_nat (j := 0) rfl, rfl, _, rfl, ?_⟩
      rw [decide_eq_true (rfl : V.str "link" = V.str "link")]
      refine ⟨_, rfl, t, _, rfl, .inl (.inl ht'), rfl, .str "link", _, rfl, .str c, _, rfl, .int p, _, rfl, .int q, _, rfl, rfl, ?_⟩
      refine ⟨_, rfl, D, rfl, .inr ⟨kvs, .inl eD⟩, _, rfl, _, rfl, by show 3 ≤ sizeLine; decide, fun T nT => ⟨_, rfl, ?_⟩⟩
      have mT := same_new nT (o := .tup [.str c, .str "from", .int p])
      have eT : upd H' T (.tup [.str c, .str "from", .int p]) T = some (.tup [.str c, .str "from", .int p]) := upd_same
      generalize upd H' T (.tup [.str c, .str "from", .int p]) = H1 at mT eT ⊢
      have eD1 := mT _ _ eD
      have sm1 : L2.Same H H1 := sm.trans mT
      have mem7 : ∀ (v : V) (x7 : Fact), (v, x7) ∈ (rs.zip fs).take i → (∃ t7, v = .ref t7 ∧ H t7 = some (.tup x7.v)) ∧ PyData.canLay0 (.str x7.word) = true := fun v x7 h =>
        ⟨tp.zip _ (List.mem_of_mem_take h), lay _ (List.mem_of_mem_take (zip_take_mem lr h))⟩
      refine ⟨kvs, kF c p, T, eD1, rfl, eT, Nat.lt_of_le_of_lt (show kvs.length ≤ 20000 by omega) (by decide), both (fun v H2 => ∃ (kvs1 : List (List Key × V)) (t7 : Addr) (x7 : Fact), v = .ref t7 ∧ H2 t7 = some (.tup x7.v) ∧ PyData.canLay0 (.str x7.word) = true ∧ Same H H2 ∧ H2 D = some (.dT kvs1) ∧ kvs1.length ≤ 2 * i + 1 ∧ (∀ c x, valV kvs1 (kF c x) = firstOf (isFrom c x) ((rs.zip fs).take (i + 1))) ∧ (∀ c x, valV kvs1 (kT c x) = firstOf (isTo c x) ((rs.zip fs).take i)) ∧ Seen (isFrom c p) (fs.take i) (.link c p q) x7) (fun v hv => ?_) (fun hn => ?_) fun v7 H2 h7 => ?_⟩
      · have hv' := hv
        rw [hF] at hv'
        obtain ⟨x7, hm, seen⟩ := seen_some (x := .link c p q) lr (fun y py ne => by
          obtain ⟨r, rfl⟩ := isFrom_iff.mp py
          exact clash_from fun e => ne (by rw [e])) nc hv'
        obtain ⟨⟨t7, rfl, e7⟩, l7⟩ := mem7 v x7 hm
        refine ⟨kvs, t7, x7, rfl, sm1 _ _ e7, l7, sm1, eD1, by omega, fun c' p' => ?_, hT, seen⟩
        rw [hF, next_some hz fun e => ?_]
        obtain ⟨r, e⟩ := isFrom_iff.mp e
        cases e
        rw [hv']
        rfl
      · have hn' := hn
        rw [hF] at hn'
        refine ⟨putK kvs (kF c p) (.ref t), t, .link c p q, rfl, same_upd sm1 nD _ _ ht, lx, same_upd sm1 nD, upd_same, by have := length_putK kvs (kF c p) (.ref t); omega, fun c' p' => ?_, fun c' p' => ?_, seen_none lr hn'⟩
        · rw [valV_put]
          by_cases e : kF c' p' = kF c p
          · rw [if_pos e]
            obtain ⟨rfl, rfl⟩ := kF_inj.mp e
            exact (next_none hz (isFrom_iff.mpr ⟨q, rfl⟩) hn').symm
          · rw [if_neg e, hF, next_some hz fun k => ?_]
            obtain ⟨r, k⟩ := isFrom_iff.mp k
            cases k
            exact absurd rfl e
        · rw [valV_put, if_neg (fun e => kFT e.symm), hT]
      obtain ⟨kvs1, t7, x7, rfl, e7, l7, sm2, eD2, lk1, hF1, hT1, seen7⟩ := h7
      refine ⟨_, rfl, D, rfl, .inr ⟨kvs1, .inl eD2⟩, _, rfl, _, rfl, by show 3 ≤ sizeLine; decide, fun T2 nT2 => ⟨_, rfl, ?_⟩⟩
      have mT2 := same_new nT2 (o := .tup [.str c, .str "to", .int q])
      have eT2 : upd H2 T2 (.tup [.str c, .str "to", .int q]) T2 = some (.tup [.str c, .str "to", .int q]) := upd_same
      generalize upd H2 T2 (.tup [.str c, .str "to", .int q]) = H3 at mT2 eT2 ⊢
      have eD3 := mT2 _ _ eD2
      have e73 := mT2 _ _ e7
      have sm3 : L2.Same H H3 := sm2.trans mT2
      refine ⟨kvs1, kT c q, T2, eD3, rfl, eT2, Nat.lt_of_le_of_lt (show kvs1.length ≤ 20001 by omega) (by decide), both (fun v H2 => H2 t7 = some (.tup x7.v) ∧ ∃ (kvs1 : List (List Key × V)) (t8 : Addr) (x8 : Fact), v = .ref t8 ∧ H2 t8 = some (.tup x8.v) ∧ PyData.canLay0 (.str x8.word) = true ∧ Same H H2 ∧ H2 D = some (.dT kvs1) ∧ kvs1.length ≤ 2 * i + 2 ∧ (∀ c x, valV kvs1 (kF c x) = firstOf (isFrom c x) ((rs.zip fs).take (i + 1))) ∧ (∀ c x, valV kvs1 (kT c x) = firstOf (isTo c x) ((rs.zip fs).take (i + 1))) ∧ Seen (isTo c q) (fs.take i) (.link c p q) x8) (fun v hv => ?_) (fun hn => ?_) fun v8 H4 h8 => ?_⟩
      · have hv' := hv
        rw [hT1] at hv'
        obtain ⟨x8, hm, seen⟩ := seen_some (x := .link c p q) lr (fun y py ne => by
          obtain ⟨r, rfl⟩ := isTo_iff.mp py
          exact clash_to fun e => ne (by rw [e])) nc hv'
        obtain ⟨⟨t8, rfl, e8⟩, l8⟩ := mem7 v x8 hm
        refine ⟨e73, kvs1, t8, x8, rfl, sm3 _ _ e8, l8, sm3, eD3, by omega, hF1, fun c' p' => ?_, seen⟩
        rw [hT1, next_some hz fun e => ?_]
        obtain ⟨r, e⟩ := isTo_iff.mp e
        cases e
        rw [hv']
        rfl
      · have hn' := hn
        rw [hT1] at hn'
        have neD : t7 ≠ D := fun e => by
          rw [e, eD3] at e73
          exact nomatch e73
        refine ⟨by rw [upd_ne neD]; exact e73, putK kvs1 (kT c q) (.ref t), t, .link c p q, rfl, same_upd sm3 nD _ _ ht, lx, same_upd sm3 nD, upd_same, by have := length_putK kvs1 (kT c q) (.ref t); omega, fun c' p' => ?_, fun c' p' => ?_, seen_none lr hn'⟩
        · rw [valV_put, if_neg kFT, hF1]
        · rw [valV_put]
          by_cases e : kT c' p' = kT c q
          · rw [if_pos e]
            obtain ⟨rfl, rfl⟩ := kT_inj.mp e
            exact (next_none hz (isTo_iff.mpr ⟨p, rfl⟩) hn').symm
          · rw [if_neg e, hT1, next_some hz fun k => ?_]
            obtain ⟨r, k⟩ := isTo_iff.mp k
            cases k
            exact absurd rfl e
      obtain ⟨e74, kvs2, t8, x8, rfl, e8, l8, sm4, eD4, lk2, hF2, hT2, seen8⟩ := h8
      have ht4 := sm4 _ _ ht
      have shx := fact_shaped (.link c p q) lx
      refine ⟨_, rfl, _, rfl, x7.d, (Fact.link c p q).d, fact_dp e74, fact_dp ht4, fact_shaped _ l7, shx, _, rfl, ite2 (fun n1 => ?_) fun n1 => ⟨_, rfl, _, rfl, x8.d, (Fact.link c p q).d, fact_dp e8, fact_dp ht4, fact_shaped _ l8, shx, _, rfl, ite2 (fun n2 => ?_) fun n2 => ?_⟩⟩
      · have ne : x7 ≠ .link c p q := fun e => by
          rw [(fact_eqv _ _).mpr e] at n1
          exact absurd n1 (by decide)
        exact ⟨_, rfl, q2 i _ _ H4 sm4 hxf hx nc ⟨x7, seen7.other ne⟩⟩
      · have ne : x8 ≠ .link c p q := fun e => by
          rw [(fact_eqv _ _).mpr e] at n2
          exact absurd n2 (by decide)
        exact ⟨_, rfl, q2 i _ _ H4 sm4 hxf hx nc ⟨x8, seen8.other ne⟩⟩
      · have yes : ∀ y : Fact, ¬ (!PyData.eqv y.d (Fact.link c p q).d) = true → y = .link c p q := fun y h => (fact_eqv _ _).mp (by
          cases e : PyData.eqv y.d (Fact.link c p q).d with
          | true => rfl
          | false => rw [e] at h; exact absurd rfl h)
        have s7 := seen7.same (yes _ n1)
        have s8 := seen8.same (yes _ n2)
        refine ⟨kvs2, _, _, _, _, _, _, _, rfl, sm4, eD4, by omega, hF2, hT2, ?_⟩
        rw [tk]
        refine noClash_snoc nc fun y hy => no_clash (fun c' p' q' r' k1 k2 => ?_) fun c' p' q' r' k1 k2 => ?_
        · cases k1
          exact s7 y hy (isFrom_iff.mpr ⟨_, k2⟩)
        · cases k1
          exact s8 y hy (isTo_iff.mpr ⟨_, k2⟩)
  · obtain ⟨kvs, y2, y3, y4, y5, y6, y7, y8, rfl, sm, eD, lk, hF, hT, nc⟩ := hP
    rw [lr, List.take_length] at nc
    exact q1 H' sm nc
end
end DQ

set_option Elab.async false
set_option linter.all false
set_option maxRecDepth 100000
set_option maxHeartbeats 400000
namespace DQ
open PySem PySem.Spec PyProof.Rows L2
/-- {item: True for item in items} -/
theorem dc_known {K : PySem.W.Frag} {a : Addr} {ns : List Int} {i : Nat} {vs : List Nat} {σ : L2.St} {H1 : Hp} {D : Addr} {Qd : Hp → Prop} {te : TE} (hs : SqL K H1 a (ns.map V.int)) (few : ns.length ≤ 10000) (nD : H1 D = none)
    (hw : ∀ (x : V), wipe ((wipe σ vs).set i (some x)) vs = wipe σ vs) (ht : ∀ (x : V) H (Q : V → Hp → Prop), Q x H → te ((wipe σ vs).set i (some x)) H Q) (hd : ∀ H, Same H1 H → KnownAt H D ns → Qd H) :
    ∃ W : Nat → Nat → Hp → Prop, (∃ m, W 0 m (upd H1 D (.dK []))) ∧ ∀ k m H, W k m H →
      ((Itl K a).stop k H ∧ Qd H) ∨ ((Itl K a).go k H ∧ ∃ Nx : Hp → Prop, (∀ H', Nx H' → ∃ m', m' < m ∧ W (k + 1) m' H') ∧ ∀ x H', (Itl K a).yld k H x H' → gName i x (wipe σ vs) H' fun σ2 H2 => wipe σ2 vs = wipe σ vs ∧ tYes σ2 H2 fun b H3 =>
        if b = true then te σ2 H3 fun y H4 => tC (.bl true) σ2 H4 fun z H5 => ∃ kvs k, y = kV k ∧ H5 D = some (.dK kvs) ∧ kvs.length < sizeLine ∧ Nx (upd H5 D (.dK (putK kvs k z))) else Nx H3) := by
  refine ⟨fun k m H => m = ns.length - k ∧ k ≤ ns.length ∧ Same H1 H ∧ ∃ kvs, H D = some (.dK kvs) ∧ kvs.length ≤ k ∧ ∀ j : Int, (valV kvs (.inl j)).isSome = decide (j ∈ ns.take k), ⟨ns.length, by simp, Nat.zero_le _, same_new nD, [], upd_same, Nat.le_refl _, fun j => by simp [valV]⟩, ?_⟩
  rintro k m H ⟨rfl, hk, sm, kvs, eD, lk, hv⟩
  have q := L2.Same.seq sm hs
  by_cases hlt : k < ns.length
  · refine .inr ⟨⟨_, _, q, by rw [List.getElem?_eq_getElem (by rw [List.length_map]; exact hlt)]⟩, fun H' => k + 1 ≤ ns.length ∧ Same H1 H' ∧ ∃ kvs, H' D = some (.dK kvs) ∧ kvs.length ≤ k + 1 ∧ ∀ j : Int, (valV kvs (.inl j)).isSome = decide (j ∈ ns.take (k + 1)), fun H' p => ⟨ns.length - (k + 1), by omega, rfl, p⟩, fun x H' y => ?_⟩
    obtain ⟨e, y⟩ := y
    subst e
    obtain ⟨n, hn, rfl⟩ := at_map (y _ q)
    refine ⟨hw _, ?_⟩
    refine ht _ _ _ ⟨kvs, .inl n, rfl, eD, Nat.lt_of_le_of_lt (show kvs.length ≤ 10000 by omega) (by decide), by omega, same_upd sm nD, _, upd_same, by have := length_putK kvs (.inl n) (.bl true); omega, fun j => ?_⟩
    rw [valV_put, take_next hn]
    by_cases e : j = n
    · rw [e, if_pos rfl]
      simp
    · rw [if_neg (fun z => e (by injection z)), hv]
      exact decide_eq_decide.mpr ⟨fun h => List.mem_append_left _ h, fun h => by
        rcases List.mem_append.mp h with h | h
        · exact h
        · exact absurd (List.mem_singleton.mp h) e⟩
  · have e : k = ns.length := by omega
    subst e
    refine .inl ⟨⟨_, q, by rw [List.length_map]; exact Nat.le_refl _⟩, hd H sm ⟨kvs, eD, fun j => ?_⟩⟩
    rw [hv, List.take_length]
def factD : PyData → Option Fact
  | .tuple [.str k, .str m, .int i] => if k = "mark" then some (.mark m i) else none
  | .tuple [.str k, .str c, .int a, .int b] => if k = "link" then some (.link c a b) else none
  | _ => none
def factsD (ds : List PyData) : List Fact := ds.filterMap factD
def noClashB (fs : List Fact) : Bool := fs.all fun x => fs.all fun y => !clashes x y
theorem noClashB_iff {fs : List Fact} : noClashB fs = true ↔ NoClash fs := by
  unfold noClashB NoClash
  simp only [List.all_eq_true, Bool.not_eq_true']
def areFactsD (ms cs : List Str) (ns : List Int) : PyData → Bool
  | .list ds => ds.all (isFactD ms cs ns) && (ascB ds && noClashB (factsD ds))
  | _ => false
theorem eqv_str {d : PyData} {s : Str} (h : PyData.eqv d (.str s) = true) : d = .str s := by
  cases d with
  | str x =>
    have e : (x == s) = true := by simpa only [PyData.eqv] using h
    rw [str_beq.mp e]
  | _ => exact absurd h (by simp [PyData.eqv])
theorem str_eqv {d : PyData} {s : Str} (h : PyData.eqv (.str s) d = true) : d = .str s := by
  cases d with
  | str x =>
    have e : (s == x) = true := by simpa only [PyData.eqv] using h
    rw [str_beq.mp e]
  | _ => exact absurd h (by simp [PyData.eqv])
theorem hasD_str {ms : List Str} {d : PyData} (h : hasD ms d = true) : ∃ m ∈ ms, d = .str m := by
  obtain ⟨z, hz, e⟩ := List.any_eq_true.mp h
  obtain ⟨m, hm, rfl⟩ := List.mem_map.mp hz
  exact ⟨m, hm, str_eqv e⟩
theorem okItem_int {ns : List Int} {d : PyData} (h : okItem ns d = true) : ∃ i ∈ ns, d = .int i := by
  unfold okItem at h
  rw [Bool.and_eq_true] at h
  cases d with
  | int i => exact ⟨i, of_decide_eq_true h.2, rfl⟩
  | _ => exact absurd h.2 (by simp)
theorem isFact_fact {ms cs : List Str} {ns : List Int} {d : PyData} (h : isFactD ms cs ns d = true) : ∃ x : Fact, d = x.d ∧ factD d = some x ∧ (x.word ∈ ms ∨ x.word ∈ cs) ∧ x.of ⟨ms, cs, ns, []⟩ := by
  cases d with
  | tuple ds =>
    match ds, h with
    | [], h => exact nomatch h
    | [_], h => exact nomatch h
    | a :: b :: r, h =>
      have h : (decide (r.length = 1 ∨ r.length = 2) && ((if r.length = 1 then PyData.eqv a (.str "mark") && hasD ms b else PyData.eqv a (.str "link") && hasD cs b) && r.all (okItem ns))) = true := h
      rw [Bool.and_eq_true, Bool.and_eq_true] at h
      obtain ⟨l, h1, h2⟩ := h
      have l := of_decide_eq_true l
      match r, l, h1, h2 with
      | [c], _, h1, h2 =>
        rw [if_pos (show [c].length = 1 from rfl), Bool.and_eq_true] at h1
        obtain ⟨m, hm, rfl⟩ := hasD_str h1.2
        rw [List.all_cons, Bool.and_eq_true] at h2
        obtain ⟨i, hi, rfl⟩ := okItem_int h2.1
        have ea := eqv_str h1.1
        subst ea
        exact ⟨.mark m i, rfl, (if_pos rfl : (if ("mark" : Str) = "mark" then some (Fact.mark m i) else none) = _), .inl hm, hm, hi⟩
      | [c, e], _, h1, h2 =>
        rw [if_neg (by simp), Bool.and_eq_true] at h1
        obtain ⟨m, hm, rfl⟩ := hasD_str h1.2
        rw [List.all_cons, List.all_cons, Bool.and_eq_true, Bool.and_eq_true] at h2
        obtain ⟨i, hi, rfl⟩ := okItem_int h2.1
        obtain ⟨j, hj, rfl⟩ := okItem_int h2.2.1
        have ea := eqv_str h1.1
        subst ea
        exact ⟨.link m i j, rfl, (if_pos rfl : (if ("link" : Str) = "link" then some (Fact.link m i j) else none) = _), .inr hm, hm, hi, hj⟩
      | [], l, _, _ => exact absurd l (by simp)
      | _ :: _ :: _ :: _, l, _, _ => exact absurd l (by simp)
  | _ => exact absurd h (by simp [isFactD])
theorem all_facts {ms cs : List Str} {ns : List Int} : ∀ {ds : List PyData}, ds.all (isFactD ms cs ns) = true → ds = (factsD ds).map Fact.d ∧ ∀ x ∈ factsD ds, (x.word ∈ ms ∨ x.word ∈ cs) ∧ x.of ⟨ms, cs, ns, []⟩
  | [], _ => ⟨rfl, fun x h => by cases h⟩
  | d :: ds, h => by
    rw [List.all_cons, Bool.and_eq_true] at h
    obtain ⟨x, e1, e2, e3, e4⟩ := isFact_fact h.1
    obtain ⟨i1, i2⟩ := all_facts h.2
    unfold factsD at i1 i2 ⊢
    rw [List.filterMap_cons_some e2]
    refine ⟨by rw [List.map_cons, ← i1, ← e1], fun y hy => ?_⟩
    rcases List.mem_cons.mp hy with rfl | hy
    · exact ⟨e3, e4⟩
    · exact i2 y hy
end DQ

set_option Elab.async false
set_option linter.all false
set_option maxRecDepth 100000
set_option maxHeartbeats 400000
namespace DQ
open PySem PySem.Spec PyProof.Rows L2
/-! ### what a store is, of any data: words, items, facts -/
def listD : PyData → List PyData
  | .list ds => ds
  | _ => []
def intD : PyData → Option Int
  | .int i => some i
  | _ => none
def intsD (ds : List PyData) : List Int := ds.filterMap intD
theorem ints_all {K : PySem.W.Frag} {H : Hp} : ∀ {vs : List V} {ds : List PyData}, DpAll K H vs ds → ds.all numD = true → vs = (intsD ds).map V.int ∧ (intsD ds).length = ds.length ∧ ds = (intsD ds).map PyData.int
  | _, _, .nil, _ => ⟨rfl, rfl, rfl⟩
  | v :: vs, d :: ds, .cons a t, h => by
    rw [List.all_cons, Bool.and_eq_true] at h
    obtain ⟨h1, h2⟩ := h
    obtain ⟨e, l, m⟩ := ints_all t h2
    cases a with
    | int x =>
      unfold intsD at e l m ⊢
      rw [List.filterMap_cons_some (f := intD) (a := .int x) (b := x) rfl, List.map_cons, List.map_cons, ← e, ← m, List.length_cons, l]
      exact ⟨rfl, rfl, rfl⟩
    | _ => cases h1
theorem texts_data : ∀ {ds : List PyData}, ds.all wordD = true → ds = (texts ds).map PyData.str
  | [], _ => rfl
  | d :: ds, h => by
    rw [List.all_cons, Bool.and_eq_true] at h
    have m := texts_data h.2
    cases d with
    | str x =>
      unfold texts at m ⊢
      rw [List.filterMap_cons_some (f := textD) (a := .str x) (b := x) rfl, List.map_cons, ← m]
    | _ => exact nomatch h.1
/-- a store, as data -/
def isStoreD (s m c i f : PyData) : Bool :=
  PyData.eqv s (.str "store") && ((wordsD 4 m && columnsD (texts (listD m)) c) && ((numsD i && decide ((listD i).length ≤ 2000) && ascB (listD i)) && areFactsD (texts (listD m)) (texts (listD c)) (intsD (listD i)) f))
theorem wordsD_list {m : Nat} {d : PyData} (h : wordsD m d = true) : ∃ ds, d = .list ds ∧ ds.all wordD = true := by
  cases d with
  | list ds =>
    have h : (decide (ds.length ≤ m) && (ds.all wordD && decide (differ (texts ds) ds.length = ds.length))) = true := h
    rw [Bool.and_eq_true, Bool.and_eq_true] at h
    exact ⟨ds, rfl, h.2.1⟩
  | _ => exact absurd h (by simp [wordsD])
/-- the items of a list can be laid -/
def Lays (d : PyData) : Prop := ∀ ds, d = .list ds → ∀ e ∈ ds, e.canLay0 = true
theorem shaped_texts {ds : List PyData} (h : ds.all wordD = true) (l : ∀ e ∈ ds, e.canLay0 = true) : SeqAt.shaped (.list ((texts ds).map PyData.str)) = true := by
  rw [← texts_data h]
  have c : ∀ {xs : List PyData}, xs.all wordD = true → (∀ e ∈ xs, e.canLay0 = true) → PyData.canLayAll0 xs = true ∧ PyData.depthAll xs = 0 := fun {xs} => by
    induction xs with
    | nil => exact fun _ _ => ⟨rfl, rfl⟩
    | cons x xs ih =>
      intro h l
      rw [List.all_cons, Bool.and_eq_true] at h
      obtain ⟨a, b⟩ := ih h.2 fun e he => l e (List.mem_cons_of_mem _ he)
      have lx := l x (List.mem_cons_self ..)
      cases x with
      | str z =>
        refine ⟨?_, ?_⟩
        · simp only [PyData.canLayAll0]
          rw [lx, a]
          rfl
        · simp only [PyData.depthAll, PyData.depth]
          rw [b]
          rfl
      | _ => exact nomatch h.1
  obtain ⟨a, b⟩ := c h l
  have dep : (PyData.list ds).depth ≤ 64 := by
    simp only [PyData.depth]
    rw [b]
    decide
  show (PyData.canLay0 (.list ds) && decide (PyData.depth (.list ds) ≤ 64)) = true
  rw [decide_eq_true dep, Bool.and_true]
  simp only [PyData.canLay0]
  exact a
theorem ne_int {n k : Nat} (h : n ≠ k) : decide (V.int (n : Int) = V.int (k : Int)) = false := decide_eq_false fun e => h (by injection e with e; omega)
end DQ

set_option Elab.async false
set_option linter.all false
set_option maxRecDepth 100000
set_option maxHeartbeats 400000
namespace DQ
open PySem PySem.Spec PyProof.Rows L2
/-! ### a drawn store is judged a store -/
theorem texts_strs : ∀ ms : List Str, texts (ms.map PyData.str) = ms
  | [] => rfl
  | x :: r => by
    have ih := texts_strs r
    unfold texts at ih ⊢
    rw [List.map_cons, List.filterMap_cons_some (f := textD) (a := .str x) (b := x) rfl, ih]
theorem factD_d (x : Fact) : factD x.d = some x := by
  cases x with
  | mark m i => exact (if_pos rfl : (if ("mark" : Str) = "mark" then some (Fact.mark m i) else none) = _)
  | link c a b => exact (if_pos rfl : (if ("link" : Str) = "link" then some (Fact.link c a b) else none) = _)
theorem factsD_facts : ∀ fs : List Fact, factsD (fs.map Fact.d) = fs
  | [] => rfl
  | x :: r => by
    have ih := factsD_facts r
    unfold factsD at ih ⊢
    rw [List.map_cons, List.filterMap_cons_some (factD_d x), ih]
theorem pairwise_next {α : Type} {R : α → α → Prop} : ∀ {l : List α}, l.Pairwise R → ∀ p ∈ l.zip (l.drop 1), R p.1 p.2
  | [], _, p, h => by cases h
  | [_], _, p, h => by cases h
  | x :: y :: r, h, p, hp => by
    obtain ⟨h1, h2⟩ := List.pairwise_cons.mp h
    have hp : p ∈ (x, y) :: (y :: r).zip ((y :: r).drop 1) := hp
    rcases List.mem_cons.mp hp with rfl | hp
    · exact h1 y (List.mem_cons_self ..)
    · exact pairwise_next h2 p hp
theorem ascB_of {ds : List PyData} (h : ds.Pairwise fun x y => PySem.W.dataLt x y = true) : ascB ds = true :=
  List.all_eq_true.mpr fun p hp => pairwise_next h p hp
theorem asc_ints {ns : List Int} (h : ns.Pairwise (· < ·)) : ascB (ns.map PyData.int) = true :=
  ascB_of (List.pairwise_map.mpr (h.imp fun {a b} h => by rw [PySem.W.dataLt_int]; exact decide_eq_true h))
theorem asc_facts {fs : List Fact} (h : fs.Pairwise fun x y => PySem.W.dataLt x.d y.d = true) : ascB (fs.map Fact.d) = true := ascB_of (List.pairwise_map.mpr h)
theorem nums_of {ns : List Int} (h : ∀ x ∈ ns, 0 ≤ x ∧ x ≤ 1000000000) : numsD (.list (ns.map PyData.int)) = true := by
  refine List.all_eq_true.mpr fun d hd => ?_
  obtain ⟨x, hx, rfl⟩ := List.mem_map.mp hd
  show (decide (0 ≤ x) && decide (x ≤ 1000000000)) = true
  rw [decide_eq_true (h x hx).1, decide_eq_true (h x hx).2]
  rfl
theorem hasD_of {ms : List Str} {m : Str} (h : m ∈ ms) : hasD ms (.str m) = true :=
  List.any_eq_true.mpr ⟨.str m, List.mem_map.mpr ⟨m, h, rfl⟩, by simp only [PyData.eqv]; exact str_beq.mpr rfl⟩
theorem okItem_of {ns : List Int} (hn : ∀ x ∈ ns, 0 ≤ x ∧ x ≤ 1000000000) {i : Int} (h : i ∈ ns) : okItem ns (.int i) = true := by
  show ((decide (0 ≤ i) && decide (i ≤ 1000000000)) && decide (i ∈ ns)) = true
  rw [decide_eq_true (hn i h).1, decide_eq_true (hn i h).2, decide_eq_true h]
  rfl
theorem isFact_of {S : Store} (hn : ∀ x ∈ S.items, 0 ≤ x ∧ x ≤ 1000000000) {x : Fact} (h : x.of S) : isFactD S.marks S.columns S.items x.d = true := by
  cases x with
  | mark m i =>
    obtain ⟨h1, h2⟩ := h
    show (decide (1 = 1 ∨ 1 = 2) && ((if 1 = 1 then PyData.eqv (.str "mark") (.str "mark") && hasD S.marks (.str m) else _) && (okItem S.items (.int i) && true))) = true
    rw [if_pos rfl, hasD_of h1, okItem_of hn h2]
    decide +kernel
  | link c a b =>
    obtain ⟨h1, h2, h3⟩ := h
    show (decide (2 = 1 ∨ 2 = 2) && ((if 2 = 1 then _ else PyData.eqv (.str "link") (.str "link") && hasD S.columns (.str c)) && (okItem S.items (.int a) && (okItem S.items (.int b) && true)))) = true
    rw [if_neg (by decide), hasD_of h1, okItem_of hn h2, okItem_of hn h3]
    decide +kernel
theorem one_place {l : List (Int × Int)} (h : (l.map (·.1)).Nodup) {a b c : Int} (h1 : (a, b) ∈ l) (h2 : (a, c) ∈ l) : b = c := by
  induction l with
  | nil => cases h1
  | cons p r ih =>
    obtain ⟨n1, n2⟩ := List.nodup_cons.mp h
    rcases List.mem_cons.mp h1 with e1 | h1 <;> rcases List.mem_cons.mp h2 with e2 | h2
    · rw [← e1] at e2
      cases e2
      rfl
    · exact absurd (List.mem_map.mpr ⟨_, h2, by rw [← e1]⟩) n1
    · exact absurd (List.mem_map.mpr ⟨_, h1, by rw [← e2]⟩) n1
    · exact ih n2 h1 h2
theorem one_place2 {l : List (Int × Int)} (h : (l.map (·.2)).Nodup) {a b c : Int} (h1 : (b, a) ∈ l) (h2 : (c, a) ∈ l) : b = c := by
  induction l with
  | nil => cases h1
  | cons p r ih =>
    obtain ⟨n1, n2⟩ := List.nodup_cons.mp h
    rcases List.mem_cons.mp h1 with e1 | h1 <;> rcases List.mem_cons.mp h2 with e2 | h2
    · rw [← e1] at e2
      cases e2
      rfl
    · exact absurd (List.mem_map.mpr ⟨_, h2, by rw [← e1]⟩) n1
    · exact absurd (List.mem_map.mpr ⟨_, h1, by rw [← e2]⟩) n1
    · exact ih n2 h1 h2
theorem mem_links {c : Str} {fs : List Fact} {a b : Int} (h : Fact.link c a b ∈ fs) : (a, b) ∈ linksOf c fs := by
  unfold linksOf
  exact List.mem_filterMap.mpr ⟨_, h, if_pos rfl⟩
theorem noClash_of {ns : List Int} {fs : List Fact} (h : ∀ c, OneToOne ns (linksOf c fs)) : NoClash fs := fun x hx y hy => no_clash (fun c p q r e1 e2 => by
    subst e1 e2
    rw [one_place (h c).1 (mem_links hx) (mem_links hy)]) fun c p q r e1 e2 => by
    subst e1 e2
    rw [one_place2 (h c).2.1 (mem_links hx) (mem_links hy)]
theorem areFacts_of {m : Nat} {S : Store} (D : Drawn m S) : areFactsD S.marks S.columns S.items (.list (S.facts.map Fact.d)) = true := by
  show ((S.facts.map Fact.d).all (isFactD S.marks S.columns S.items) && (ascB (S.facts.map Fact.d) && noClashB (factsD (S.facts.map Fact.d)))) = true
  rw [asc_facts D.rise, factsD_facts, noClashB_iff.mpr (noClash_of D.links), Bool.and_true, Bool.and_true]
  refine List.all_eq_true.mpr fun d hd => ?_
  obtain ⟨x, hx, rfl⟩ := List.mem_map.mp hd
  exact isFact_of D.items.2 (D.facts x hx)
theorem marks_ok {k : Nat} (h : k ≤ 3) : wordsD 4 (.list (((["red", "blue", "gold"] : List Str).take k).map PyData.str)) = true := by
  have c : k = 0 ∨ k = 1 ∨ k = 2 ∨ k = 3 := by omega
  rcases c with rfl | rfl | rfl | rfl <;> decide +kernel
theorem columns_ok {k j : Nat} (h : k ≤ 3) (h1 : 1 ≤ j) (h2 : j ≤ 2) : columnsD ((["red", "blue", "gold"] : List Str).take k) (.list (((["next", "below"] : List Str).take j).map PyData.str)) = true := by
  have c : k = 0 ∨ k = 1 ∨ k = 2 ∨ k = 3 := by omega
  have d : j = 1 ∨ j = 2 := by omega
  rcases c with rfl | rfl | rfl | rfl <;> rcases d with rfl | rfl <;> decide +kernel
theorem dp_intsL {K : PySem.W.Frag} {H : Hp} : ∀ ns : List Int, DpAll K H (ns.map V.int) (ns.map PyData.int)
  | [] => .nil
  | x :: r => .cons (.int x) (dp_intsL r)
theorem dp_facts {K : PySem.W.Frag} {H : Hp} : ∀ {rs : List V} {fs : List Fact}, Tups H rs (fs.map Fact.v) → DpAll K H rs (fs.map Fact.d)
  | [], [], _ => .nil
  | [], _ :: _, t => by cases t
  | _ :: _, [], t => by cases t
  | r :: rs, f :: fs, .cons ⟨a, e, h⟩ t => .cons (by rw [e]; exact fact_dp h) (dp_facts t)
theorem fact_d_inj {x y : Fact} (h : x.d = y.d) : x = y := by
  have := factD_d x
  rw [h, factD_d y] at this
  cases this
  rfl
theorem facts_inj {fs gs : List Fact} (h : fs.map Fact.d = gs.map Fact.d) : fs = gs := by
  have a := factsD_facts fs
  rw [h, factsD_facts] at a
  exact a.symm
theorem fact_parts (x : Fact) (l : PyData.canLay0 (.str x.word) = true) : Parts x.d := fun ds e z hz0 => by
  have hz := List.mem_of_mem_take hz0
  have s1 : SeqAt.shaped (.str "mark") = true := by decide +kernel
  have s2 : SeqAt.shaped (.str "link") = true := by decide +kernel
  have sw : SeqAt.shaped (.str x.word) = true := by
    show (PyData.canLay0 (.str x.word) && decide (PyData.depth (.str x.word) ≤ 64)) = true
    rw [l]
    rfl
  have si : ∀ i : Int, SeqAt.shaped (.int i) = true := fun _ => rfl
  cases x with
  | mark m i =>
    injection e with e
    subst e
    simp only [List.mem_cons, List.not_mem_nil, or_false] at hz
    rcases hz with rfl | rfl | rfl
    · exact s1
    · exact sw
    · exact si _
  | link c a b =>
    injection e with e
    subst e
    simp only [List.mem_cons, List.not_mem_nil, or_false] at hz
    rcases hz with rfl | rfl | rfl | rfl
    · exact s2
    · exact sw
    · exact si _
    · exact si _
/-- a drawn word -/
def drawnWords : List Str := ["red", "blue", "gold", "next", "below"]
theorem lay_words : ∀ x ∈ drawnWords, PyData.canLay0 (.str x) = true ∧ x.length ≤ 1000 := by decide +kernel
theorem Drawn.word {m : Nat} {S : Store} (D : Drawn m S) {x : Str} (h : x ∈ S.marks ∨ x ∈ S.columns) : x ∈ drawnWords := by
  obtain ⟨k, _, ek⟩ := D.marks
  obtain ⟨j, _, _, ej⟩ := D.columns
  rcases h with h | h
  · rw [ek] at h
    have h := List.mem_of_mem_take h
    simp only [List.mem_cons, List.not_mem_nil, or_false] at h
    rcases h with rfl | rfl | rfl <;> decide
  · rw [ej] at h
    have h := List.mem_of_mem_take h
    simp only [List.mem_cons, List.not_mem_nil, or_false] at h
    rcases h with rfl | rfl <;> decide
theorem Drawn.factWord {m : Nat} {S : Store} (D : Drawn m S) {x : Fact} (h : x ∈ S.facts) : x.word ∈ drawnWords := by
  have z := D.facts x h
  cases x with
  | mark m i => exact D.word (.inl z.1)
  | link c a b => exact D.word (.inr z.1)
end DQ

set_option Elab.async false
set_option linter.all false
set_option maxRecDepth 100000
set_option maxHeartbeats 2000000
namespace DQ
open PySem PySem.Spec PyProof.Rows L2
/-! ### small data: what repr, ==, sorted want of it, part by part -/
/-- data that nests at most k deep, of weight at most n, its ints short -/
structure Sm (k n : Nat) (d : PyData) : Prop where
  lay : d.canLay0 = true
  dep : d.depth ≤ k
  wt : d.weight ≤ n
  sh : d.showable = true
  short : d.intsShort 13 = true
theorem Sm.mono {k n k' n' : Nat} {d : PyData} (h : Sm k n d) (hk : k ≤ k') (hn : n ≤ n') : Sm k' n' d := ⟨h.lay, Nat.le_trans h.dep hk, Nat.le_trans h.wt hn, h.sh, h.short⟩
theorem Sm.shows {k n : Nat} {d : PyData} (h : Sm k n d) (hk : k ≤ 64) (hn : n ≤ 1048576) : Shows d := by
  have hl : PyData.layable0 d = true := by
    show (PyData.canLay0 d && decide (PyData.depth d ≤ 64) && decide (PyData.weight d ≤ 2 ^ 20)) = true
    rw [h.lay, decide_eq_true (Nat.le_trans h.dep hk), decide_eq_true (show PyData.weight d ≤ 2 ^ 20 from Nat.le_trans h.wt (by simpa using hn))]
    rfl
  exact ⟨h.sh, PyData.hasDict_of_canLay d h.lay, Nat.le_trans h.dep hk, PyData.shown_fits_of_layable0 (B := 13) (by decide) (by decide) hl h.short⟩
theorem Sm.shaped {k n : Nat} {d : PyData} (h : Sm k n d) (hk : k ≤ 64) : SeqAt.shaped d = true := by
  show (PyData.canLay0 d && decide (PyData.depth d ≤ 64)) = true
  rw [h.lay, decide_eq_true (Nat.le_trans h.dep hk)]
  rfl
theorem sm_none : Sm 0 0 .none := ⟨rfl, Nat.le_refl _, Nat.le_refl _, rfl, rfl⟩
theorem sm_bool (b : Bool) : Sm 0 0 (.bool b) := ⟨rfl, Nat.le_refl _, Nat.le_refl _, rfl, rfl⟩
theorem sm_int {i : Int} (h1 : -100000000000 ≤ i) (h2 : i ≤ 100000000000) : Sm 0 64 (.int i) := by
  have h : i.natAbs < 10 ^ 12 := by omega
  have hl : i.natAbs.log2 < 64 := by
    by_cases z : i.natAbs = 0
    · rw [z]; decide
    · exact (Nat.log2_lt z).mpr (Nat.lt_trans h (by decide))
  refine ⟨rfl, Nat.le_refl _, ?_, ?_, ?_⟩
  · simp only [PyData.weight]
    split <;> omega
  · simp only [PyData.showable]
    exact decide_eq_true (by omega)
  · simp only [PyData.intsShort]
    exact decide_eq_true (PyData.shown_int_le h)
theorem sm_str {x : Str} {n : Nat} (h : PyData.canLay0 (.str x) = true) (hn : x.cps.size ≤ n) : Sm 0 n (.str x) := ⟨h, Nat.le_refl _, by simpa only [PyData.weight] using hn, rfl, rfl⟩
structure SmAll (k n : Nat) (ds : List PyData) : Prop where
  lay : PyData.canLayAll0 ds = true
  dep : PyData.depthAll ds ≤ k
  wt : PyData.weightAll ds ≤ ds.length * (n + 1)
  sh : PyData.showableAll ds = true
  short : PyData.intsShortAll 13 ds = true
theorem smAll {k n : Nat} : ∀ {ds : List PyData}, (∀ d ∈ ds, Sm k n d) → SmAll k n ds
  | [], _ => ⟨rfl, Nat.zero_le _, Nat.zero_le _, rfl, rfl⟩
  | d :: ds, h => by
    have a := h d (List.mem_cons_self ..)
    have b := smAll (ds := ds) fun e he => h e (List.mem_cons_of_mem _ he)
    refine ⟨?_, ?_, ?_, ?_, ?_⟩
    · simp only [PyData.canLayAll0]
      rw [a.lay, b.lay]
      rfl
    · simp only [PyData.depthAll]
      exact Nat.max_le.mpr ⟨a.dep, b.dep⟩
    · simp only [PyData.weightAll, List.length_cons]
      have := a.wt
      have := b.wt
      rw [Nat.add_mul]
      omega
    · simp only [PyData.showableAll]
      rw [a.sh, b.sh]
      rfl
    · simp only [PyData.intsShortAll]
      rw [a.short, b.short]
      rfl
theorem SmAll.list {k n m : Nat} {ds : List PyData} (h : SmAll k n ds) (hm : ds.length ≤ m) : Sm (k + 1) (m * (n + 1)) (.list ds) := by
  refine ⟨by simpa only [PyData.canLay0] using h.lay, ?_, ?_, by simpa only [PyData.showable] using h.sh, by simpa only [PyData.intsShort] using h.short⟩
  · simp only [PyData.depth]
    have := h.dep
    omega
  · simp only [PyData.weight]
    exact Nat.le_trans h.wt (Nat.mul_le_mul_right _ hm)
theorem SmAll.tuple {k n m : Nat} {ds : List PyData} (h : SmAll k n ds) (hm : ds.length ≤ m) : Sm (k + 1) (m * (n + 1)) (.tuple ds) := by
  refine ⟨by simpa only [PyData.canLay0] using h.lay, ?_, ?_, by simpa only [PyData.showable] using h.sh, by simpa only [PyData.intsShort] using h.short⟩
  · simp only [PyData.depth]
    have := h.dep
    omega
  · simp only [PyData.weight]
    exact Nat.le_trans h.wt (Nat.mul_le_mul_right _ hm)
theorem Sm.eqv {k n : Nat} {d : PyData} (h : Sm k n d) (hk : k ≤ 64) : PyData.eqv d d = true := SeqAt.eqv_refl d (SeqAt.canLay_of_shaped (h.shaped hk))
theorem sm_word {x : Str} (h : x ∈ drawnWords) : Sm 0 10 (.str x) := by
  simp only [drawnWords, List.mem_cons, List.not_mem_nil, or_false] at h
  rcases h with rfl | rfl | rfl | rfl | rfl <;> exact sm_str (by decide +kernel) (by decide +kernel)
theorem sm_item {i : Int} (h : 0 ≤ i ∧ i ≤ 1000000000) : Sm 0 64 (.int i) := sm_int (by omega) (by omega)
theorem sm_fact {m : Nat} {S : Store} (D : Drawn m S) {x : Fact} (h : x ∈ S.facts) : Sm 1 260 x.d := by
  have wd := sm_word (D.factWord h)
  have z := D.facts x h
  have it : ∀ i, i ∈ S.items → Sm 0 64 (.int i) := fun i hi => sm_item (D.items.2 i hi)
  have s1 : Sm 0 64 (.str "mark") := sm_str (by decide +kernel) (by decide +kernel)
  have s2 : Sm 0 64 (.str "link") := sm_str (by decide +kernel) (by decide +kernel)
  cases x with
  | mark c i =>
    refine (SmAll.tuple (k := 0) (n := 64) (m := 4) (ds := [.str "mark", .str c, .int i]) (smAll fun d hd => ?_) (show 3 ≤ 4 by decide)).mono (by decide) (by decide)
    simp only [List.mem_cons, List.not_mem_nil, or_false] at hd
    rcases hd with rfl | rfl | rfl
    · exact s1
    · exact wd.mono (by decide) (by decide)
    · exact it _ z.2
  | link c a b =>
    refine (SmAll.tuple (k := 0) (n := 64) (m := 4) (ds := [.str "link", .str c, .int a, .int b]) (smAll fun d hd => ?_) (show 4 ≤ 4 by decide)).mono (by decide) (by decide)
    simp only [List.mem_cons, List.not_mem_nil, or_false] at hd
    rcases hd with rfl | rfl | rfl | rfl
    · exact s2
    · exact wd.mono (by decide) (by decide)
    · exact it _ z.2.1
    · exact it _ z.2.2
theorem sm_facts {m : Nat} {S : Store} (D : Drawn m S) {fs : List Fact} (h : ∀ x ∈ fs, x ∈ S.facts) (hl : fs.length ≤ 1000) : Sm 2 261000 (.list (fs.map Fact.d)) := by
  refine (SmAll.list (k := 1) (n := 260) (m := 1000) (smAll fun d hd => ?_) (by rw [List.length_map]; exact hl)).mono (by decide) (by decide)
  obtain ⟨x, hx, rfl⟩ := List.mem_map.mp hd
  exact sm_fact D (h x hx)
theorem sm_words {ms : List Str} (h : ∀ x ∈ ms, x ∈ drawnWords) (hl : ms.length ≤ 10) : Sm 1 110 (.list (ms.map PyData.str)) := by
  refine (SmAll.list (k := 0) (n := 10) (m := 10) (smAll fun d hd => ?_) (by rw [List.length_map]; exact hl)).mono (by decide) (by decide)
  obtain ⟨x, hx, rfl⟩ := List.mem_map.mp hd
  exact sm_word (h x hx)
theorem sm_items {ns : List Int} (h : ∀ x ∈ ns, 0 ≤ x ∧ x ≤ 1000000000) (hl : ns.length ≤ 1000) : Sm 1 65000 (.list (ns.map PyData.int)) := by
  refine (SmAll.list (k := 0) (n := 64) (m := 1000) (smAll fun d hd => ?_) (by rw [List.length_map]; exact hl)).mono (by decide) (by decide)
  obtain ⟨x, hx, rfl⟩ := List.mem_map.mp hd
  exact sm_item (h x hx)
/-- the data of a store -/
def Store.d (S : Store) : PyData := .tuple [.str "store", .list (S.marks.map PyData.str), .list (S.columns.map PyData.str), .list (S.items.map PyData.int), .list (S.facts.map Fact.d)]
theorem store_dp {K : PySem.W.Frag} {H : Hp} {v : V} {S : Store} (A : StoAt H v S) : Dp K H v S.d := by
  obtain ⟨t, ma, ca, ia, fa, rs, rfl, ht, hma, hca, hia, hfa, tp⟩ := A
  exact .tup (.inl (.inl ht)) (.cons (.str _) (.cons (.lst (SqL.of hma) (dp_texts S.marks)) (.cons (.lst (SqL.of hca) (dp_texts S.columns)) (.cons (.lst (SqL.of hia) (dp_intsL S.items)) (.cons (.lst (SqL.of hfa) (dp_facts tp)) .nil)))))
theorem Drawn.fewMarks {m : Nat} {S : Store} (D : Drawn m S) : S.marks.length ≤ 10 := by
  obtain ⟨k, hk, ek⟩ := D.marks
  rw [ek, List.length_take]
  omega
theorem Drawn.fewColumns {m : Nat} {S : Store} (D : Drawn m S) : S.columns.length ≤ 10 := by
  obtain ⟨k, h1, hk, ek⟩ := D.columns
  rw [ek, List.length_take]
  omega
theorem sm_store {m : Nat} {S : Store} (D : Drawn m S) (hm : m ≤ 1000) : Sm 3 400000 S.d := by
  have a := sm_words (ms := S.marks) (fun x h => D.word (.inl h)) D.fewMarks
  have b := sm_words (ms := S.columns) (fun x h => D.word (.inr h)) D.fewColumns
  have c := sm_items D.items.2 (Nat.le_trans D.few hm)
  have d := sm_facts D (fs := S.facts) (fun x h => h) D.short
  have e : Sm 0 10 (.str "store") := sm_str (by decide +kernel) (by decide +kernel)
  refine ⟨?_, ?_, ?_, ?_, ?_⟩
  · simp only [Store.d, PyData.canLay0, PyData.canLayAll0]
    have := e.lay; have := a.lay; have := b.lay; have := c.lay; have := d.lay
    simp_all [PyData.canLay0]
  · simp only [Store.d, PyData.depth, PyData.depthAll]
    have := e.dep; have := a.dep; have := b.dep; have := c.dep; have := d.dep
    simp only [PyData.depth] at *
    omega
  · simp only [Store.d, PyData.weight, PyData.weightAll]
    have := e.wt; have := a.wt; have := b.wt; have := c.wt; have := d.wt
    simp only [PyData.weight] at *
    omega
  · simp only [Store.d, PyData.showable, PyData.showableAll]
    have := e.sh; have := a.sh; have := b.sh; have := c.sh; have := d.sh
    simp_all [PyData.showable]
  · simp only [Store.d, PyData.intsShort, PyData.intsShortAll]
    have := e.short; have := a.short; have := b.short; have := c.short; have := d.short
    simp_all [PyData.intsShort]
end DQ
namespace DQ
open PySem PySem.Spec PyProof.Rows L2
/-- a row of small data -/
structure SmL (k n : Nat) (ds : List PyData) : Prop where
  lay : PyData.canLayAll0 ds = true
  dep : PyData.depthAll ds ≤ k
  wt : PyData.weightAll ds ≤ n
  sh : PyData.showableAll ds = true
  short : PyData.intsShortAll 13 ds = true
theorem sml_nil {k : Nat} : SmL k 0 [] := ⟨rfl, Nat.zero_le _, Nat.le_refl _, rfl, rfl⟩
theorem Sm.cons {k j a b : Nat} {d : PyData} {ds : List PyData} (x : Sm j a d) (r : SmL k b ds) (hj : j ≤ k) : SmL k (a + 1 + b) (d :: ds) := by
  refine ⟨?_, ?_, ?_, ?_, ?_⟩
  · simp only [PyData.canLayAll0]
    rw [x.lay, r.lay]
    rfl
  · simp only [PyData.depthAll]
    exact Nat.max_le.mpr ⟨Nat.le_trans x.dep hj, r.dep⟩
  · simp only [PyData.weightAll]
    have := x.wt
    have := r.wt
    omega
  · simp only [PyData.showableAll]
    rw [x.sh, r.sh]
    rfl
  · simp only [PyData.intsShortAll]
    rw [x.short, r.short]
    rfl
theorem SmL.list {k n : Nat} {ds : List PyData} (h : SmL k n ds) : Sm (k + 1) n (.list ds) := by
  refine ⟨by simpa only [PyData.canLay0] using h.lay, ?_, by simpa only [PyData.weight] using h.wt, by simpa only [PyData.showable] using h.sh, by simpa only [PyData.intsShort] using h.short⟩
  simp only [PyData.depth]
  have := h.dep
  omega
theorem SmL.tuple {k n : Nat} {ds : List PyData} (h : SmL k n ds) : Sm (k + 1) n (.tuple ds) := by
  refine ⟨by simpa only [PyData.canLay0] using h.lay, ?_, by simpa only [PyData.weight] using h.wt, by simpa only [PyData.showable] using h.sh, by simpa only [PyData.intsShort] using h.short⟩
  simp only [PyData.depth]
  have := h.dep
  omega
end DQ

set_option Elab.async false
set_option linter.all false
set_option maxRecDepth 100000
set_option maxHeartbeats 4000000
/-! an own error class called with keywords: its __new__ takes them and forgets them, its __init__ binds them -/
namespace PySem.ErrKw
open PySem PySem.W PySem.Calls PyProof.Rows PySem.HandSPX
section
variable {prog : Program} {w : World} {A : Around} {E : Value → Shared → Prop} {R : Result → Shared → Prop} {hp : Heap} {gs : Array GenState} {dr : Drawn} {tk : Nat} {os : OsState}
variable {cn cq : Str} {C Nd : Addr} {bases tail tailB : List Value} {hd : Bool} {sl : List Str} {subs : List Value} {abs : Bool} {col : Option Bool} {dict : Option Addr} {z0 z1 z2 z3 z5 : Option Value} {B nw ini : String} {us : List Value} {kw : List (Str × Value)}
theorem kw_check {M : Model} (F : ExcBaseFacts B nw ini tailB) (same : ∀ Y : String, tail.contains (.type Y) = tailB.contains (.type Y)) {Q : Unit → Shared → Prop}
    (hC : hp.get? C = some (excClassObj cn cq C Nd bases tail hd sl subs abs col dict z0 z1 z2 z3 z5 nw)) (hQ : Q () ⟨hp, gs, dr, tk, os⟩) : wpAny M A (checkBuiltinCall nw ⟨.ref C :: us, kw⟩) Q E ⟨hp, gs, dr, tk, os⟩ := by
  have hasB : (Value.ref C :: tail).contains (.type B) = true := by
    rw [List.contains_cons, same, F.hasB, Bool.or_true]
  have star := F.noStar
  simp only [checkBuiltinCall, F.newKind, F.newSplit, F.newRow]
  repeat (first
    | refine wpAny_loadPart_at hC ?_
    | (refine wpAny_isSubtype_exc hC ?_; rw [hasB])
    | refine wpAny_staticBase_exc hC ?_
    | refine wpAny_madeBy_exc hC ?_
    | simp only [bne_self_eq_false, Bool.false_eq_true, if_false]
    | wp_step)
  exact hQ
theorem kw_new (F : ExcBaseFacts B nw ini tailB) (same : ∀ Y : String, tail.contains (.type Y) = tailB.contains (.type Y))
    (hC : hp.get? C = some (excClassObj cn cq C Nd bases tail hd sl subs abs col dict z0 z1 z2 z3 z5 nw))
    (hR : R (.ok (.ret (.ref (hp.objs.size + 1)))) ⟨(hp.push (W.kdv_tup us)).push (excO C hp.objs.size), gs, dr, tk, os⟩) (small : us.length ≤ sizeLine) :
    codeAny (model prog w) A (.builtin nw ⟨.ref C :: us, kw⟩) R ⟨hp, gs, dr, tk, os⟩ := by
  have ends := F.ends
  have has : ∀ {Y : String} {b : Bool}, tailB.contains (.type Y) = b → (Value.ref C :: tail).contains (.type Y) = b := fun {Y b} e => by
    rw [List.contains_cons, same, e]
    rfl
  have i1 := has F.hasB
  have i2 := has F.noAttr
  have i3 := has F.noName
  refine codeAny_builtinAt F.entry ?_
  unfold Builtin.«BaseException.__new__»
  refine wpAt_bind ?_
  refine (show wpAt _ _ _ (stack >>= _) _ _ _ from wpAt_bind (wpAt_stack fun p below => wpAt_of_wpAny ?_))
  wp_walk
  refine wpAt_of_wpAny ?_
  rw [F.owner]
  repeat (first
    | with_reducible refine wpAny_madeHere_exc F.canon hC ?_
    | with_reducible refine wpAny_loadPart_at hC ?_
    | (with_reducible refine wpAny_isSubtype_exc hC ?_; first | rw [i1] | rw [i2] | rw [i3])
    | wp_step)
  show R _ _
  rw [Heap.size_push]
  exact hR
theorem kw_type (F : ExcBaseFacts B nw ini tailB) (same : ∀ Y : String, tail.contains (.type Y) = tailB.contains (.type Y)) {fI : Addr} {Q : Fin → Shared → Prop}
    (hC : hp.get? C = some (excClassObj cn cq C Nd bases tail hd sl subs abs col dict z0 z1 z2 z3 z5 nw)) (look : Looks (model prog w) hp (typeLookup (.ref C) "__init__") (some (.ref fI))) (bind : ∀ self, Looks (model prog w) hp (bindSpecial (.ref fI) self) (.ref fI, [self])) (small : us.length ≤ sizeLine)
    (hQ : codeAny (model prog w) A (.call (.ref fI) ⟨.ref (hp.objs.size + 1) :: us, kw⟩) (fun r s' => match r with | .ok (.ret v) => v = .none ∧ Q (.done (.ret (.ref (hp.objs.size + 1)))) s' | .ok _ => False | .error e => E e s') ⟨(hp.push (W.kdv_tup us)).push (excO C hp.objs.size), gs, dr, tk, os⟩) :
    wpAny (model prog w) A (Builtin.«type.__call__» ⟨.ref C :: us, kw⟩) Q E ⟨hp, gs, dr, tk, os⟩ := by
  repeat (first
    | with_reducible refine wpAny_loadPart_at hC ?_
    | with_reducible refine wpAny_madeBy_exc hC ?_
    | wp_step)
  refine codeAny_call_builtin_code (Code.quiet_builtin _ F.quiet) (kw_check F same hC (kw_new F same hC ?_ small))
  show wpAny _ _ _ _ _ _
  have grown : ∀ b o, hp.get? b = some o → ((hp.push (W.kdv_tup us)).push (excO C hp.objs.size)).get? b = some o := fun b o z => Heap.get?_push_of_some _ (Heap.get?_push_of_some _ z)
  have made : ((hp.push (W.kdv_tup us)).push (excO C hp.objs.size)).get? (hp.objs.size + 1) = some (excO C hp.objs.size) := by heap_get
  have itself : (Value.ref C :: tail).contains (.ref C) = true := by simp
  have hC2 := grown _ _ hC
  unfold isInstance
  repeat (first
    | with_reducible refine wpAny_loadPart_at made ?_
    | (with_reducible refine wpAny_isSubtype_exc hC2 ?_; rw [itself])
    | wp_step)
  refine (show wpAny _ _ (typeLookup (.ref C) _) _ _ _ from (look.keeps grown).at ?_)
  refine wpAny_holding (wpAny_bind (((bind (.ref (hp.objs.size + 1))).keeps grown).at ?_))
  refine wpAny_bind (wpAny_call (codeAny_mono hQ fun r s' z => ?_))
  match r, z with
  | .error _, z => exact z
  | .ok (.ret _), ⟨rfl, z⟩ =>
    first
      | exact wpAny_pure (wpAny_pure z)
      | (wp_walk; exact z)
  | .ok .next, z => exact z.elim
  | .ok .brk, z => exact z.elim
  | .ok .cont, z => exact z.elim
theorem kw_check_call {M : Model} {Q : Unit → Shared → Prop} (hC : hp.get? C = some (excClassObj cn cq C Nd bases tail hd sl subs abs col dict z0 z1 z2 z3 z5 nw)) (hQ : Q () ⟨hp, gs, dr, tk, os⟩) :
    wpAny M A (checkBuiltinCall "type.__call__" ⟨.ref C :: us, kw⟩) Q E ⟨hp, gs, dr, tk, os⟩ := by
  have sub := tc_sub
  have isTy : (⟨hp, gs, dr, tk, os⟩ : Shared).TypeIs (.ref C) "type" := ⟨_, hC, rfl⟩
  simp only [checkBuiltinCall, tc_kind, tc_split]
  repeat (any_goals (first
    | assumption
    | with_reducible refine wpAny_loadPart_at hC ?_
    | with_reducible refine wpAny_onRaise ?_
    | with_reducible refine wpAny_map ?_
    | wp_step))
theorem kw_call (F : ExcBaseFacts B nw ini tailB) (same : ∀ Y : String, tail.contains (.type Y) = tailB.contains (.type Y)) {fI : Addr}
    (hC : hp.get? C = some (excClassObj cn cq C Nd bases tail hd sl subs abs col dict z0 z1 z2 z3 z5 nw)) (look : Looks (model prog w) hp (typeLookup (.ref C) "__init__") (some (.ref fI))) (bind : ∀ self, Looks (model prog w) hp (bindSpecial (.ref fI) self) (.ref fI, [self])) (small : us.length ≤ sizeLine)
    (hR : codeAny (model prog w) (A.under (.builtin "type.__call__" ⟨.ref C :: us, kw⟩)) (.call (.ref fI) ⟨.ref (hp.objs.size + 1) :: us, kw⟩) (InitBack (hp.objs.size + 1) R) ⟨(hp.push (W.kdv_tup us)).push (excO C hp.objs.size), gs, dr, tk, os⟩) :
    codeAny (model prog w) A (.call (.ref C) ⟨us, kw⟩) R ⟨hp, gs, dr, tk, os⟩ := by
  have l1 := tc_lookup
  have l2 := tc_bind (.ref C)
  have isTy : (⟨hp, gs, dr, tk, os⟩ : Shared).TypeIs (.ref C) "type" := ⟨_, hC, rfl⟩
  refine codeAny_of_tree (show wpAny _ _ (callAny (.ref C) _) _ _ _ from ?_)
  repeat (any_goals (first
    | assumption
    | with_reducible refine wpAny_loadPart_at hC ?_
    | wp_step))
  refine ⟨rfl, codeAny_call_builtin_at (Code.quiet_builtin _ (by decide +kernel)) entry_typeCall (kw_check_call hC (kw_type F same hC look bind small (codeAny_mono hR fun r s' z => ?_)))⟩
  match r, z with
  | .error _, z => exact z
  | .ok (.ret _), z => exact z
  | .ok .next, z => exact z
  | .ok .brk, z => exact z
  | .ok .cont, z => exact z
end
end PySem.ErrKw

set_option Elab.async false
set_option linter.all false
set_option maxRecDepth 100000
set_option maxHeartbeats 4000000
namespace DQ
open PySem PySem.Spec PyProof.Rows L2
/-! ### errors of own classes as values -/
/-- C(e, ..): a new error at a, C's own __init__ keeping sp -/
def tErr (C : Addr) (sp : Sp) (dvs : List V) (ta : TA) : TE := fun σ H Q => ta σ H fun vs H1 => vs.length ≤ 1000 ∧ ∀ a, H1 a = none → sp (.ref a :: (vs ++ dvs)) (upd H1 a (exo a C none)) (fun v H2 => v = .non ∧ Q (.ref a) H2) (fun _ _ _ => False)
section
variable {X : Cx} {x : Str} {C fI : Addr} {k : Nat} {fd : FuncData} {ps : List Str} {sp : Sp} {ds : List Value} {dvs : List V} {CX : CXT} {e : Expr} {es : List Expr} {ta : TA} {p pos : Pos}
theorem run_err {pins : List (Addr × Obj)} {σ : L2.St} {H1 : Hp} {s1 : Shared} {Q : VK} {us : List Value} {vs : List V} (T : OexC X.K C) (iC : PySem.W.findIn X.K (.ref C) "__init__" = some (some (.ref fI))) (tI : PySem.W.typeIn X.K (.ref fI) = some (.type "function"))
    (F1 : FnOk X.prog X.w X.K X.mg X.base CX k fI fd ps sp) (hr : Room (k + 1) X.A) (hb : Binds X.K fd ps ds) (hd : Vals dvs ds) (hx : Passes CX X (fun _ _ _ => False)) (I1 : Inv X pins σ H1 s1) (r1 : Vals vs us) (hz : vs.length ≤ 1000)
    (q1 : ∀ a, H1 a = none → sp (.ref a :: (vs ++ dvs)) (upd H1 a (exo a C none)) (fun v H2 => v = .non ∧ Q (.ref a) H2) (fun _ _ _ => False)) :
    wpAny (model X.prog X.w) X.A (call (.ref C) us) (EP X pins σ Q) X.xe s1 := by
  obtain ⟨nm, q, N, bs, bm, sn, sub, ab, col, dd, k0, k1, k2, k3, k5, hC, hbm⟩ := T.cls
  obtain ⟨hp, g, dr, tk, os⟩ := s1
  have room : hp.objs.size ≤ hp.objs.size + 1 := Nat.le_succ _
  have hq := q1 (hp.objs.size + 1) (I1.hok.fresh room)
  let h2 := (hp.push (PySem.W.kdv_tup us)).push (PySem.HandSPX.excO C hp.objs.size)
  have at2 : h2.get? (hp.objs.size + 1) = some (PySem.HandSPX.excO C hp.objs.size) := by heap_get
  have I2 : Inv X pins σ (upd H1 (hp.objs.size + 1) (exo (hp.objs.size + 1) C none)) ⟨h2, g, dr, tk, os⟩ :=
    Inv.laid (t' := tk) (a := hp.objs.size + 1) (o := exo (hp.objs.size + 1) C none) (h' := h2) I1 (fun b o z => Heap.get?_push_of_some _ (Heap.get?_push_of_some _ z)) room (exo_ok at2)
  have r2 : Vals (V.ref (hp.objs.size + 1) :: (vs ++ dvs)) (Value.ref (hp.objs.size + 1) :: (us ++ ds)) := .cons rfl (r1.append hd)
  have many : (Value.ref (hp.objs.size + 1) :: us ++ ds).length = ps.length := (r2.length.symm.trans (F1.len _ _ _ _ hq))
  have small : us.length ≤ sizeLine := by
    rw [← Paired.length r1, sizeLine_eq]
    omega
  have run := F1.run _ X.stack _ _ ⟨Value.ref (hp.objs.size + 1) :: us, []⟩ _ _ _ (fun _ _ _ => False) (hr.make C us []) (I2.env0.make C us []) (hb _ (Value.ref (hp.objs.size + 1) :: us) I2.kIn many) r2 hq
  refine wpAny_call (PySem.HandSPX.call_own F.excBase_ValueError (fun Y => PySem.HandSPX.refsVE_contains Y bm hbm) (I1.kIn _ _ hC) (PySem.W.looks_findIn I1.kIn iC) (fun self => PySem.W.bind_fn I1.kIn self tI) small (codeAny_mono run fun r s' z => ?_))
  match r, z with
  | .error er, z => exact hx pins σ _ _ er s' I2 z
  | .ok (.ret u), z =>
    obtain ⟨v, H', I3, rv, ev, q3⟩ := I2.after z
    subst ev
    exact ⟨rv, V.ref (hp.objs.size + 1), H', I3, rfl, q3⟩
  | .ok .next, z => exact False.elim z
  | .ok .brk, z => exact False.elim z
  | .ok .cont, z => exact False.elim z
theorem pe_err (T : OexC X.K C) (iC : PySem.W.findIn X.K (.ref C) "__init__" = some (some (.ref fI))) (tI : PySem.W.typeIn X.K (.ref fI) = some (.type "function"))
    (F1 : FnOk X.prog X.w X.K X.mg X.base CX k fI fd ps sp) (hr : Room (k + 1) X.A) (hb : Binds X.K fd ps ds) (hd : Vals dvs ds) (hx : Passes CX X (fun _ _ _ => False)) (hg : Gl X x) (hm : X.mg x = some (.ref C)) (ha : PA X (e :: es) ta)
    (hdb : (x == ("__debug__" : Str)) = false := by decide) (he : starEach (e :: es) X.env = (false, eval e X.env) :: starEach es X.env := by rfl) (hpl : (backTo pos (starEach es X.env)).any (·.1) = false := by rfl) :
    PE X (.Call (.Name x p) (e :: es) [] pos) (tErr C sp dvs ta) := ⟨fun pins s σ H Q I h => by
  refine wpAny_Call_Name_kw (ld_glob I hg hm (PySem.W.callWith_K (h₀ := X.base) I.ok.mod.kin T.kC (thn (ha.run pos pins s σ H _ I h) fun us s1 h1 => ?_) he hpl) hdb)
  obtain ⟨vs, H1, I1, r1, hz, q1⟩ := h1
  exact ⟨I1.kIn, run_err T iC tI F1 hr hb hd hx I1 r1 hz q1⟩⟩
theorem pe_err0 (T : OexC X.K C) (iC : PySem.W.findIn X.K (.ref C) "__init__" = some (some (.ref fI))) (tI : PySem.W.typeIn X.K (.ref fI) = some (.type "function"))
    (F1 : FnOk X.prog X.w X.K X.mg X.base CX k fI fd ps sp) (hr : Room (k + 1) X.A) (hb : Binds X.K fd ps ds) (hd : Vals dvs ds) (hx : Passes CX X (fun _ _ _ => False)) (hg : Gl X x) (hm : X.mg x = some (.ref C))
    (hdb : (x == ("__debug__" : Str)) = false := by decide) : PE X (.Call (.Name x p) [] [] pos) (tErr C sp dvs tNil) := ⟨fun pins s σ H Q I h =>
  wpAny_Call_Name_kw (ld_glob I hg hm (PySem.W.callWith_K0 I.kIn T.kC (run_err (us := []) T iC tI F1 hr hb hd hx I .nil h.1 h.2)) hdb)⟩
/-- e.n of an error that was made -/
def tErrFld (K : PySem.W.Frag) (n : Str) (te : TE) : TE := fun σ H Q => te σ H fun x H1 => ∃ (a C d : Addr) (fs : List (Str × V)) (v : V), x = .ref a ∧ H1 a = some (exo a C (some d)) ∧ H1 d = some (exd d fs) ∧ XfC K C ∧ PySem.W.findIn K (.ref C) n = some none ∧ fs.lookup n = some v ∧ Q v H1
theorem err_inst {P : Program} {w : World} {H : Hp} {h : Heap} {a C : Addr} {d : Option Addr} (ok : HOk P w H h) (ea : H a = some (exo a C d)) (ed : ∀ dx, d = some dx → ∃ fs, H dx = some (exd dx fs)) : ∃ ox od, PySem.W.InstAt h a ox C od := by
  obtain ⟨t1, ho⟩ := exo_at ok ea
  cases d with
  | none => exact ⟨_, none, ho, rfl, rfl, trivial⟩
  | some dx =>
    obtain ⟨fs, e⟩ := ed dx rfl
    obtain ⟨mA, ⟨od, es, ep, hd, hr⟩, _⟩ := exd_at ok e
    exact ⟨_, some od, ho, rfl, rfl, hd⟩
theorem pe_errFld {te : TE} {n : Str} (he : PE X e te) (hb : attributeBase e n X.env (eval e X.env) = eval e X.env := by rfl) : PE X (.Attribute e n pos) (tErrFld X.K n te) := ⟨fun pins s σ H Q I h => by
  refine attr_of hb (thn (he.run pins s σ H _ I h) fun u s1 h1 => ?_)
  obtain ⟨x, H1, I1, rx, a, C, d, fs, v, rfl, ea, ed, T, hno, l, q⟩ := h1
  obtain rfl : u = Value.ref a := rx
  obtain ⟨t1, ho⟩ := exo_at I1.hok ea
  obtain ⟨mA, hns, hr⟩ := exd_at I1.hok ed
  obtain ⟨od, hod, hl⟩ := lookIn_ns hns
  obtain ⟨u, hu, ru⟩ := RelO.some_of (v := v) (o := mA n) (by rw [← l]; exact hr n)
  exact HandSPX.exc_get I1.kIn ⟨ho, rfl, rfl, hod⟩ T.ga T.gg T.exC (PySem.W.findObj_own T.hdC hno rfl (by rw [hl, hu])) (handed_of ru) ⟨v, H1, I1.tok _, ru, q⟩⟩
/-- what isinstance asks of the class of an error -/
structure ErrC (K : PySem.W.Frag) (C : Addr) : Prop where
  cls : (PySem.W.clsIn K C).isSome = true
  ga : PySem.W.findIn K (.ref C) "__getattribute__" = some (some (.builtin "BaseException.__getattribute__"))
  gg : PySem.W.findIn K (.ref C) "__getattr__" = some none
  sub : PySem.W.subIn K (.ref C) (.type "BaseException") = some true
  ca : PySem.W.findIn K (.ref C) "__class__" = some (some (.builtin "object.__class__"))
  cg : PySem.W.specialIn K (.builtin "object.__class__") "__get__" = some (some (.builtin "getset_descriptor.__get__"))
  ct : PySem.W.takesIn K (.builtin "object.__class__") = some true
  mo : PySem.W.mroIn K C (.type "object") = some true
def rErrIs (K : PySem.W.Frag) : List V → Hp → VK → Prop := fun xs H Q => ∃ (a C : Addr) (d : Option Addr) (c : V) (u : Value) (b : Bool), xs = [.ref a, c] ∧ H a = some (exo a C d) ∧ (∀ dx, d = some dx → ∃ fs, H dx = some (exd dx fs)) ∧ ErrC K C ∧ ClsV c u ∧ PySem.W.kitOne K (.ref C) u = some b ∧ Q (.bl b) H
theorem call_errIs : CallR X (.builtin "isinstance") (rErrIs X.K) := by
  intro pins s σ H xs us Q I r h
  obtain ⟨a, C, d, c, u, b, rfl, ea, ed, T, k, e, q⟩ := h
  obtain ⟨u1, u2, rfl, r1, r2⟩ := vals2 r
  obtain rfl : u1 = Value.ref a := r1
  obtain rfl := k.eq r2
  obtain ⟨ox, od, J⟩ := err_inst I.hok ea ed
  exact PySem.W.kia_one (PySem.W.kitx_exc T.cls T.ga T.gg T.sub T.ca T.cg T.ct T.mo) I.kIn J e (fun z => nomatch z) fun tk => ⟨.bl b, H, I.tok tk, rfl, q⟩
/-! two errors of one class without an __eq__ of its own are unequal unless they are one -/
theorem err_apart {prog : Program} {w : World} {A : Around} {E : Value → Shared → Prop} {s : Shared} {K : PySem.W.Frag} {a b D : Addr} {oa ob : Obj} {da db : Option Obj} {Q : Value → Shared → Prop} (hu : A.units < cLine) (hK : K.In s.heap) (I : PySem.W.InstAt s.heap a oa D da) (J : PySem.W.InstAt s.heap b ob D db)
    (mo : PySem.W.mroIn K D (.type "object") = some true) (eq : PySem.W.findIn K (.ref D) "__eq__" = some (some (.builtin "object.__eq__"))) (ne : a ≠ b) (h : Q (.bool false) s) : wpAny (model prog w) A (compareOp .Eq (.ref a) (.ref b)) Q E s := by
  have nt : ∀ {o : Obj} {c : Addr} {dd : Option Obj}, PySem.W.InstAt s.heap c o D dd → o.cls ≠ .type "tuple" := fun z e => by
    rw [z.2] at e
    cases e
  have half : ∀ {c c' : Addr} {o o' : Obj} {d d' : Option Obj}, PySem.W.InstAt s.heap c o D d → PySem.W.InstAt s.heap c' o' D d' → c ≠ c' → wpAny (model prog w) A (tryCompare (.ref c) "__eq__" (.ref c')) (fun r s' => r = none ∧ s' = s) E s := fun z z' n => by
    unfold tryCompare
    refine wpAny_bind (HN.ifBound_objEq hK z eq (wpAny_call (codeAny_call_builtin F.cmp_object.eq.plain F.cmpEntry_eq (PySem.W.check_slot F.cmpKind_eq F.cmpSplit_eq (z.type.andThen (PySem.W.looks_mroIn hK mo)) (F.cmpArgs_eq _ _) (objEq_entry_other n z.1 z'.1 (nt z) ?_)))))
    exact wpAny_pure ⟨rfl, rfl⟩
  show wpAny _ _ (richCompare .Eq _ _) _ _ _
  simp only [richCompare, cmpInfo_Eq, oneThing_ref]
  refine wpAny_holding (wpAny_bind (wpAny_cRoomFor hu ?_))
  refine wpAny_bind (I.type.here (wpAny_bind (J.type.here ?_)))
  rw [if_neg (by simp)]
  refine wpAny_bind (wpAny_pure ?_)
  simp only [Bool.false_eq_true, if_false, Bool.not_false, if_true]
  refine wpAny_bind (m := tryCompare (.ref a) _ (.ref b)) (wpAny_mono (half I J ne) (fun r s1 z => ?_) fun _ _ e => e)
  obtain ⟨rfl, rfl⟩ := z
  refine wpAny_bind (m := tryCompare (.ref b) _ (.ref a)) (wpAny_mono (half J I ne.symm) (fun r s2 z => ?_) fun _ _ e => e)
  obtain ⟨rfl, rfl⟩ := z
  exact wpAny_bind (wpAny_rule (wpAny_bind (wpAny_isSame_ref_other ne I.1 J.1 (nt I) (wpAny_pure h))))
def rErrEq (K : PySem.W.Frag) : R2 := fun x y H Q => ∃ (a b D : Addr) (d d' : Option Addr), x = .ref a ∧ y = .ref b ∧ a ≠ b ∧ H a = some (exo a D d) ∧ H b = some (exo b D d') ∧ (∀ dx, d = some dx → ∃ fs, H dx = some (exd dx fs)) ∧ (∀ dx, d' = some dx → ∃ fs, H dx = some (exd dx fs)) ∧
  PySem.W.mroIn K D (.type "object") = some true ∧ PySem.W.findIn K (.ref D) "__eq__" = some (some (.builtin "object.__eq__")) ∧ Q (.bl false) H
theorem op_errEq (hu : X.A.units < cLine) : OpR X (compareOp .Eq) (rErrEq X.K) := by
  intro pins s σ H x y v u Q I rx ry h
  obtain ⟨a, b, D, d, d', rfl, rfl, ne, ea, eb, ed, ed', mo, eq, q⟩ := h
  obtain rfl : v = Value.ref a := rx
  obtain rfl : u = Value.ref b := ry
  obtain ⟨oa, da, Ia⟩ := err_inst I.hok ea ed
  obtain ⟨ob, db, Ib⟩ := err_inst I.hok eb ed'
  exact err_apart hu I.kIn Ia Ib mo eq ne ⟨.bl false, H, I, rfl, q⟩
/-- C() of a class without an __init__ of its own -/
theorem pe_errB (T : OexC X.K C) (iC : PySem.W.findIn X.K (.ref C) "__init__" = some (some (.builtin "ValueError.__init__"))) (hg : Gl X x) (hm : X.mg x = some (.ref C)) (hdb : (x == ("__debug__" : Str)) = false := by decide) :
    PE X (.Call (.Name x p) [] [] pos) (fun σ H Q => ∀ a, H a = none → Q (.ref a) (upd H a (exo a C none))) := ⟨fun pins s σ H Q I h => by
  refine wpAny_Call_Name_kw (ld_glob I hg hm (PySem.W.callWith_K0 I.kIn T.kC ?_) hdb)
  obtain ⟨nm, q, N, bs, bm, sn, sub, ab, col, dd, k0, k1, k2, k3, k5, hC, hbm⟩ := T.cls
  obtain ⟨hp, g, dr, tk, os⟩ := s
  refine PySem.W.call_B F.excBase_ValueError (fun Y => PySem.HandSPX.refsVE_contains Y bm hbm) (I.kIn _ _ hC) (PySem.W.looks_findIn I.kIn iC) (Nat.zero_le _) fun h' k e1 e2 => ?_
  exact ⟨.ref (hp.objs.size + 1), _, Inv.laid (t' := tk) (o := exo (hp.objs.size + 1) C none) I k (Nat.le_succ _) (exo_ok e1), rfl, h _ (I.hok.fresh (Nat.le_succ _))⟩⟩
/-- C(k = v, ..): keywords alone -/
def tErrK (C : Addr) (m : Nat) (sp : Sp) (gV : List V → List V → List V) (tk : TA) : TE := fun σ H Q => tk σ H fun zs H1 => zs.length = m ∧ ∀ a, H1 a = none → sp (gV [.ref a] zs) (upd H1 a (exo a C none)) (fun v H2 => v = .non ∧ Q (.ref a) H2) (fun _ _ _ => False)
theorem pe_errK {ks : List Str} {kws : List Keyword} {tk : TA} {g : List Value → List Value → List Value} {gV : List V → List V → List V} (T : OexC X.K C) (iC : PySem.W.findIn X.K (.ref C) "__init__" = some (some (.ref fI))) (tI : PySem.W.typeIn X.K (.ref fI) = some (.type "function"))
    (F1 : FnOk X.prog X.w X.K X.mg X.base CX k fI fd ps sp) (hr : Room (k + 1) X.A) (hb : KBn X.K fd ps 1 ks g gV) (hx : Passes CX X (fun _ _ _ => False)) (hg : Gl X x) (hm : X.mg x = some (.ref C)) (hkw : PK X kws tk)
    (hall : (backToKw pos (keywordEach kws X.env)).all (·.1.isSome) = true := by rfl) (hks : (backToKw pos (keywordEach kws X.env)).filterMap (·.1) = ks := by rfl) (hdb : (x == ("__debug__" : Str)) = false := by decide)
    (hpl : ((backTo pos (starEach [] X.env)).any (·.1) || (backToKw pos (keywordEach kws X.env)).any (·.1.isNone)) = false := by rfl) :
    PE X (.Call (.Name x p) [] kws pos) (tErrK C ks.length sp gV tk) := ⟨fun pins s σ H Q I h => by
  refine wpAny_Call_Name_kw (ld_glob I hg hm (PySem.W.callWith_KW0 (h₀ := X.base) I.ok.mod.kin T.kC hall (thn (hkw.run pos pins s σ H _ I h) fun ws s1 h1 => ?_) hpl) hdb)
  obtain ⟨zs, H1, I1, rz, lz, q1⟩ := h1
  refine ⟨I1.kIn, ?_⟩
  rw [hks]
  obtain ⟨nm, q, N, bs, bm, sn, sub, ab, col, dd, k0, k1, k2, k3, k5, hC, hbm⟩ := T.cls
  obtain ⟨hp, gg, dr, tk, os⟩ := s1
  have room : hp.objs.size ≤ hp.objs.size + 1 := Nat.le_succ _
  have hq := q1 (hp.objs.size + 1) (I1.hok.fresh room)
  let h2 := (hp.push (PySem.W.kdv_tup [])).push (PySem.HandSPX.excO C hp.objs.size)
  have at2 : h2.get? (hp.objs.size + 1) = some (PySem.HandSPX.excO C hp.objs.size) := by heap_get
  have I2 : Inv X pins σ (upd H1 (hp.objs.size + 1) (exo (hp.objs.size + 1) C none)) ⟨h2, gg, dr, tk, os⟩ :=
    Inv.laid (t' := tk) (a := hp.objs.size + 1) (o := exo (hp.objs.size + 1) C none) (h' := h2) I1 (fun b o z => Heap.get?_push_of_some _ (Heap.get?_push_of_some _ z)) room (exo_ok at2)
  have r2 := hb.rel (vs := [V.ref (hp.objs.size + 1)]) (us := [Value.ref (hp.objs.size + 1)]) (.cons rfl .nil) rz
  have e2 : ws.length = ks.length := rz.length.symm.trans lz
  have run := F1.run _ X.stack _ _ ⟨[Value.ref (hp.objs.size + 1)], ks.zip ws⟩ _ _ _ (fun _ _ _ => False) (hr.make C [] (ks.zip ws)) (I2.env0.make C [] (ks.zip ws)) (hb.to _ [Value.ref (hp.objs.size + 1)] ws I2.kIn rfl e2) r2 hq
  show wpAny _ _ (call (.ref C) [] (ks.zip ws)) _ _ _
  refine wpAny_call (PySem.ErrKw.kw_call F.excBase_ValueError (fun Y => PySem.HandSPX.refsVE_contains Y bm hbm) (I1.kIn _ _ hC) (PySem.W.looks_findIn I1.kIn iC) (fun self => PySem.W.bind_fn I1.kIn self tI) (Nat.zero_le _) (codeAny_mono run fun r s' z => ?_))
  match r, z with
  | .error er, z => exact hx pins σ _ _ er s' I2 z
  | .ok (.ret u), z =>
    obtain ⟨v, H', I3, rv, ev, q3⟩ := I2.after z
    subst ev
    exact ⟨rv, V.ref (hp.objs.size + 1), H', I3, rfl, q3⟩
  | .ok .next, z => exact False.elim z
  | .ok .brk, z => exact False.elim z
  | .ok .cont, z => exact False.elim z⟩
end
end DQ

set_option Elab.async false
set_option linter.all false
set_option maxRecDepth 100000
set_option maxHeartbeats 1000000
namespace DQ
open PySem PySem.Spec PyProof.Rows L2
/-- the sorted facts -/
def sortF (fs : List Fact) : List Fact := fs.mergeSort (PySem.W.dataLe false Fact.d)
theorem sortF_len (fs : List Fact) : (sortF fs).length = fs.length := List.length_mergeSort _
theorem sort_map (zs : List (V × Fact)) : (zs.mergeSort (PySem.W.dataLe false fun z => z.2.d)).map (·.2) = sortF (zs.map (·.2)) :=
  List.map_mergeSort fun _ _ _ _ => rfl
def Fact.nums : Fact → List Int
  | .mark _ i => [i]
  | .link _ a b => [a, b]
theorem nil_read {σ : L2.St} {H : Hp} {Q : List V → Hp → Prop} (h : Q [] H) : tNil σ H Q := h
/-- len of a list or a tuple, its relation by name (for use inside a comprehension) -/
def rLenS (K : PySem.W.Frag) : List V → Hp → VK → Prop := fun xs H Q => ∃ p ys, xs = [V.ref p] ∧ (SqL K H p ys ∨ SqT K H p ys) ∧ Q (V.int (ys.length : Nat)) H
theorem stoAt_same {H H' : Hp} {v : V} {S : Store} (s : Same H H') (A : StoAt H v S) : StoAt H' v S := by
  obtain ⟨t, m, c, i, f, rs, e, h1, h2, h3, h4, h5, tp⟩ := A
  exact ⟨t, m, c, i, f, rs, e, s _ _ h1, s _ _ h2, s _ _ h3, s _ _ h4, s _ _ h5, tp.keep (tk_same s)⟩
theorem paired_mono {α β : Type} {R R' : α → β → Prop} (m : ∀ a b, R a b → R' a b) : ∀ {xs : List α} {ys : List β}, Paired R xs ys → Paired R' xs ys
  | _, _, .nil => .nil
  | _, _, .cons h t => .cons (m _ _ h) (paired_mono m t)
theorem paired_at {α β : Type} {R : α → β → Prop} : ∀ {xs : List α} {ys : List β}, Paired R xs ys → ∀ {i : Nat} {x : α}, xs[i]? = some x → ∃ y, ys[i]? = some y ∧ R x y
  | _, _, .nil, i, x, h => by simp at h
  | _, _, .cons r _, 0, x, h => by cases h; exact ⟨_, rfl, r⟩
  | _, _, .cons _ t, i + 1, x, h => paired_at t (by simpa using h)
/-- a comprehension whose items are told ahead -/
theorem lc_vals {J : It} {n : Nat} {G : Hp → Prop} {Y : Nat → Hp → V → Hp → Prop} (w : Walk J n G Y) {g : TG} {te : TE} {vs : List Nat} {σ : L2.St} {H1 : Hp} {D : Addr} {Qd : Hp → Prop} (bs : List V) (hn : bs.length = n) (few : n < sizeLine) (nD : H1 D = none)
    (hG : ∀ H, Same H1 H → G H) (hY : ∀ i H x H', Y i H x H' → Same H H')
    (hs : ∀ i x H H' b, i < n → bs[i]? = some b → Same H1 H → Y i H x H' → ∀ R : V → Hp → Prop, (∀ H4, Same H' H4 → R b H4) → g x (wipe σ vs) H' fun σ2 H2 => wipe σ2 vs = wipe σ vs ∧ te σ2 H2 R)
    (hd : ∀ H, Same H1 H → H D = some (.lst bs) → Qd H) (gm : ∀ x σ H (Q Q' : L2.St → Hp → Prop), (∀ σ H, Q σ H → Q' σ H) → g x σ H Q → g x σ H Q') :
    ∃ W : Nat → Nat → Hp → Prop, (∃ m, W 0 m (upd H1 D (.lst []))) ∧ ∀ i m H, W i m H →
      (J.stop i H ∧ Qd H) ∨ (J.go i H ∧ ∃ Nx : Hp → Prop, (∀ H', Nx H' → ∃ m', m' < m ∧ W (i + 1) m' H') ∧ ∀ x H', J.yld i H x H' → g x (wipe σ vs) H' fun σ2 H2 => wipe σ2 vs = wipe σ vs ∧ tYes σ2 H2 fun b H3 =>
        if b = true then te σ2 H3 fun y H4 => ∃ acc, H4 D = some (.lst acc) ∧ acc.length < sizeLine ∧ Nx (upd H4 D (.lst (acc ++ [y]))) else Nx H3) := by
  refine lc_it w (fun i H => H D = some (.lst (bs.take i)) ∧ Same H1 H) ⟨upd_same, same_new nD⟩ (fun i H _ p => hG H p.2) (fun i x H H' hi p y => ?_) fun H p => hd H p.2 (by rw [← hn, List.take_length] at p; exact p.1)
  obtain ⟨e, s⟩ := p
  have hb : bs[i]? = some bs[i] := List.getElem?_eq_getElem (by omega)
  refine (fun z => gm x _ _ _ _ (fun σ2 H2 z => ⟨z.1, z.2⟩) z) (hs i x H H' _ hi hb s y (fun y H4 => ∃ acc, H4 D = some (.lst acc) ∧ acc.length < sizeLine ∧ upd H4 D (.lst (acc ++ [y])) D = some (.lst (bs.take (i + 1))) ∧ Same H1 (upd H4 D (.lst (acc ++ [y])))) fun H4 s4 => ?_)
  have e4 := s4 _ _ (hY _ _ _ _ y _ _ e)
  refine ⟨_, e4, ?_, ?_, ?_⟩
  · rw [List.length_take]
    omega
  · rw [take_next hb]
    exact upd_same
  · exact same_upd ((s.trans (hY _ _ _ _ y)).trans s4) nD
/-- what a pair's turn asks, however it goes on -/
theorem gpair_mono {K : PySem.W.Frag} {i j : Nat} (v : V) (σ : L2.St) (H : Hp) (R R' : L2.St → Hp → Prop) (m : ∀ σ H, R σ H → R' σ H) (h : gTup K 2 (gCons (gName i) (gCons (gName j) gNil)) v σ H R) : gTup K 2 (gCons (gName i) (gCons (gName j) gNil)) v σ H R' := by
  obtain ⟨T, ys, e1, e2, e3, z1, r1, e4, z2, r2, e5, e6, h⟩ := h
  exact ⟨T, ys, e1, e2, e3, z1, r1, e4, z2, r2, e5, e6, m _ _ h⟩
def Fact.kind : Fact → Str
  | .mark _ _ => "mark"
  | .link _ _ _ => "link"
theorem fact_v (x : Fact) : x.v = .str x.kind :: .str x.word :: x.nums.map V.int := by cases x <;> rfl
theorem fact_cut (x : Fact) : cutV x.v none (some 2) = [.str x.kind, .str x.word] ∧ cutV x.v (some 2) none = x.nums.map V.int := by cases x <;> exact ⟨rfl, rfl⟩
theorem fact_len (x : Fact) : x.v.length = 3 ∨ x.v.length = 4 := by cases x <;> simp [Fact.v]
theorem nums_len (x : Fact) : x.nums.length ≤ 2 := by cases x <;> simp [Fact.nums]
theorem nums_in {S : Store} {x : Fact} (h : x.of S) : ∀ i ∈ x.nums, i ∈ S.items := fun i hi => by
  cases x with
  | mark m j => simp only [Fact.nums, List.mem_cons, List.not_mem_nil, or_false] at hi; rw [hi]; exact h.2
  | link c a b =>
    simp only [Fact.nums, List.mem_cons, List.not_mem_nil, or_false] at hi
    rcases hi with rfl | rfl
    · exact h.2.1
    · exact h.2.2
theorem pa_starK {X : Cx} {K : PySem.W.Frag} {e : Expr} {es : List Expr} {p : Pos} {te : TE} {t : TA} (hk : X.K = K) (he : PE X e te) (hr : PA X es t) (hs : starEach (.Starred e p :: es) X.env = (true, eval e X.env) :: starEach es X.env := by rfl) : PA X (.Starred e p :: es) (StX.tStar K te t) := by
  subst hk
  exact StX.pa_star he hr hs
theorem pi_tupK {X : Cx} {K : PySem.W.Frag} {tg l : Expr} {tl : TE} (hk : X.K = K) (h : PE X l tl) : PI X tg l (iTup K tl) := by
  subst hk
  exact pi_tup h
/-- a new store: neither it nor its parts were there -/
def NewSto (H H' : Hp) (v : V) (S : Store) : Prop := ∃ (a m c i f : Addr) (rs : List V), v = .ref a ∧ H' a = some (.tup [.str "store", .ref m, .ref c, .ref i, .ref f]) ∧ H' m = some (.lst (S.marks.map V.str)) ∧ H' c = some (.lst (S.columns.map V.str)) ∧ H' i = some (.lst (S.items.map V.int)) ∧ H' f = some (.lst rs) ∧ Tups H' rs (S.facts.map Fact.v) ∧
  H a = none ∧ H m = none ∧ H c = none ∧ H i = none ∧ H f = none ∧ m ≠ c ∧ m ≠ i ∧ m ≠ f ∧ c ≠ i ∧ c ≠ f ∧ i ≠ f
theorem NewSto.at {H H' : Hp} {v : V} {S : Store} (N : NewSto H H' v S) : StoAt H' v S := by
  obtain ⟨a, m, c, i, f, rs, e, h1, h2, h3, h4, h5, tp, _⟩ := N
  exact ⟨a, m, c, i, f, rs, e, h1, h2, h3, h4, h5, tp⟩
theorem NewSto.up {H H1 H' : Hp} {v : V} {S : Store} (s : Same H H1) (N : NewSto H1 H' v S) : NewSto H H' v S := by
  obtain ⟨a, m, c, i, f, rs, e, h1, h2, h3, h4, h5, tp, n1, n2, n3, n4, n5, ne⟩ := N
  exact ⟨a, m, c, i, f, rs, e, h1, h2, h3, h4, h5, tp, s.free n1, s.free n2, s.free n3, s.free n4, s.free n5, ne⟩
theorem keep_del {g : Addr} {H H' : Hp} (k : Keep g H H') : Same (del H g) (del H' g) := fun b o h => by
  by_cases e : b = g
  · rw [e] at h; simp [del] at h
  · rw [del_ne e] at h ⊢
    exact k b o e h
theorem keep_del2 {g D : Addr} {H H' : Hp} (k : ∀ b o, b ≠ g → b ≠ D → H b = some o → H' b = some o) : Same (del (del H g) D) (del (del H' g) D) := fun b o h => by
  by_cases e : b = D
  · rw [e] at h; simp [del] at h
  · rw [del_ne e] at h ⊢
    by_cases e2 : b = g
    · rw [e2] at h; simp [del] at h
    · rw [del_ne e2] at h ⊢
      exact k b o e2 e h
theorem del_le {D : Addr} {H : Hp} : Same (del H D) H := fun b o h => by
  by_cases e : b = D
  · rw [e] at h; simp [del] at h
  · rwa [del_ne e] at h
theorem paired_snoc {α β : Type} {R : α → β → Prop} {a : α} {b : β} (h : R a b) : ∀ {xs : List α} {ys : List β}, Paired R xs ys → Paired R (xs ++ [a]) (ys ++ [b])
  | _, _, .nil => .cons h .nil
  | _, _, .cons r t => .cons r (paired_snoc h t)
theorem small1000' {n : Nat} (h : n ≤ 1000) : n ≤ sizeLine := Nat.le_trans h (by decide)
theorem seq_new {K : PySem.W.Frag} {H H1 H2 : Hp} {a g : Addr} {xs : List V} (h : SqL K H a xs) (s : Same H H1) (n : H g = none) (k : Keep g H1 H2) : SqL K H2 a xs := by
  rcases h with (h | ⟨o, h⟩) | h
  · exact .inl (.inl (k _ _ (ne_of_none h n) (s _ _ h)))
  · exact .inl (.inr ⟨o, k _ _ (ne_of_none h n) (s _ _ h)⟩)
  · exact .inr h
theorem del_same' {g : Addr} {H : Hp} : del H g g = none := by simp [del]
end DQ

set_option Elab.async false
set_option linter.all false
set_option maxRecDepth 100000
set_option maxHeartbeats 1000000
namespace DQ
open PySem PySem.Spec PyProof.Rows L2
/-! ### data of whole numbers and tuples, of one shape -/
inductive Shp where
  | int
  | row (s : Shp)
  | two (a b : Shp)
  | three (a b c : Shp)
def Like : Shp → PyData → Prop
  | .int, d => ∃ n, d = .int n
  | .row s, d => ∃ ds, d = .tuple ds ∧ ∀ e ∈ ds, Like s e
  | .two a b, d => ∃ x y, d = .tuple [x, y] ∧ Like a x ∧ Like b y
  | .three a b c, d => ∃ x y z, d = .tuple [x, y, z] ∧ Like a x ∧ Like b y ∧ Like c z
def Shp.dep : Shp → Nat
  | .int => 0
  | .row s => s.dep + 1
  | .two a b => max a.dep b.dep + 1
  | .three a b c => max a.dep (max b.dep c.dep) + 1
theorem alike_all {s : Shp} (h : ∀ d e, Like s d → Like s e → PySem.W.alike d e = true) : ∀ xs ys : List PyData, (∀ e ∈ xs, Like s e) → (∀ e ∈ ys, Like s e) → PySem.W.alikeAll xs ys = true
  | [], _, _, _ => by simp only [PySem.W.alikeAll]
  | _ :: _, [], _, _ => by simp only [PySem.W.alikeAll]
  | x :: xs, y :: ys, hx, hy => by
    simp only [PySem.W.alikeAll, Bool.and_eq_true]
    exact ⟨h x y (hx x (List.mem_cons_self ..)) (hy y (List.mem_cons_self ..)), alike_all h xs ys (fun e he => hx e (List.mem_cons_of_mem _ he)) fun e he => hy e (List.mem_cons_of_mem _ he)⟩
theorem like_alike : ∀ (s : Shp) (d e : PyData), Like s d → Like s e → PySem.W.alike d e = true
  | .int, _, _, ⟨n, hd⟩, ⟨m, he⟩ => by rw [hd, he]; simp only [PySem.W.alike]
  | .row s, _, _, ⟨ds, hd, h1⟩, ⟨es, he, h2⟩ => by
    rw [hd, he]
    simp only [PySem.W.alike]
    exact alike_all (like_alike s) ds es h1 h2
  | .two a b, _, _, ⟨x, y, hd, h1, h2⟩, ⟨x', y', he, k1, k2⟩ => by
    rw [hd, he]
    simp only [PySem.W.alike, PySem.W.alikeAll, like_alike a _ _ h1 k1, like_alike b _ _ h2 k2, Bool.and_self]
  | .three a b c, _, _, ⟨x, y, z, hd, h1, h2, h3⟩, ⟨x', y', z', he, k1, k2, k3⟩ => by
    rw [hd, he]
    simp only [PySem.W.alike, PySem.W.alikeAll, like_alike a _ _ h1 k1, like_alike b _ _ h2 k2, like_alike c _ _ h3 k3, Bool.and_self]
theorem eqv_all {s : Shp} (h : ∀ d e, Like s d → Like s e → PyData.eqv d e = true → d = e) : ∀ xs ys : List PyData, (∀ e ∈ xs, Like s e) → (∀ e ∈ ys, Like s e) → PyData.eqvAll xs ys = true → xs = ys
  | [], [], _, _, _ => rfl
  | [], _ :: _, _, _, q => by simp [PyData.eqvAll] at q
  | _ :: _, [], _, _, q => by simp [PyData.eqvAll] at q
  | x :: xs, y :: ys, hx, hy, q => by
    rw [PySem.W.eqv_all_cons, Bool.and_eq_true] at q
    rw [h x y (hx x (List.mem_cons_self ..)) (hy y (List.mem_cons_self ..)) q.1, eqv_all h xs ys (fun e he => hx e (List.mem_cons_of_mem _ he)) (fun e he => hy e (List.mem_cons_of_mem _ he)) q.2]
theorem like_eqv : ∀ (s : Shp) (d e : PyData), Like s d → Like s e → PyData.eqv d e = true → d = e
  | .int, _, _, ⟨n, hd⟩, ⟨m, he⟩, q => by
    rw [hd, he] at q ⊢
    have : n = m := by simpa [PyData.eqv] using q
    rw [this]
  | .row s, _, _, ⟨ds, hd, h1⟩, ⟨es, he, h2⟩, q => by
    rw [hd, he] at q ⊢
    simp only [PyData.eqv] at q
    rw [eqv_all (like_eqv s) ds es h1 h2 q]
  | .two a b, _, _, ⟨x, y, hd, h1, h2⟩, ⟨x', y', he, k1, k2⟩, q => by
    rw [hd, he] at q ⊢
    simp only [PyData.eqv, PySem.W.eqv_all_cons, Bool.and_eq_true] at q
    rw [like_eqv a _ _ h1 k1 q.1, like_eqv b _ _ h2 k2 q.2.1]
  | .three a b c, _, _, ⟨x, y, z, hd, h1, h2, h3⟩, ⟨x', y', z', he, k1, k2, k3⟩, q => by
    rw [hd, he] at q ⊢
    simp only [PyData.eqv, PySem.W.eqv_all_cons, Bool.and_eq_true] at q
    rw [like_eqv a _ _ h1 k1 q.1, like_eqv b _ _ h2 k2 q.2.1, like_eqv c _ _ h3 k3 q.2.2.1]
theorem lay_all {n : Nat} : ∀ xs : List PyData, (∀ e ∈ xs, e.canLay0 = true ∧ e.depth ≤ n) → PyData.canLayAll0 xs = true ∧ PyData.depthAll xs ≤ n
  | [], _ => ⟨rfl, Nat.zero_le _⟩
  | x :: xs, h => by
    obtain ⟨a, b⟩ := lay_all xs fun e he => h e (List.mem_cons_of_mem _ he)
    obtain ⟨c, d⟩ := h x (List.mem_cons_self ..)
    simp only [PyData.canLayAll0, PyData.depthAll, a, c, Bool.and_self, true_and]
    exact Nat.max_le.mpr ⟨d, b⟩
theorem like_lay : ∀ (s : Shp) (d : PyData), Like s d → d.canLay0 = true ∧ d.depth ≤ s.dep
  | .int, _, ⟨n, hd⟩ => by rw [hd]; exact ⟨rfl, Nat.le_refl _⟩
  | .row s, _, ⟨ds, hd, h⟩ => by
    obtain ⟨a, b⟩ := lay_all ds fun e he => like_lay s e (h e he)
    rw [hd]
    simp only [PyData.canLay0, PyData.depth, Shp.dep]
    exact ⟨a, by omega⟩
  | .two a b, _, ⟨x, y, hd, h1, h2⟩ => by
    obtain ⟨p1, q1⟩ := like_lay a x h1
    obtain ⟨p2, q2⟩ := like_lay b y h2
    rw [hd]
    simp only [PyData.canLay0, PyData.canLayAll0, PyData.depth, PyData.depthAll, Shp.dep, p1, p2, Bool.and_self, true_and]
    omega
  | .three a b c, _, ⟨x, y, z, hd, h1, h2, h3⟩ => by
    obtain ⟨p1, q1⟩ := like_lay a x h1
    obtain ⟨p2, q2⟩ := like_lay b y h2
    obtain ⟨p3, q3⟩ := like_lay c z h3
    rw [hd]
    simp only [PyData.canLay0, PyData.canLayAll0, PyData.depth, PyData.depthAll, Shp.dep, p1, p2, p3, Bool.and_self, true_and]
    omega
theorem like_shaped {s : Shp} {d : PyData} (h : Like s d) (hs : s.dep ≤ 64) : SeqAt.shaped d = true := by
  obtain ⟨a, b⟩ := like_lay s d h
  show (PyData.canLay0 d && decide (PyData.depth d ≤ 64)) = true
  rw [a, decide_eq_true (Nat.le_trans b hs)]
  rfl
theorem like_refl {s : Shp} {d : PyData} (h : Like s d) (hs : s.dep ≤ 64) : PyData.eqv d d = true := SeqAt.eqv_refl d (SeqAt.canLay_of_shaped (like_shaped h hs))
/-! the order of such data -/
theorem toks_same {s : Shp} {d e : PyData} (h1 : Like s d) (h2 : Like s e) (h : PySem.W.keyToks d = PySem.W.keyToks e) : d = e := by
  refine like_eqv s d e h1 h2 ?_
  cases q : PyData.eqv d e with
  | true => rfl
  | false =>
    have z := (PySem.W.toks_eqv d e (like_alike s d e h1 h2)).2 q [.inl 0] [.inl 1]
    rw [h, PySem.W.lex_pre, lex_irrefl] at z
    exact absurd z (by decide)
def sortD (ds : List PyData) : List PyData := ds.mergeSort (PySem.W.dataLe false id)
theorem sortD_perm (ds : List PyData) : (sortD ds).Perm ds := List.mergeSort_perm _ _
theorem sorted_one {s : Shp} {l m : List PyData} (p : l.Perm m) (hm : ∀ d ∈ m, Like s d) (h1 : l.Pairwise fun a b => PySem.W.dataLt b a = false) (h2 : m.Pairwise fun a b => PySem.W.dataLt b a = false) : l = m :=
  List.Perm.eq_of_pairwise (le := fun a b : PyData => PySem.W.dataLt b a = false) (fun a b ha hb q1 q2 => toks_same (hm a (p.mem_iff.mp ha)) (hm b hb) (lex_total _ _ q2 q1)) h1 h2 p
theorem sortD_pw (ds : List PyData) : (sortD ds).Pairwise fun a b => PySem.W.dataLt b a = false :=
  (PySem.W.sort_pairwise (PySem.W.sortLe_total (listOrd itemOrd) false fun z : PyData => PySem.W.keyToks z) ds).imp fun {a b} h => by
    have z : (!PySem.W.dataLt b a) = true := h
    simpa using z
theorem sortD_same {s : Shp} {l m : List PyData} (p : l.Perm m) (hm : ∀ d ∈ m, Like s d) : sortD l = sortD m :=
  sorted_one ((sortD_perm l).trans (p.trans (sortD_perm m).symm)) (fun d hd => hm d ((sortD_perm m).mem_iff.mp hd)) (sortD_pw l) (sortD_pw m)
/-- what sorted leaves of values with their data -/
theorem sort_snd {s : Shp} {zs : List (V × PyData)} (h : ∀ z ∈ zs, Like s z.2) : (zs.mergeSort (PySem.W.dataLe false fun z => z.2)).map (·.2) = sortD (zs.map (·.2)) := by
  have pz := List.mergeSort_perm zs (PySem.W.dataLe false fun z => z.2)
  refine sorted_one (s := s) ((pz.map (·.2)).trans (sortD_perm _).symm) (fun d hd => ?_) ?_ (sortD_pw _)
  · obtain ⟨z, hz, rfl⟩ := List.mem_map.mp ((sortD_perm _).mem_iff.mp hd)
    exact h z hz
  · refine List.pairwise_map.mpr ?_
    refine (PySem.W.sort_pairwise (PySem.W.sortLe_total (listOrd itemOrd) false fun z : V × PyData => PySem.W.keyToks z.2) zs).imp fun {a b} h => ?_
    have z : (!PySem.W.dataLt b.2 a.2) = true := h
    simpa using z
end DQ

set_option Elab.async false
set_option linter.all false
set_option maxRecDepth 100000
set_option maxHeartbeats 1000000
namespace DQ
open PySem PySem.Spec PyProof.Rows L2
/-! ### kinds, as data -/
structure Tab where
  items : List Int
  bits : Int → List Int
  ends : Int → List Int
def rowI (ns : List Int) : PyData := .tuple (ns.map PyData.int)
def placesI (row : List Int) (e : Int) : List Int := ((List.range row.length).filter fun k => decide (row[k]? = some e)).map fun k : Nat => (k : Int)
def firstI (row : List Int) (i : Int) : Int := ((row.idxOf i : Nat) : Int)
def Tab.fwd (T : Tab) (c : Nat) (i : Int) : Int := ((T.ends i)[2 * c]?).getD (-1)
def atomsD (T : Tab) (cols : Nat) (row : List Int) : PyData := .tuple [rowI (row.map (firstI row)), .tuple (row.map fun i => rowI (T.bits i)), .tuple ((List.range cols).map fun c => .tuple (row.map fun i => rowI (placesI row (T.fwd c i))))]
def keepAt (ds : List PyData) (k : Nat) : Bool := decide (k = 0) || !(PyData.eqv ((ds[k]?).getD .none) ((ds[k - 1]?).getD .none))
def unlikes (ds : List PyData) : List PyData := (List.range ds.length).filterMap fun k => if keepAt ds k then ds[k]? else none
def kindD (T : Tab) (cols : Nat) : Nat → List Int → PyData
  | 0, row => .tuple [atomsD T cols row, .tuple []]
  | n + 1, row => .tuple [atomsD T cols row, .tuple (unlikes (sortD (T.items.map fun i => kindD T cols n (row ++ [i]))))]
def atomsS : Shp := .three (.row .int) (.row (.row .int)) (.row (.row (.row .int)))
def kindS : Nat → Shp
  | 0 => .two atomsS (.row .int)
  | n + 1 => .two atomsS (.row (kindS n))
theorem like_rowI (ns : List Int) : Like (.row .int) (rowI ns) := ⟨_, rfl, fun e he => by
  obtain ⟨n, _, rfl⟩ := List.mem_map.mp he
  exact ⟨n, rfl⟩⟩
theorem like_map {s : Shp} {α : Type} (l : List α) {f : α → PyData} (h : ∀ x ∈ l, Like s (f x)) : Like (.row s) (.tuple (l.map f)) := ⟨_, rfl, fun e he => by
  obtain ⟨n, hn, rfl⟩ := List.mem_map.mp he
  exact h n hn⟩
theorem like_atoms (T : Tab) (cols : Nat) (row : List Int) : Like atomsS (atomsD T cols row) :=
  ⟨_, _, _, rfl, like_rowI _, like_map row fun i _ => like_rowI _, like_map _ fun c _ => like_map row fun i _ => like_rowI _⟩
theorem unlikes_mem {ds : List PyData} {d : PyData} (h : d ∈ unlikes ds) : d ∈ ds := by
  obtain ⟨k, _, hk⟩ := List.mem_filterMap.mp h
  split at hk
  · exact List.mem_of_getElem? hk
  · cases hk
theorem like_kind (T : Tab) (cols : Nat) : ∀ (n : Nat) (row : List Int), Like (kindS n) (kindD T cols n row)
  | 0, row => ⟨_, _, rfl, like_atoms T cols row, [], rfl, fun e he => by cases he⟩
  | n + 1, row => ⟨_, _, rfl, like_atoms T cols row, _, rfl, fun e he => by
    have h := (sortD_perm _).mem_iff.mp (unlikes_mem he)
    obtain ⟨i, _, rfl⟩ := List.mem_map.mp h
    exact like_kind T cols n _⟩
theorem dep_atoms : atomsS.dep = 4 := rfl
theorem dep_kind : ∀ n, (kindS n).dep ≤ 2 * n + 5
  | 0 => by decide
  | n + 1 => by
    have := dep_kind n
    show max atomsS.dep ((kindS n).dep + 1) + 1 ≤ _
    rw [dep_atoms]
    omega
/-! renamed -/
def hat (f : Int → Int) (e : Int) : Int := if e = -1 then -1 else f e
structure Renames (f : Int → Int) (T T' : Tab) : Prop where
  perm : T'.items.Perm (T.items.map f)
  inj : ∀ x ∈ T.items, ∀ y ∈ T.items, f x = f y → x = y
  pos : ∀ x ∈ T.items, f x ≠ -1
  neg : (-1 : Int) ∉ T.items
  bits : ∀ x ∈ T.items, T'.bits (f x) = T.bits x
  ends : ∀ x ∈ T.items, T'.ends (f x) = (T.ends x).map (hat f)
  endsIn : ∀ x ∈ T.items, ∀ e ∈ T.ends x, e = -1 ∨ e ∈ T.items
section
variable {f : Int → Int} {T T' : Tab}
theorem idx_map {xs : List Int} (inj : ∀ x ∈ xs, ∀ y ∈ xs, f x = f y → x = y) {i : Int} (hi : i ∈ xs) : ∀ {row : List Int}, (∀ x ∈ row, x ∈ xs) → (row.map f).idxOf (f i) = row.idxOf i
  | [], _ => rfl
  | x :: r, h => by
    have ih := idx_map inj hi (row := r) fun y hy => h y (List.mem_cons_of_mem _ hy)
    rw [List.map_cons, List.idxOf_cons, List.idxOf_cons, ih]
    by_cases e : x = i
    · rw [e]
      simp
    · have ne : ¬ f x = f i := fun q => e (inj x (h x (List.mem_cons_self ..)) i hi q)
      rw [beq_false_of_ne e, beq_false_of_ne ne]
theorem Renames.fwd (R : Renames f T T') {c : Nat} {x : Int} (hx : x ∈ T.items) : T'.fwd c (f x) = hat f (T.fwd c x) := by
  unfold Tab.fwd
  rw [R.ends x hx, List.getElem?_map]
  cases (T.ends x)[2 * c]? with
  | none => rfl
  | some e => rfl
theorem Renames.fwdIn (R : Renames f T T') {c : Nat} {x : Int} (hx : x ∈ T.items) : T.fwd c x = -1 ∨ T.fwd c x ∈ T.items := by
  unfold Tab.fwd
  cases e : (T.ends x)[2 * c]? with
  | none => exact .inl rfl
  | some y => exact R.endsIn x hx y (List.mem_of_getElem? e)
theorem Renames.places (R : Renames f T T') {row : List Int} (h : ∀ x ∈ row, x ∈ T.items) {e : Int} (he : e = -1 ∨ e ∈ T.items) : placesI (row.map f) (hat f e) = placesI row e := by
  unfold placesI
  rw [List.length_map]
  refine congrArg (List.map _) (List.filter_congr fun k hk => ?_)
  rw [List.getElem?_map]
  have hk := List.mem_range.mp hk
  rw [List.getElem?_eq_getElem hk]
  have hm := h _ (List.getElem_mem hk)
  refine decide_eq_decide.mpr ⟨fun q => ?_, fun q => ?_⟩
  · injection q with q
    rcases he with rfl | he
    · exact absurd q (R.pos _ hm)
    · have ne : e ≠ -1 := fun z => R.neg (by rw [← z]; exact he)
      unfold hat at q
      rw [if_neg ne] at q
      rw [R.inj _ hm _ he q]
  · injection q with q
    rcases he with rfl | he
    · exact absurd (by rw [← q]; exact hm) R.neg
    · have ne : e ≠ -1 := fun z => R.neg (by rw [← z]; exact he)
      unfold hat
      rw [if_neg ne, q]
      rfl
theorem Renames.atoms (R : Renames f T T') (cols : Nat) {row : List Int} (h : ∀ x ∈ row, x ∈ T.items) : atomsD T' cols (row.map f) = atomsD T cols row := by
  have e1 : (row.map f).map (firstI (row.map f)) = row.map (firstI row) := by
    rw [List.map_map]
    refine List.map_congr_left fun i hi => ?_
    show (((row.map f).idxOf (f i) : Nat) : Int) = ((row.idxOf i : Nat) : Int)
    rw [idx_map R.inj (h i hi) h]
  have e2 : (row.map f).map (fun i => rowI (T'.bits i)) = row.map fun i => rowI (T.bits i) := by
    rw [List.map_map]
    refine List.map_congr_left fun i hi => ?_
    show rowI (T'.bits (f i)) = rowI (T.bits i)
    rw [R.bits i (h i hi)]
  have e3 : ∀ c : Nat, (row.map f).map (fun i => rowI (placesI (row.map f) (T'.fwd c i))) = row.map fun i => rowI (placesI row (T.fwd c i)) := fun c => by
    rw [List.map_map]
    refine List.map_congr_left fun i hi => ?_
    show rowI (placesI (row.map f) (T'.fwd c (f i))) = rowI (placesI row (T.fwd c i))
    rw [R.fwd (h i hi), R.places h (R.fwdIn (h i hi))]
  unfold atomsD
  rw [e1, e2]
  simp only [e3]
theorem Renames.kind (R : Renames f T T') (cols : Nat) : ∀ (n : Nat) {row : List Int}, (∀ x ∈ row, x ∈ T.items) → kindD T' cols n (row.map f) = kindD T cols n row
  | 0, row, h => by
    simp only [kindD]
    rw [R.atoms cols h]
  | n + 1, row, h => by
    simp only [kindD]
    rw [R.atoms cols h]
    have e : sortD (T'.items.map fun i => kindD T' cols n (row.map f ++ [i])) = sortD (T.items.map fun i => kindD T cols n (row ++ [i])) := by
      have p := R.perm.map fun i => kindD T' cols n (row.map f ++ [i])
      rw [List.map_map] at p
      have q : (T.items.map ((fun i => kindD T' cols n (row.map f ++ [i])) ∘ f)) = T.items.map fun i => kindD T cols n (row ++ [i]) := List.map_congr_left fun i hi => by
        show kindD T' cols n (row.map f ++ [f i]) = _
        have z := R.kind cols n (row := row ++ [i]) fun x hx => by
          rcases List.mem_append.mp hx with hx | hx
          · exact h x hx
          · rw [List.mem_singleton.mp hx]; exact hi
        rw [List.map_append] at z
        exact z
      rw [q] at p
      exact sortD_same (s := kindS n) p fun d hd => by
        obtain ⟨i, _, rfl⟩ := List.mem_map.mp hd
        exact like_kind T cols n _
    rw [e]
end
/-! kinds part where atoms part -/
theorem kind_parts {T T' : Tab} {cols cols' : Nat} : ∀ {n : Nat} {row row' : List Int}, atomsD T cols row ≠ atomsD T' cols' row' → kindD T cols n row ≠ kindD T' cols' n row'
  | 0, _, _, h, e => by
    simp only [kindD, PyData.tuple.injEq, List.cons.injEq] at e
    exact h e.1
  | _ + 1, _, _, h, e => by
    simp only [kindD, PyData.tuple.injEq, List.cons.injEq] at e
    exact h e.1
end DQ

set_option Elab.async false
set_option linter.all false
set_option maxRecDepth 100000
set_option maxHeartbeats 1000000
namespace DQ
open PySem PySem.Spec PyProof.Rows L2
/-! ### edits -/
/-- two facts are one or not -/
def sameFact : (x y : Fact) → Decidable (x = y)
  | .mark m i, .mark n j => decidable_of_iff (m = n ∧ i = j) ⟨fun h => by rw [h.1, h.2], fun h => by injection h with a b; exact ⟨a, b⟩⟩
  | .link c a b, .link d e f => decidable_of_iff (c = d ∧ a = e ∧ b = f) ⟨fun h => by rw [h.1, h.2.1, h.2.2], fun h => by injection h with p q r; exact ⟨p, q, r⟩⟩
  | .mark _ _, .link _ _ _ => .isFalse fun h => by cases h
  | .link _ _ _, .mark _ _ => .isFalse fun h => by cases h
instance : DecidableEq Fact := sameFact
inductive Edit where
  | put (x : Fact)
  | take (x : Fact)
  | add (i : Int)
  | drop (i : Int)
def Edit.word : Edit → Str
  | .put _ => "put"
  | .take _ => "take"
  | .add _ => "add"
  | .drop _ => "drop"
def Edit.back : Edit → Edit
  | .put x => .take x
  | .take x => .put x
  | .add i => .drop i
  | .drop i => .add i
def sortI (ns : List Int) : List Int := ns.mergeSort fun a b => decide (a ≤ b)
def ofB (S : Store) : Fact → Bool
  | .mark m i => decide (m ∈ S.marks) && decide (i ∈ S.items)
  | .link c a b => decide (c ∈ S.columns) && (decide (a ∈ S.items) && decide (b ∈ S.items))
def leads (x y : Fact) : Bool := match x, y with
  | .link c a b, .link c' a' b' => decide (c' = c) && (decide (a' = a) || decide (b' = b))
  | _, _ => false
def ledB (fs : List Fact) (x : Fact) : Bool := fs.any fun y => leads x y
def hasI (fs : List Fact) (i : Int) : Bool := fs.any fun y => decide (i ∈ y.nums)
/-- the store behind an edit, if it can be made -/
def step (S : Store) : Edit → Option Store
  | .put x => if (ofB S x && !decide (x ∈ S.facts) && !ledB S.facts x) = true then some { S with facts := sortF (S.facts ++ [x]) } else none
  | .take x => if x ∈ S.facts then some { S with facts := S.facts.filter fun y => decide (y ≠ x) } else none
  | .add i => if i ∈ S.items then none else some { S with items := sortI (S.items ++ [i]) }
  | .drop i => if (decide (i ∈ S.items) && !hasI S.facts i) = true then some { S with items := S.items.filter fun y => decide (y ≠ i) } else none
theorem ofB_iff {S : Store} {x : Fact} : ofB S x = true ↔ x.of S := by
  cases x <;> simp [ofB, Fact.of]
/-! sorted lists -/
theorem dlt_asym {x y : PyData} (h : PySem.W.dataLt x y = true) : PySem.W.dataLt y x = false := by
  cases q : PySem.W.dataLt y x with
  | false => rfl
  | true => exact absurd (lex_trans _ _ _ h q) (by rw [lex_irrefl]; decide)
theorem rise_eq {l m : List Fact} (p : l.Perm m) (hl : l.Pairwise fun x y => PySem.W.dataLt x.d y.d = true) (hm : m.Pairwise fun x y => PySem.W.dataLt x.d y.d = true) : l = m :=
  List.Perm.eq_of_pairwise (le := fun x y : Fact => PySem.W.dataLt x.d y.d = true) (fun a b _ _ h1 h2 => absurd h2 (by rw [dlt_asym h1]; decide)) hl hm p
theorem rise_nodup {l : List Fact} (hl : l.Pairwise fun x y => PySem.W.dataLt x.d y.d = true) : l.Nodup := hl.imp fun {a b} h e => by
  rw [e] at h
  exact absurd h (by rw [dlt_asym h]; decide)
theorem sortF_perm (fs : List Fact) : (sortF fs).Perm fs := List.mergeSort_perm _ _
theorem sortF_rise {fs : List Fact} (nd : fs.Nodup) : (sortF fs).Pairwise fun x y => PySem.W.dataLt x.d y.d = true := by
  have e : ((fs.map fun f => (V.non, f)).map (·.2)) = fs := by rw [List.map_map]; exact List.map_id _
  have z := sorted_rise (zs := fs.map fun f => (V.non, f)) (by rw [e]; exact nd)
  rwa [sort_map, e] at z
theorem sortF_id {fs : List Fact} (h : fs.Pairwise fun x y => PySem.W.dataLt x.d y.d = true) : sortF fs = fs := rise_eq (sortF_perm fs) (sortF_rise (rise_nodup h)) h
theorem sortI_perm (ns : List Int) : (sortI ns).Perm ns := List.mergeSort_perm _ _
theorem sortI_le (ns : List Int) : (sortI ns).Pairwise (· ≤ ·) :=
  (List.pairwise_mergeSort (le := fun a b : Int => decide (a ≤ b)) (fun a b c h1 h2 => decide_eq_true (Int.le_trans (of_decide_eq_true h1) (of_decide_eq_true h2))) (fun a b => by
    rcases Int.le_total a b with h | h
    · rw [decide_eq_true h]; rfl
    · rw [decide_eq_true h, Bool.or_true]) ns).imp fun h => of_decide_eq_true h
theorem sortI_of {ns ms : List Int} (p : ms.Perm ns) (h : ms.Pairwise (· ≤ ·)) : ms = sortI ns :=
  List.Perm.eq_of_pairwise (le := fun x y : Int => x ≤ y) (fun _ _ _ _ h1 h2 => Int.le_antisymm h1 h2) h (sortI_le ns) (p.trans (sortI_perm ns).symm)
theorem sortI_id {ns : List Int} (h : ns.Pairwise (· < ·)) : sortI ns = ns := (sortI_of (List.Perm.refl _) (h.imp fun h => Int.le_of_lt h)).symm
theorem sortI_lt {ns : List Int} (nd : ns.Nodup) : (sortI ns).Pairwise (· < ·) :=
  (List.pairwise_and_iff.mpr ⟨sortI_le ns, (sortI_perm ns).nodup_iff.mpr nd⟩).imp fun {a b} h => by have h1 := h.1; have h2 := h.2; omega
theorem lt_eq {l m : List Int} (p : l.Perm m) (hl : l.Pairwise (· < ·)) (hm : m.Pairwise (· < ·)) : l = m :=
  List.Perm.eq_of_pairwise (le := fun x y : Int => x < y) (fun a b _ _ h1 h2 => absurd h2 (by omega)) hl hm p
/-! few facts -/
def Fact.key : Fact → Str × Int
  | .mark m i => (m, i)
  | .link c a _ => (c, a)
theorem no_both {m : Nat} {S : Store} (D : Drawn m S) {x : Str} (h1 : x ∈ S.marks) (h2 : x ∈ S.columns) : False := by
  obtain ⟨k, _, ek⟩ := D.marks
  obtain ⟨j, _, _, ej⟩ := D.columns
  rw [ek] at h1
  rw [ej] at h2
  have h1 := List.mem_of_mem_take h1
  have h2 := List.mem_of_mem_take h2
  simp only [List.mem_cons, List.not_mem_nil, or_false] at h1 h2
  rcases h1 with rfl | rfl | rfl <;> rcases h2 with h | h <;> revert h <;> decide +kernel
/-- a drawn store, whatever its number of facts -/
structure Drawn0 (m : Nat) (S : Store) : Prop where
  marks : ∃ k, k ≤ 3 ∧ S.marks = (["red", "blue", "gold"] : List Str).take k
  columns : ∃ k, 1 ≤ k ∧ k ≤ 2 ∧ S.columns = (["next", "below"] : List Str).take k
  items : Rising S.items
  few : S.items.length ≤ m
  rise : S.facts.Pairwise fun x y => PySem.W.dataLt x.d y.d = true
  facts : ∀ x ∈ S.facts, x.of S
  links : ∀ c, OneToOne S.items (linksOf c S.facts)
theorem no_both0 {m : Nat} {S : Store} (D : Drawn0 m S) {x : Str} (h1 : x ∈ S.marks) (h2 : x ∈ S.columns) : False := by
  obtain ⟨k, _, ek⟩ := D.marks
  obtain ⟨j, _, _, ej⟩ := D.columns
  rw [ek] at h1
  rw [ej] at h2
  have h1 := List.mem_of_mem_take h1
  have h2 := List.mem_of_mem_take h2
  simp only [List.mem_cons, List.not_mem_nil, or_false] at h1 h2
  rcases h1 with rfl | rfl | rfl <;> rcases h2 with h | h <;> revert h <;> decide +kernel
theorem Drawn0.fewFacts {m : Nat} {S : Store} (D : Drawn0 m S) : S.facts.length ≤ 5 * m := by
  have lm : S.marks.length ≤ 3 := by
    obtain ⟨k, _, ek⟩ := D.marks
    rw [ek, List.length_take]
    exact Nat.min_le_right _ _
  have lc : S.columns.length ≤ 2 := by
    obtain ⟨k, _, _, ek⟩ := D.columns
    rw [ek, List.length_take]
    exact Nat.min_le_right _ _
  have nd : (S.facts.map Fact.key).Nodup := by
    refine List.pairwise_map.mpr ((List.pairwise_and_iff.mpr ⟨rise_nodup D.rise, List.pairwise_of_forall_mem_list fun a ha b hb => (⟨ha, hb⟩ : a ∈ S.facts ∧ b ∈ S.facts)⟩).imp fun {x y} h e => ?_)
    obtain ⟨ne, hx, hy⟩ := h
    have ox := D.facts x hx
    have oy := D.facts y hy
    cases x with
    | mark p i =>
      cases y with
      | mark q j =>
        injection e with e1 e2
        exact ne (by rw [e1, e2])
      | link c a b =>
        injection e with e1 e2
        rw [← e1] at oy
        exact no_both0 D ox.1 oy.1
    | link c a b =>
      cases y with
      | mark q j =>
        injection e with e1 e2
        rw [e1] at ox
        exact no_both0 D oy.1 ox.1
      | link c' a' b' =>
        injection e with e1 e2
        subst e1 e2
        exact ne (by rw [one_place (D.links c).1 (mem_links hx) (mem_links hy)])
  have sub : ∀ k ∈ S.facts.map Fact.key, k ∈ (S.marks ++ S.columns).flatMap fun w => S.items.map fun i => (w, i) := fun k hk => by
    obtain ⟨x, hx, rfl⟩ := List.mem_map.mp hk
    have ox := D.facts x hx
    refine List.mem_flatMap.mpr ?_
    cases x with
    | mark p i => exact ⟨p, List.mem_append_left _ ox.1, List.mem_map.mpr ⟨i, ox.2, rfl⟩⟩
    | link c a b => exact ⟨c, List.mem_append_right _ ox.1, List.mem_map.mpr ⟨a, ox.2.1, rfl⟩⟩
  have l := nd.length_le_of_subset sub
  rw [List.length_map, List.length_flatMap] at l
  have e : ((S.marks ++ S.columns).map fun w => (S.items.map fun i => (w, i)).length).sum = (S.marks ++ S.columns).length * S.items.length := by
    generalize S.marks ++ S.columns = ws
    induction ws with
    | nil => simp
    | cons w r ih => rw [List.map_cons, List.sum_cons, ih, List.length_map, List.length_cons, Nat.add_mul, Nat.one_mul, Nat.add_comm]
  rw [e, List.length_append] at l
  have := Nat.mul_le_mul (show S.marks.length + S.columns.length ≤ 5 by omega) D.few
  omega
theorem Drawn0.full {m : Nat} {S : Store} (D : Drawn0 m S) (hm : m ≤ 200) : Drawn m S := ⟨D.marks, D.columns, D.items, D.few, by have := D.fewFacts; omega, D.rise, D.facts, D.links⟩
theorem Drawn.zero {m : Nat} {S : Store} (D : Drawn m S) : Drawn0 m S := ⟨D.marks, D.columns, D.items, D.few, D.rise, D.facts, D.links⟩
end DQ

set_option Elab.async false
set_option linter.all false
set_option maxRecDepth 100000
set_option maxHeartbeats 1000000
namespace DQ
open PySem PySem.Spec PyProof.Rows L2
theorem mem_links_inv {c : Str} {fs : List Fact} {a b : Int} (h : (a, b) ∈ linksOf c fs) : Fact.link c a b ∈ fs := by
  obtain ⟨x, hx, e⟩ := List.mem_filterMap.mp h
  cases x with
  | mark m i => cases e
  | link c' p q =>
    by_cases ec : c' = c
    · rw [show Fact.on c (.link c' p q) = some (p, q) from if_pos ec] at e
      cases e
      rw [← ec]
      exact hx
    · rw [show Fact.on c (.link c' p q) = none from if_neg ec] at e
      cases e
theorem led_no {fs : List Fact} {x : Fact} (h : ledB fs x = false) : ∀ y ∈ fs, leads x y = false := fun y hy => by
  cases e : leads x y with
  | false => rfl
  | true => exact absurd (List.any_eq_true.mpr ⟨y, hy, e⟩) (by rw [show fs.any (fun y => leads x y) = false from h]; decide)
theorem led_of {fs : List Fact} {x : Fact} (h : ∀ y ∈ fs, leads x y = false) : ledB fs x = false := by
  cases e : ledB fs x with
  | false => rfl
  | true =>
    obtain ⟨y, hy, z⟩ := List.any_eq_true.mp (show fs.any (fun y => leads x y) = true from e)
    rw [h y hy] at z
    cases z
theorem links_one {c : Str} {x : Fact} : linksOf c [x] = match Fact.on c x with | some p => [p] | none => [] := by
  unfold linksOf
  rw [List.filterMap_cons]
  cases Fact.on c x <;> rfl
theorem oneToOne_put {S : Store} {x : Fact} (ox : x.of S) (nl : ∀ y ∈ S.facts, leads x y = false) (oo : ∀ c, OneToOne S.items (linksOf c S.facts)) : ∀ c, OneToOne S.items (linksOf c (S.facts ++ [x])) := fun c => by
  rw [links_append, links_one]
  cases x with
  | mark m i => rw [show Fact.on c (.mark m i) = none from rfl, List.append_nil]; exact oo c
  | link c' a b =>
    by_cases ec : c' = c
    · subst ec
      rw [show Fact.on c' (.link c' a b) = some (a, b) from if_pos rfl]
      have n : ∀ p ∈ linksOf c' S.facts, p.1 ≠ a ∧ p.2 ≠ b := fun p hp => by
        have z := nl _ (mem_links_inv (a := p.1) (b := p.2) hp)
        simp only [leads, decide_true, Bool.true_and, Bool.or_eq_false_iff, decide_eq_false_iff_not] at z
        exact z
      refine ⟨?_, ?_, fun p hp => ?_⟩
      · rw [List.map_append]
        refine List.nodup_append.mpr ⟨(oo c').1, (by simp), fun y hy z hz e => ?_⟩
        obtain ⟨p, hp, rfl⟩ := List.mem_map.mp hy
        simp only [List.map_cons, List.map_nil, List.mem_singleton] at hz
        exact (n p hp).1 (e.trans hz)
      · rw [List.map_append]
        refine List.nodup_append.mpr ⟨(oo c').2.1, (by simp), fun y hy z hz e => ?_⟩
        obtain ⟨p, hp, rfl⟩ := List.mem_map.mp hy
        simp only [List.map_cons, List.map_nil, List.mem_singleton] at hz
        exact (n p hp).2 (e.trans hz)
      · rcases List.mem_append.mp hp with h | h
        · exact (oo c').2.2 p h
        · rw [List.mem_singleton] at h
          rw [h]
          exact ox.2
    · rw [show Fact.on c (.link c' a b) = none from if_neg ec, List.append_nil]
      exact oo c
/-- the same facts of other items -/
theorem of_items {S : Store} {ns : List Int} {fs : List Fact} {x : Fact} (h : x.of S) (hn : ∀ i ∈ x.nums, i ∈ ns) : x.of ⟨S.marks, S.columns, ns, fs⟩ := by
  cases x with
  | mark m i => exact ⟨h.1, hn i (by simp [Fact.nums])⟩
  | link c a b => exact ⟨h.1, hn a (by simp [Fact.nums]), hn b (by simp [Fact.nums])⟩
theorem oneToOne_items {ns ms : List Int} {ps : List (Int × Int)} (h : OneToOne ns ps) (hn : ∀ p ∈ ps, p.1 ∈ ms ∧ p.2 ∈ ms) : OneToOne ms ps := ⟨h.1, h.2.1, hn⟩
theorem put_iff {S S' : Store} {x : Fact} (h : step S (.put x) = some S') : x.of S ∧ x ∉ S.facts ∧ (∀ y ∈ S.facts, leads x y = false) ∧ S' = { S with facts := sortF (S.facts ++ [x]) } := by
  simp only [step] at h
  split at h
  case isTrue c =>
    simp only [Bool.and_eq_true, Bool.not_eq_true', decide_eq_false_iff_not] at c
    exact ⟨ofB_iff.mp c.1.1, c.1.2, led_no c.2, (Option.some.inj h).symm⟩
  case isFalse => cases h
theorem hasI_no {fs : List Fact} {i : Int} (h : hasI fs i = false) : ∀ y ∈ fs, i ∉ y.nums := fun y hy hi => by
  have z : hasI fs i = true := List.any_eq_true.mpr ⟨y, hy, decide_eq_true hi⟩
  rw [z] at h
  cases h
theorem step_drawn {m : Nat} (hm : m ≤ 150) {S S' : Store} (D : Drawn m S) {e : Edit} (h : step S e = some S') (ha : ∀ i, e = .add i → 0 ≤ i ∧ i ≤ 1000000000) : Drawn (m + 1) S' := by
  have few := D.few
  refine Drawn0.full (m := m + 1) ?_ (by omega)
  cases e with
  | put x =>
    obtain ⟨ox, nx, nl, rfl⟩ := put_iff h
    have nd : (S.facts ++ [x]).Nodup := List.nodup_append.mpr ⟨rise_nodup D.rise, (by simp), fun y hy z hz e => by
      rw [List.mem_singleton] at hz
      exact nx (by rw [← hz, ← e]; exact hy)⟩
    refine ⟨D.marks, D.columns, D.items, by show S.items.length ≤ m + 1; omega, sortF_rise nd, fun y hy => ?_, fun c => (oneToOne_put ox nl D.links c).perm (links_perm (sortF_perm _))⟩
    have z := (sortF_perm _).subset hy
    rcases List.mem_append.mp z with z | z
    · exact of_items (D.facts y z) (nums_in (D.facts y z))
    · rw [List.mem_singleton] at z
      rw [z]
      exact of_items ox (nums_in ox)
  | take x =>
    simp only [step] at h
    split at h
    case isTrue c =>
      cases h
      refine ⟨D.marks, D.columns, D.items, by show S.items.length ≤ m + 1; omega, D.rise.sublist List.filter_sublist, fun y hy => ?_, fun c => (D.links c).sub (List.Sublist.filterMap _ List.filter_sublist)⟩
      have z := (List.mem_filter.mp hy).1
      exact of_items (D.facts y z) (nums_in (D.facts y z))
    case isFalse => cases h
  | add i =>
    simp only [step] at h
    split at h
    case isTrue => cases h
    case isFalse c =>
      cases h
      have bd := ha i rfl
      have nd : (S.items ++ [i]).Nodup := List.nodup_append.mpr ⟨D.items.nodup, (by simp), fun y hy z hz e => by
        rw [List.mem_singleton] at hz
        exact c (by rw [← hz, ← e]; exact hy)⟩
      have sub : ∀ y ∈ S.items, y ∈ sortI (S.items ++ [i]) := fun y hy => (sortI_perm _).symm.subset (List.mem_append_left _ hy)
      refine ⟨D.marks, D.columns, ⟨sortI_lt nd, fun y hy => ?_⟩, ?_, D.rise, fun y hy => of_items (D.facts y hy) fun j hj => sub j (nums_in (D.facts y hy) j hj), fun c => oneToOne_items (D.links c) fun p hp => ⟨sub _ ((D.links c).2.2 p hp).1, sub _ ((D.links c).2.2 p hp).2⟩⟩
      · rcases List.mem_append.mp ((sortI_perm _).subset hy) with z | z
        · exact D.items.2 y z
        · rw [List.mem_singleton] at z
          rw [z]
          exact bd
      · show (sortI _).length ≤ m + 1
        rw [(sortI_perm _).length_eq, List.length_append, List.length_singleton]
        omega
  | drop i =>
    simp only [step] at h
    split at h
    case isTrue c =>
      cases h
      simp only [Bool.and_eq_true, decide_eq_true_eq, Bool.not_eq_true'] at c
      have no := hasI_no c.2
      have sub : ∀ y ∈ S.facts, ∀ j ∈ y.nums, j ∈ S.items.filter fun z => decide (z ≠ i) := fun y hy j hj => List.mem_filter.mpr ⟨nums_in (D.facts y hy) j hj, decide_eq_true fun e => no y hy (by rw [← e]; exact hj)⟩
      refine ⟨D.marks, D.columns, ⟨D.items.1.sublist List.filter_sublist, fun y hy => D.items.2 y (List.mem_filter.mp hy).1⟩, Nat.le_trans (List.length_filter_le _ _) (by omega), D.rise, fun y hy => of_items (D.facts y hy) (sub y hy), fun c => oneToOne_items (D.links c) fun p hp => ?_⟩
      have z := mem_links_inv (a := p.1) (b := p.2) hp
      exact ⟨sub _ z p.1 (by simp [Fact.nums]), sub _ z p.2 (by simp [Fact.nums])⟩
    case isFalse => cases h
theorem filter_all {α : Type} {p : α → Bool} {l : List α} (h : ∀ x ∈ l, p x = true) : l.filter p = l := List.filter_eq_self.mpr h
theorem leads_eq {ns : List Int} {fs : List Fact} (oo : ∀ c, OneToOne ns (linksOf c fs)) {x y : Fact} (hx : x ∈ fs) (hy : y ∈ fs) (h : leads x y = true) : y = x := by
  cases x with
  | mark p i => cases y <;> cases h
  | link c a b =>
    cases y with
    | mark p i => cases h
    | link c' a' b' =>
      simp only [leads, Bool.and_eq_true, decide_eq_true_eq, Bool.or_eq_true] at h
      obtain ⟨rfl, q⟩ := h
      rcases q with rfl | rfl
      · rw [one_place (oo c').1 (mem_links hy) (mem_links hx)]
      · rw [one_place2 (oo c').2.1 (mem_links hy) (mem_links hx)]
theorem step_back {m : Nat} {S S' : Store} (D : Drawn m S) {e : Edit} (h : step S e = some S') : step S' e.back = some S := by
  cases e with
  | put x =>
    obtain ⟨ox, nx, nl, rfl⟩ := put_iff h
    have nd : (S.facts ++ [x]).Nodup := List.nodup_append.mpr ⟨rise_nodup D.rise, (by simp), fun y hy z hz e => by
      rw [List.mem_singleton] at hz
      exact nx (by rw [← hz, ← e]; exact hy)⟩
    show (if x ∈ sortF (S.facts ++ [x]) then some { S with facts := (sortF (S.facts ++ [x])).filter fun y => decide (y ≠ x) } else none) = some S
    rw [if_pos ((sortF_perm _).symm.subset (List.mem_append_right _ (List.mem_singleton.mpr rfl)))]
    have e : (sortF (S.facts ++ [x])).filter (fun y => decide (y ≠ x)) = S.facts := by
      refine rise_eq ?_ ((sortF_rise nd).sublist List.filter_sublist) D.rise
      refine ((sortF_perm _).filter _).trans ?_
      have fa : S.facts.filter (fun y => decide (y ≠ x)) = S.facts := filter_all fun y hy => decide_eq_true fun e => nx (by rw [← e]; exact hy)
      rw [List.filter_append, fa]
      simp
    rw [e]
  | take x =>
    simp only [step] at h
    split at h
    case isTrue c =>
      cases h
      show (if (ofB _ x && !decide (x ∈ _) && !ledB _ x) = true then some _ else none) = some S
      have ox := D.facts x c
      have o2 : ofB { S with facts := S.facts.filter fun y => decide (y ≠ x) } x = true := ofB_iff.mpr (of_items ox (nums_in ox))
      have n2 : decide (x ∈ S.facts.filter fun y => decide (y ≠ x)) = false := decide_eq_false fun z => absurd (List.mem_filter.mp z).2 (by simp)
      have nc := noClash_of D.links
      have l2 : ledB (S.facts.filter fun y => decide (y ≠ x)) x = false := led_of fun y hy => by
        obtain ⟨y1, y2⟩ := List.mem_filter.mp hy
        have ne : y ≠ x := of_decide_eq_true y2
        cases q : leads x y with
        | false => rfl
        | true => exact absurd (leads_eq D.links c y1 q) ne
      rw [o2, n2, l2]
      show some { S with facts := sortF (S.facts.filter (fun y => decide (y ≠ x)) ++ [x]) } = some S
      have nd := rise_nodup D.rise
      have pm : (S.facts.filter (fun y => decide (y ≠ x)) ++ [x]).Perm S.facts := by
        refine (List.perm_append_comm).trans ?_
        refine ((List.perm_ext_iff_of_nodup ?_ nd).mpr fun y => ?_)
        · refine List.nodup_cons.mpr ⟨fun z => absurd (List.mem_filter.mp z).2 (by simp), nd.sublist List.filter_sublist⟩
        · rw [List.singleton_append, List.mem_cons, List.mem_filter]
          constructor
          · rintro (rfl | h)
            · exact c
            · exact h.1
          · intro hy
            by_cases e : y = x
            · exact .inl e
            · exact .inr ⟨hy, decide_eq_true e⟩
      rw [rise_eq ((sortF_perm _).trans pm) (sortF_rise (pm.symm.nodup_iff.mp nd)) D.rise]
    case isFalse => cases h
  | add i =>
    simp only [step] at h
    split at h
    case isTrue => cases h
    case isFalse c =>
      cases h
      have nd : (S.items ++ [i]).Nodup := List.nodup_append.mpr ⟨D.items.nodup, (by simp), fun y hy z hz e => by
        rw [List.mem_singleton] at hz
        exact c (by rw [← hz, ← e]; exact hy)⟩
      show (if (decide (i ∈ sortI (S.items ++ [i])) && !hasI S.facts i) = true then some { S with items := (sortI (S.items ++ [i])).filter fun y => decide (y ≠ i) } else none) = some S
      have h1 : decide (i ∈ sortI (S.items ++ [i])) = true := decide_eq_true ((sortI_perm _).symm.subset (List.mem_append_right _ (List.mem_singleton.mpr rfl)))
      have h2 : hasI S.facts i = false := by
        cases q : hasI S.facts i with
        | false => rfl
        | true =>
          obtain ⟨y, hy, z⟩ := List.any_eq_true.mp (show S.facts.any (fun y => decide (i ∈ y.nums)) = true from q)
          exact absurd (nums_in (D.facts y hy) i (of_decide_eq_true z)) c
      rw [h1, h2]
      have e : (sortI (S.items ++ [i])).filter (fun y => decide (y ≠ i)) = S.items := by
        refine lt_eq ?_ ((sortI_lt nd).sublist List.filter_sublist) D.items.1
        refine ((sortI_perm _).filter _).trans ?_
        have fa : S.items.filter (fun y => decide (y ≠ i)) = S.items := filter_all fun y hy => decide_eq_true fun e => c (by rw [← e]; exact hy)
        rw [List.filter_append, fa]
        simp
      show some { S with items := (sortI (S.items ++ [i])).filter fun y => decide (y ≠ i) } = some S
      rw [e]
  | drop i =>
    simp only [step] at h
    split at h
    case isTrue c =>
      cases h
      simp only [Bool.and_eq_true, decide_eq_true_eq, Bool.not_eq_true'] at c
      show (if i ∈ S.items.filter (fun y => decide (y ≠ i)) then none else some { S with items := sortI (S.items.filter (fun y => decide (y ≠ i)) ++ [i]) }) = some S
      rw [if_neg (fun z => absurd (List.mem_filter.mp z).2 (by simp))]
      have nd := D.items.nodup
      have pm : (S.items.filter (fun y => decide (y ≠ i)) ++ [i]).Perm S.items := by
        refine (List.perm_append_comm).trans ?_
        refine ((List.perm_ext_iff_of_nodup ?_ nd).mpr fun y => ?_)
        · refine List.nodup_cons.mpr ⟨fun z => absurd (List.mem_filter.mp z).2 (by simp), nd.sublist List.filter_sublist⟩
        · rw [List.singleton_append, List.mem_cons, List.mem_filter]
          constructor
          · rintro (rfl | h)
            · exact c.1
            · exact h.1
          · intro hy
            by_cases e : y = i
            · exact .inl e
            · exact .inr ⟨hy, decide_eq_true e⟩
      rw [lt_eq ((sortI_perm _).trans pm) (sortI_lt (pm.symm.nodup_iff.mp nd)) D.items.1]
    case isFalse => cases h
end DQ

set_option Elab.async false
set_option linter.all false
set_option maxRecDepth 100000
set_option maxHeartbeats 1000000
namespace DQ
open PySem PySem.Spec PyProof.Rows L2
/-! ### the table of a store -/
def markB (fs : List Fact) (m : Str) (i : Int) : Int := if Fact.mark m i ∈ fs then 1 else 0
def fwdOf (fs : List Fact) (c : Str) (i : Int) : Int := ((linksOf c fs).lookup i).getD (-1)
def bwdOf (fs : List Fact) (c : Str) (i : Int) : Int := (((linksOf c fs).map fun p => (p.2, p.1)).lookup i).getD (-1)
def bitsOf (ms : List Str) (fs : List Fact) (i : Int) : List Int := ms.map fun m => markB fs m i
def endsOf (cs : List Str) (fs : List Fact) (i : Int) : List Int := cs.flatMap fun c => [fwdOf fs c i, bwdOf fs c i]
def tabOf (S : Store) : Tab := ⟨S.items, bitsOf S.marks S.facts, endsOf S.columns S.facts⟩
theorem lookup_of {l : List (Int × Int)} (nd : (l.map (·.1)).Nodup) {a b : Int} (h : (a, b) ∈ l) : l.lookup a = some b := by
  induction l with
  | nil => cases h
  | cons p r ih =>
    obtain ⟨x, y⟩ := p
    rw [List.map_cons, List.nodup_cons] at nd
    rw [List.lookup_cons]
    by_cases e : a = x
    · subst e
      rcases List.mem_cons.mp h with h | h
      · injection h with _ h
        rw [h]
        simp
      · exact absurd (List.mem_map.mpr ⟨_, h, rfl⟩) nd.1
    · rw [beq_false_of_ne e]
      rcases List.mem_cons.mp h with h | h
      · injection h with h
        exact absurd h e
      · exact ih nd.2 h
theorem lookup_no {l : List (Int × Int)} {a : Int} (h : ∀ b, (a, b) ∉ l) : l.lookup a = none := by
  induction l with
  | nil => rfl
  | cons p r ih =>
    obtain ⟨x, y⟩ := p
    rw [List.lookup_cons]
    by_cases e : a = x
    · subst e
      exact absurd (List.mem_cons_self ..) (h y)
    · rw [beq_false_of_ne e]
      exact ih fun b hb => h b (List.mem_cons_of_mem _ hb)
section
variable {ns : List Int} {fs : List Fact} {c : Str} {a b : Int}
theorem fwd_some (o : OneToOne ns (linksOf c fs)) (h : Fact.link c a b ∈ fs) : fwdOf fs c a = b := by
  unfold fwdOf
  rw [lookup_of o.1 (mem_links h)]
  rfl
theorem fwd_none (h : ∀ b, Fact.link c a b ∉ fs) : fwdOf fs c a = -1 := by
  unfold fwdOf
  rw [lookup_no fun b hb => h b (mem_links_inv hb)]
  rfl
theorem bwd_some (o : OneToOne ns (linksOf c fs)) (h : Fact.link c a b ∈ fs) : bwdOf fs c b = a := by
  unfold bwdOf
  rw [lookup_of (by rw [List.map_map]; exact o.2.1) (List.mem_map.mpr ⟨_, mem_links h, rfl⟩)]
  rfl
theorem bwd_none (h : ∀ a, Fact.link c a b ∉ fs) : bwdOf fs c b = -1 := by
  unfold bwdOf
  rw [lookup_no fun a ha => by
    obtain ⟨p, hp, e⟩ := List.mem_map.mp ha
    obtain ⟨x, y⟩ := p
    injection e with e1 e2
    subst e1 e2
    exact h _ (mem_links_inv hp)]
  rfl
end
theorem fwd_cases {fs : List Fact} {c : Str} {a : Int} : (∃ b, Fact.link c a b ∈ fs) ∨ ∀ b, Fact.link c a b ∉ fs := by
  by_cases h : ∃ b, Fact.link c a b ∈ fs
  · exact .inl h
  · exact .inr fun b hb => h ⟨b, hb⟩
theorem bwd_cases {fs : List Fact} {c : Str} {b : Int} : (∃ a, Fact.link c a b ∈ fs) ∨ ∀ a, Fact.link c a b ∉ fs := by
  by_cases h : ∃ a, Fact.link c a b ∈ fs
  · exact .inl h
  · exact .inr fun a ha => h ⟨a, ha⟩
theorem ends_get {α : Type} {cs : List α} {g h : α → Int} : ∀ {k : Nat} {c : α}, cs[k]? = some c → (cs.flatMap fun c => [g c, h c])[2 * k]? = some (g c) ∧ (cs.flatMap fun c => [g c, h c])[2 * k + 1]? = some (h c) := by
  induction cs with
  | nil => intro k c e; simp at e
  | cons x r ih =>
    intro k c e
    rw [List.flatMap_cons]
    cases k with
    | zero =>
      simp only [List.getElem?_cons_zero, Option.some.injEq] at e
      subst e
      exact ⟨rfl, rfl⟩
    | succ k =>
      obtain ⟨h1, h2⟩ := ih (k := k) (c := c) (by simpa using e)
      exact ⟨by show (g x :: h x :: _)[2 * (k + 1)]? = _; rw [show 2 * (k + 1) = 2 * k + 1 + 1 by omega]; simpa using h1, by show (g x :: h x :: _)[2 * (k + 1) + 1]? = _; rw [show 2 * (k + 1) + 1 = 2 * k + 1 + 1 + 1 by omega]; simpa using h2⟩
theorem ends_len {α : Type} (cs : List α) (g h : α → Int) : (cs.flatMap fun c => [g c, h c]).length = 2 * cs.length := by
  induction cs with
  | nil => rfl
  | cons x r ih => rw [List.flatMap_cons, List.length_append, ih, List.length_cons]; simp; omega
theorem tab_fwd {S : Store} {k : Nat} {c : Str} (h : S.columns[k]? = some c) (i : Int) : (tabOf S).fwd k i = fwdOf S.facts c i := by
  unfold Tab.fwd
  show ((S.columns.flatMap fun c => [fwdOf S.facts c i, bwdOf S.facts c i])[2 * k]?).getD (-1) = _
  rw [(ends_get h).1]
  rfl
theorem flat_congr {α β : Type} {g h : α → List β} : ∀ {l : List α}, (∀ x ∈ l, g x = h x) → l.flatMap g = l.flatMap h
  | [], _ => rfl
  | x :: r, e => by rw [List.flatMap_cons, List.flatMap_cons, e x (List.mem_cons_self ..), flat_congr fun y hy => e y (List.mem_cons_of_mem _ hy)]
/-! renamed stores -/
def Fact.ren (f : Int → Int) : Fact → Fact
  | .mark m i => .mark m (f i)
  | .link c a b => .link c (f a) (f b)
def Store.ren (f : Int → Int) (S : Store) : Store := ⟨S.marks, S.columns, sortI (S.items.map f), sortF (S.facts.map (Fact.ren f))⟩
section
variable {f : Int → Int} {m : Nat} {S : Store}
theorem ren_inj (D : Drawn m S) (inj : ∀ x ∈ S.items, ∀ y ∈ S.items, f x = f y → x = y) {x y : Fact} (hx : x ∈ S.facts) (hy : y.of S) (e : x.ren f = y.ren f) : x = y := by
  have ox := D.facts x hx
  cases x with
  | mark m i =>
    cases y with
    | mark n j =>
      injection e with e1 e2
      rw [e1, inj i ox.2 j hy.2 e2]
    | link c a b => cases e
  | link c a b =>
    cases y with
    | mark n j => cases e
    | link c' a' b' =>
      injection e with e1 e2 e3
      rw [e1, inj a ox.2.1 a' hy.2.1 e2, inj b ox.2.2 b' hy.2.2 e3]
theorem ren_mem (D : Drawn m S) (inj : ∀ x ∈ S.items, ∀ y ∈ S.items, f x = f y → x = y) {y : Fact} (hy : y.of S) : y.ren f ∈ (S.ren f).facts ↔ y ∈ S.facts := by
  show y.ren f ∈ sortF (S.facts.map (Fact.ren f)) ↔ _
  rw [(sortF_perm _).mem_iff]
  constructor
  · intro h
    obtain ⟨x, hx, e⟩ := List.mem_map.mp h
    rw [← ren_inj D inj hx hy e]
    exact hx
  · intro h
    exact List.mem_map.mpr ⟨y, h, rfl⟩
theorem links_ren (c : Str) : ∀ fs : List Fact, linksOf c (fs.map (Fact.ren f)) = (linksOf c fs).map fun p => (f p.1, f p.2)
  | [] => rfl
  | x :: r => by
    have ih := links_ren c r
    unfold linksOf at ih ⊢
    rw [List.map_cons, List.filterMap_cons, List.filterMap_cons, ih]
    cases x with
    | mark m i => rfl
    | link d a b =>
      by_cases e : d = c
      · have e1 : Fact.on c (Fact.ren f (.link d a b)) = some (f a, f b) := if_pos e
        have e2 : Fact.on c (.link d a b) = some (a, b) := if_pos e
        rw [e1, e2]
        rfl
      · have e1 : Fact.on c (Fact.ren f (.link d a b)) = none := if_neg e
        have e2 : Fact.on c (.link d a b) = none := if_neg e
        rw [e1, e2]
theorem nodup_inj {α β : Type} {g : α → β} : ∀ {l : List α}, (∀ x ∈ l, ∀ y ∈ l, g x = g y → x = y) → l.Nodup → (l.map g).Nodup
  | [], _, _ => List.nodup_nil
  | x :: r, h, nd => by
    rw [List.map_cons, List.nodup_cons]
    rw [List.nodup_cons] at nd
    refine ⟨fun hm => ?_, nodup_inj (fun a ha b hb => h a (List.mem_cons_of_mem _ ha) b (List.mem_cons_of_mem _ hb)) nd.2⟩
    obtain ⟨y, hy, e⟩ := List.mem_map.mp hm
    rw [h y (List.mem_cons_of_mem _ hy) x (List.mem_cons_self ..) e] at hy
    exact nd.1 hy
theorem ren_items {x : Int} (hx : x ∈ S.items) : f x ∈ (S.ren f).items := (sortI_perm _).mem_iff.mpr (List.mem_map.mpr ⟨x, hx, rfl⟩)
theorem ren_drawn (D : Drawn m S) (inj : ∀ x ∈ S.items, ∀ y ∈ S.items, f x = f y → x = y) (bd : ∀ x ∈ S.items, 0 ≤ f x ∧ f x ≤ 1000000000) : Drawn m (S.ren f) := by
  have ndI := nodup_inj inj D.items.nodup
  have ndF : (S.facts.map (Fact.ren f)).Nodup := nodup_inj (fun x hx y hy e => ren_inj D inj hx (D.facts y hy) e) (rise_nodup D.rise)
  refine ⟨D.marks, D.columns, ⟨sortI_lt ndI, fun y hy => ?_⟩, ?_, ?_, sortF_rise ndF, fun y hy => ?_, fun c => ?_⟩
  · obtain ⟨x, hx, rfl⟩ := List.mem_map.mp ((sortI_perm _).mem_iff.mp hy)
    exact bd x hx
  · show (sortI (S.items.map f)).length ≤ m
    rw [(sortI_perm _).length_eq, List.length_map]
    exact D.few
  · show (sortF (S.facts.map (Fact.ren f))).length ≤ 1000
    rw [(sortF_perm _).length_eq, List.length_map]
    exact D.short
  · obtain ⟨x, hx, rfl⟩ := List.mem_map.mp ((sortF_perm _).mem_iff.mp hy)
    have ox := D.facts x hx
    cases x with
    | mark m i => exact ⟨ox.1, ren_items ox.2⟩
    | link c a b => exact ⟨ox.1, ren_items ox.2.1, ren_items ox.2.2⟩
  · have o := D.links c
    have z : OneToOne (S.ren f).items (linksOf c (S.facts.map (Fact.ren f))) := by
      rw [links_ren]
      refine ⟨?_, ?_, fun p hp => ?_⟩
      · have e : ((linksOf c S.facts).map fun p => (f p.1, f p.2)).map (·.1) = ((linksOf c S.facts).map (·.1)).map f := by rw [List.map_map, List.map_map]; rfl
        rw [e]
        refine nodup_inj (fun x hx y hy => ?_) o.1
        obtain ⟨p, hp, rfl⟩ := List.mem_map.mp hx
        obtain ⟨q, hq, rfl⟩ := List.mem_map.mp hy
        exact inj _ (o.2.2 p hp).1 _ (o.2.2 q hq).1
      · have e : ((linksOf c S.facts).map fun p => (f p.1, f p.2)).map (·.2) = ((linksOf c S.facts).map (·.2)).map f := by rw [List.map_map, List.map_map]; rfl
        rw [e]
        refine nodup_inj (fun x hx y hy => ?_) o.2.1
        obtain ⟨p, hp, rfl⟩ := List.mem_map.mp hx
        obtain ⟨q, hq, rfl⟩ := List.mem_map.mp hy
        exact inj _ (o.2.2 p hp).2 _ (o.2.2 q hq).2
      · obtain ⟨q, hq, rfl⟩ := List.mem_map.mp hp
        exact ⟨ren_items (o.2.2 q hq).1, ren_items (o.2.2 q hq).2⟩
    exact z.perm (links_perm (sortF_perm _))
theorem ren_tab (D : Drawn m S) (inj : ∀ x ∈ S.items, ∀ y ∈ S.items, f x = f y → x = y) (bd : ∀ x ∈ S.items, 0 ≤ f x ∧ f x ≤ 1000000000) : Renames f (tabOf S) (tabOf (S.ren f)) := by
  have D' := ren_drawn D inj bd
  have pos : ∀ x ∈ S.items, f x ≠ -1 := fun x hx => by have := bd x hx; omega
  have neg : (-1 : Int) ∉ S.items := fun h => by have := D.items.2 _ h; omega
  have hatI : ∀ x ∈ S.items, hat f x = f x := fun x hx => if_neg fun e => neg (by rw [← e]; exact hx)
  have fw : ∀ c ∈ S.columns, ∀ x ∈ S.items, fwdOf (S.ren f).facts c (f x) = hat f (fwdOf S.facts c x) := fun c hc x hx => by
    rcases fwd_cases (fs := S.facts) (c := c) (a := x) with ⟨b, hb⟩ | no
    · have ob := D.facts _ hb
      rw [fwd_some (D.links c) hb, fwd_some (D'.links c) ((ren_mem D inj (y := .link c x b) ob).mpr hb), hatI b ob.2.2]
    · rw [fwd_none no, fwd_none fun b' hb' => ?_]
      · rfl
      · obtain ⟨y, hy, e⟩ := List.mem_map.mp ((sortF_perm _).mem_iff.mp hb')
        have oy := D.facts y hy
        cases y with
        | mark m i => cases e
        | link d a b =>
          injection e with e1 e2 e3
          subst e1
          have := inj a oy.2.1 x hx e2
          subst this
          exact no b hy
  have bw : ∀ c ∈ S.columns, ∀ x ∈ S.items, bwdOf (S.ren f).facts c (f x) = hat f (bwdOf S.facts c x) := fun c hc x hx => by
    rcases bwd_cases (fs := S.facts) (c := c) (b := x) with ⟨b, hb⟩ | no
    · have ob := D.facts _ hb
      rw [bwd_some (D.links c) hb, bwd_some (D'.links c) ((ren_mem D inj (y := .link c b x) ob).mpr hb), hatI b ob.2.1]
    · rw [bwd_none no, bwd_none fun b' hb' => ?_]
      · rfl
      · obtain ⟨y, hy, e⟩ := List.mem_map.mp ((sortF_perm _).mem_iff.mp hb')
        have oy := D.facts y hy
        cases y with
        | mark m i => cases e
        | link d a b =>
          injection e with e1 e2 e3
          subst e1
          have := inj b oy.2.2 x hx e3
          subst this
          exact no a hy
  refine ⟨sortI_perm _, inj, pos, neg, fun x hx => ?_, fun x hx => ?_, fun x hx e he => ?_⟩
  · refine List.map_congr_left fun m hm => ?_
    show (if Fact.mark m (f x) ∈ (S.ren f).facts then (1 : Int) else 0) = if Fact.mark m x ∈ S.facts then 1 else 0
    have z : Fact.mark m (f x) ∈ (S.ren f).facts ↔ Fact.mark m x ∈ S.facts := ren_mem (f := f) D inj (y := .mark m x) ⟨hm, hx⟩
    by_cases h : Fact.mark m x ∈ S.facts
    · rw [if_pos h, if_pos (z.mpr h)]
    · rw [if_neg h, if_neg fun q => h (z.mp q)]
  · show (S.columns.flatMap fun c => [fwdOf (S.ren f).facts c (f x), bwdOf (S.ren f).facts c (f x)]) = (S.columns.flatMap fun c => [fwdOf S.facts c x, bwdOf S.facts c x]).map (hat f)
    rw [List.map_flatMap]
    refine flat_congr fun c hc => ?_
    rw [fw c hc x hx, bw c hc x hx]
    rfl
  · obtain ⟨c, hc, he⟩ := List.mem_flatMap.mp he
    simp only [List.mem_cons, List.not_mem_nil, or_false] at he
    rcases he with rfl | rfl
    · rcases fwd_cases (fs := S.facts) (c := c) (a := x) with ⟨b, hb⟩ | no
      · rw [fwd_some (D.links c) hb]
        exact .inr (D.facts _ hb).2.2
      · exact .inl (fwd_none no)
    · rcases bwd_cases (fs := S.facts) (c := c) (b := x) with ⟨b, hb⟩ | no
      · rw [bwd_some (D.links c) hb]
        exact .inr (D.facts _ hb).2.1
      · exact .inl (bwd_none no)
end
end DQ

set_option Elab.async false
set_option linter.all false
set_option maxRecDepth 100000
set_option maxHeartbeats 1000000
namespace DQ
open PySem PySem.Spec PyProof.Rows L2
/-! ### a fact less -/
theorem drawn_sub {m : Nat} {S : Store} (D : Drawn m S) {fs : List Fact} (h : fs.Sublist S.facts) : Drawn m { S with facts := fs } :=
  ⟨D.marks, D.columns, D.items, D.few, Nat.le_trans h.length_le D.short, D.rise.sublist h, fun x hx => of_items (D.facts x (h.subset hx)) (nums_in (D.facts x (h.subset hx))), fun c => (D.links c).sub (List.Sublist.filterMap _ h)⟩
theorem erase_not {fs : List Fact} (nd : fs.Nodup) {k : Nat} {x : Fact} (h : fs[k]? = some x) : x ∉ fs.eraseIdx k := fun hx => by
  obtain ⟨hk, e⟩ := List.getElem?_eq_some_iff.mp h
  obtain ⟨j, hj⟩ := List.mem_eraseIdx_iff_getElem.mp hx
  obtain ⟨hl, ne, e2⟩ := hj
  have two : ∀ {i j : Nat} (hi : i < fs.length) (hj : j < fs.length), i < j → fs[i] ≠ fs[j] := fun hi hj l => (List.pairwise_iff_getElem.mp nd) _ _ hi hj l
  rcases Nat.lt_or_ge j k with z | z
  · exact two hl hk z (by rw [e2, e])
  · exact two hk hl (by omega) (by rw [e2, e])
theorem int_inj : ∀ {l m : List Int}, l.map PyData.int = m.map PyData.int → l = m
  | [], [], _ => rfl
  | [], _ :: _, h => by simp at h
  | _ :: _, [], h => by simp at h
  | x :: l, y :: m, h => by
    simp only [List.map_cons, List.cons.injEq, PyData.int.injEq] at h
    rw [h.1, int_inj h.2]
theorem less_parts {m : Nat} {S : Store} (D : Drawn m S) {k : Nat} {x : Fact} (h : S.facts[k]? = some x) : atomsD (tabOf { S with facts := S.facts.eraseIdx k }) S.columns.length x.nums ≠ atomsD (tabOf S) S.columns.length x.nums := by
  have hx : x ∈ S.facts := List.mem_of_getElem? h
  have nx := erase_not (rise_nodup D.rise) h
  have ox := D.facts x hx
  have sub := List.eraseIdx_sublist S.facts k
  have neg : (-1 : Int) ∉ S.items := fun h => by have := D.items.2 _ h; omega
  intro e
  simp only [atomsD, PyData.tuple.injEq, List.cons.injEq, and_true] at e
  obtain ⟨_, e2, e3⟩ := e
  cases x with
  | mark c i =>
    have e2 : [rowI (bitsOf S.marks (S.facts.eraseIdx k) i)] = [rowI (bitsOf S.marks S.facts i)] := e2
    rw [List.cons.injEq] at e2
    have e2 := e2.1
    simp only [rowI, PyData.tuple.injEq] at e2
    have inj : ∀ {l m : List Int}, l.map PyData.int = m.map PyData.int → l = m := fun {l m} q => by
      exact int_inj q
    have e2 := inj e2
    have z := List.map_inj_left.mp e2 c ox.1
    unfold markB at z
    rw [if_neg nx, if_pos hx] at z
    exact absurd z (by decide)
  | link c a b =>
    obtain ⟨n, hn, rfl⟩ := List.mem_iff_getElem.mp ox.1
    have hc : S.columns[n]? = some S.columns[n] := List.getElem?_eq_getElem hn
    have z := List.map_inj_left.mp e3 n (List.mem_range.mpr hn)
    have nums : Fact.nums (.link S.columns[n] a b) = [a, b] := rfl
    rw [nums] at z
    simp only [PyData.tuple.injEq, List.map_cons, List.map_nil, List.cons.injEq, and_true] at z
    have z := z.1
    rw [tab_fwd (S := { S with facts := S.facts.eraseIdx k }) hc, tab_fwd hc, fwd_some (D.links _) hx] at z
    have none : fwdOf (S.facts.eraseIdx k) S.columns[n] a = -1 := fwd_none fun b' hb' => by
      have hb2 := sub.subset hb'
      have : b' = b := one_place (D.links S.columns[n]).1 (mem_links hb2) (mem_links hx)
      rw [this] at hb'
      exact nx hb'
    have ea : a ≠ -1 := fun q => neg (by rw [← q]; exact ox.2.1)
    have eb : b ≠ -1 := fun q => neg (by rw [← q]; exact ox.2.2)
    rw [show ({ S with facts := S.facts.eraseIdx k } : Store).facts = S.facts.eraseIdx k from rfl, none] at z
    have l0 : placesI [a, b] (-1) = [] := by
      unfold placesI
      rw [List.map_eq_nil_iff, List.filter_eq_nil_iff]
      intro j hj
      have hj : j < 2 := List.mem_range.mp hj
      have c2 : j = 0 ∨ j = 1 := by omega
      rcases c2 with rfl | rfl
      · simp [ea]
      · simp [eb]
    have l1 : (1 : Int) ∈ placesI [a, b] b := by
      unfold placesI
      exact List.mem_map.mpr ⟨1, List.mem_filter.mpr ⟨List.mem_range.mpr (show 1 < 2 by decide), by simp⟩, rfl⟩
    rw [l0] at z
    simp only [rowI, PyData.tuple.injEq, List.map_nil] at z
    have z2 : placesI [a, b] b = [] := List.map_eq_nil_iff.mp z.symm
    rw [z2] at l1
    cases l1
/-- what the law asks, for the data -/
theorem less_renamed {f : Int → Int} {m : Nat} {S : Store} (D : Drawn m S) (inj : ∀ x ∈ S.items, ∀ y ∈ S.items, f x = f y → x = y) (bd : ∀ x ∈ S.items, 0 ≤ f x ∧ f x ≤ 1000000000) {k : Nat} {x : Fact} (h : S.facts[k]? = some x) (n : Nat) :
    kindD (tabOf { S with facts := S.facts.eraseIdx k }) S.columns.length n x.nums ≠ kindD (tabOf (S.ren f)) S.columns.length n (x.nums.map f) := by
  rw [(ren_tab D inj bd).kind S.columns.length n (nums_in (D.facts x (List.mem_of_getElem? h)))]
  exact kind_parts (less_parts D h)
theorem kind_apart {T T' : Tab} {c c' n : Nat} {row row' : List Int} (h : kindD T c n row ≠ kindD T' c' n row') : PyData.eqv (kindD T c n row) (kindD T' c' n row') = false := by
  cases e : PyData.eqv (kindD T c n row) (kindD T' c' n row') with
  | false => rfl
  | true => exact absurd (like_eqv (kindS n) _ _ (like_kind T c n row) (like_kind T' c' n row') e) h
end DQ

set_option Elab.async false
set_option linter.all false
set_option maxRecDepth 100000
set_option maxHeartbeats 1000000
namespace DQ
open PySem PySem.Spec PyProof.Rows L2
/-! ### a table, fact by fact -/
theorem flat_set1 {cs : List Str} {g g' h : Str → Int} {v : Int} : ∀ {j : Nat} {c : Str}, cs.Nodup → cs[j]? = some c → (∀ x ∈ cs, x ≠ c → g' x = g x) → g' c = v → (cs.flatMap fun c => [g c, h c]).set (2 * j) v = cs.flatMap fun c => [g' c, h c] := by
  induction cs with
  | nil => intro j c _ e; simp at e
  | cons x r ih =>
    intro j c nd e o n
    rw [List.nodup_cons] at nd
    rw [List.flatMap_cons, List.flatMap_cons]
    cases j with
    | zero =>
      simp only [List.getElem?_cons_zero, Option.some.injEq] at e
      subst e
      have z : (r.flatMap fun c => [g c, h c]) = r.flatMap fun c => [g' c, h c] := flat_congr fun y hy => by rw [o y (List.mem_cons_of_mem _ hy) (fun q => nd.1 (by rw [← q]; exact hy))]
      rw [z, n]
      rfl
    | succ j =>
      have e2 : r[j]? = some c := by simpa using e
      have ne : x ≠ c := fun q => nd.1 (by rw [q]; exact List.mem_of_getElem? e2)
      have w := ih nd.2 e2 (fun y hy => o y (List.mem_cons_of_mem _ hy)) n
      rw [o x (List.mem_cons_self ..) ne, ← w, show 2 * (j + 1) = 2 * j + 1 + 1 by omega]
      rfl
theorem flat_set2 {cs : List Str} {g h h' : Str → Int} {v : Int} : ∀ {j : Nat} {c : Str}, cs.Nodup → cs[j]? = some c → (∀ x ∈ cs, x ≠ c → h' x = h x) → h' c = v → (cs.flatMap fun c => [g c, h c]).set (2 * j + 1) v = cs.flatMap fun c => [g c, h' c] := by
  induction cs with
  | nil => intro j c _ e; simp at e
  | cons x r ih =>
    intro j c nd e o n
    rw [List.nodup_cons] at nd
    rw [List.flatMap_cons, List.flatMap_cons]
    cases j with
    | zero =>
      simp only [List.getElem?_cons_zero, Option.some.injEq] at e
      subst e
      have z : (r.flatMap fun c => [g c, h c]) = r.flatMap fun c => [g c, h' c] := flat_congr fun y hy => by rw [o y (List.mem_cons_of_mem _ hy) (fun q => nd.1 (by rw [← q]; exact hy))]
      rw [z, n]
      rfl
    | succ j =>
      have e2 : r[j]? = some c := by simpa using e
      have ne : x ≠ c := fun q => nd.1 (by rw [q]; exact List.mem_of_getElem? e2)
      have w := ih nd.2 e2 (fun y hy => o y (List.mem_cons_of_mem _ hy)) n
      rw [o x (List.mem_cons_self ..) ne, ← w, show 2 * (j + 1) + 1 = 2 * j + 1 + 1 + 1 by omega]
      rfl
theorem map_set {ms : List Str} {g g' : Str → Int} {v : Int} : ∀ {j : Nat} {m : Str}, ms.Nodup → ms[j]? = some m → (∀ x ∈ ms, x ≠ m → g' x = g x) → g' m = v → (ms.map g).set j v = ms.map g' := by
  induction ms with
  | nil => intro j c _ e; simp at e
  | cons x r ih =>
    intro j c nd e o n
    rw [List.nodup_cons] at nd
    rw [List.map_cons, List.map_cons]
    cases j with
    | zero =>
      simp only [List.getElem?_cons_zero, Option.some.injEq] at e
      subst e
      have z : r.map g = r.map g' := List.map_congr_left fun y hy => by rw [o y (List.mem_cons_of_mem _ hy) (fun q => nd.1 (by rw [← q]; exact hy))]
      rw [z, n]
      rfl
    | succ j =>
      have e2 : r[j]? = some c := by simpa using e
      have ne : x ≠ c := fun q => nd.1 (by rw [q]; exact List.mem_of_getElem? e2)
      rw [o x (List.mem_cons_self ..) ne, ← ih nd.2 e2 (fun y hy => o y (List.mem_cons_of_mem _ hy)) n]
      rfl
theorem lookup_app {l : List (Int × Int)} {a b i : Int} (h : l.lookup a = none) : (l ++ [(a, b)]).lookup i = if i = a then some b else l.lookup i := by
  induction l with
  | nil =>
    rw [List.nil_append, List.lookup_cons]
    by_cases e : i = a
    · rw [if_pos e, e]; simp
    · rw [if_neg e, beq_false_of_ne e]
  | cons p r ih =>
    obtain ⟨x, y⟩ := p
    rw [List.lookup_cons] at h
    have ne : a ≠ x := fun q => by rw [q] at h; simp at h
    rw [beq_false_of_ne ne] at h
    rw [List.cons_append, List.lookup_cons, List.lookup_cons, ih h]
    by_cases e : i = x
    · rw [e]
      have : ¬ x = a := fun q => ne q.symm
      simp [this]
    · rw [beq_false_of_ne e]
section
variable {fs : List Fact} {m c : Str} {i a b : Int}
theorem mark_step (m' : Str) (i' : Int) : markB (fs ++ [.mark m i]) m' i' = if m' = m ∧ i' = i then 1 else markB fs m' i' := by
  unfold markB
  by_cases h : m' = m ∧ i' = i
  · rw [if_pos h, if_pos (by rw [h.1, h.2]; exact List.mem_append_right _ (List.mem_singleton.mpr rfl))]
  · rw [if_neg h]
    have z : Fact.mark m' i' ∈ fs ++ [.mark m i] ↔ Fact.mark m' i' ∈ fs := ⟨fun q => by
      rcases List.mem_append.mp q with q | q
      · exact q
      · have q := List.mem_singleton.mp q
        injection q with q1 q2
        exact absurd ⟨q1, q2⟩ h, fun q => List.mem_append_left _ q⟩
    by_cases q : Fact.mark m' i' ∈ fs
    · rw [if_pos q, if_pos (z.mpr q)]
    · rw [if_neg q, if_neg fun y => q (z.mp y)]
theorem mark_link (m' : Str) (i' : Int) : markB (fs ++ [.link c a b]) m' i' = markB fs m' i' := by
  unfold markB
  have z : Fact.mark m' i' ∈ fs ++ [.link c a b] ↔ Fact.mark m' i' ∈ fs := ⟨fun q => by
    rcases List.mem_append.mp q with q | q
    · exact q
    · exact absurd (List.mem_singleton.mp q) (by intro q; cases q), fun q => List.mem_append_left _ q⟩
  by_cases q : Fact.mark m' i' ∈ fs
  · rw [if_pos q, if_pos (z.mpr q)]
  · rw [if_neg q, if_neg fun y => q (z.mp y)]
theorem links_mark (c' : Str) : linksOf c' (fs ++ [.mark m i]) = linksOf c' fs := by
  rw [links_append]
  show linksOf c' fs ++ [] = _
  rw [List.append_nil]
theorem links_link (c' : Str) : linksOf c' (fs ++ [.link c a b]) = if c = c' then linksOf c' fs ++ [(a, b)] else linksOf c' fs := by
  rw [links_append]
  by_cases e : c = c'
  · have e1 : Fact.on c' (.link c a b) = some (a, b) := if_pos e
    rw [if_pos e]
    unfold linksOf
    rw [List.filterMap_cons, e1]
    rfl
  · have e1 : Fact.on c' (.link c a b) = none := if_neg e
    rw [if_neg e]
    unfold linksOf
    rw [List.filterMap_cons, e1]
    exact List.append_nil _
theorem fwd_step (no : ∀ b', Fact.link c a b' ∉ fs) (c' : Str) (i : Int) : fwdOf (fs ++ [.link c a b]) c' i = if c' = c ∧ i = a then b else fwdOf fs c' i := by
  unfold fwdOf
  rw [links_link]
  by_cases e : c = c'
  · subst e
    rw [if_pos rfl, lookup_app (lookup_no fun b hb => no b (mem_links_inv hb))]
    by_cases q : i = a
    · rw [if_pos q, if_pos ⟨rfl, q⟩]; rfl
    · rw [if_neg q, if_neg fun z => q z.2]
  · rw [if_neg e, if_neg fun z => e z.1.symm]
theorem bwd_step (no : ∀ a', Fact.link c a' b ∉ fs) (c' : Str) (i : Int) : bwdOf (fs ++ [.link c a b]) c' i = if c' = c ∧ i = b then a else bwdOf fs c' i := by
  unfold bwdOf
  rw [links_link]
  by_cases e : c = c'
  · subst e
    rw [if_pos rfl, List.map_append]
    show ((List.map _ _ ++ [(b, a)]).lookup i).getD (-1) = _
    rw [lookup_app (lookup_no fun x hx => by
      obtain ⟨p, hp, z⟩ := List.mem_map.mp hx
      obtain ⟨u, v⟩ := p
      injection z with z1 z2
      subst z1 z2
      exact no _ (mem_links_inv hp))]
    by_cases q : i = b
    · rw [if_pos q, if_pos ⟨rfl, q⟩]; rfl
    · rw [if_neg q, if_neg fun z => q z.2]
  · rw [if_neg e, if_neg fun z => e z.1.symm]
end
/-! what a row of the table becomes -/
section
variable {fs : List Fact} {ms cs : List Str} {m c : Str} {i a b : Int} {j : Nat}
theorem bits_mark (nd : ms.Nodup) (hj : ms[j]? = some m) (i' : Int) : bitsOf ms (fs ++ [.mark m i]) i' = if i' = i then (bitsOf ms fs i').set j 1 else bitsOf ms fs i' := by
  by_cases e : i' = i
  · rw [if_pos e]
    unfold bitsOf
    rw [map_set (g' := fun x => markB (fs ++ [.mark m i]) x i') (v := 1) nd hj (fun x _ ne => by rw [mark_step, if_neg fun z => ne z.1]) (by rw [mark_step, if_pos ⟨rfl, e⟩])]
  · rw [if_neg e]
    exact List.map_congr_left fun x _ => by rw [mark_step, if_neg fun z => e z.2]
theorem bits_link (i' : Int) : bitsOf ms (fs ++ [.link c a b]) i' = bitsOf ms fs i' := List.map_congr_left fun x _ => mark_link x i'
theorem ends_mark (i' : Int) : endsOf cs (fs ++ [.mark m i]) i' = endsOf cs fs i' := flat_congr fun x _ => by
  unfold fwdOf bwdOf
  rw [links_mark]
/-- behind the first store, behind both -/
theorem ends_link (nd : cs.Nodup) (hj : cs[j]? = some c) (no1 : ∀ b', Fact.link c a b' ∉ fs) (no2 : ∀ a', Fact.link c a' b ∉ fs) (i' : Int) :
    endsOf cs (fs ++ [.link c a b]) i' = let l := if i' = a then (endsOf cs fs i').set (2 * j) b else endsOf cs fs i'; if i' = b then l.set (2 * j + 1) a else l := by
  have s1 : (if i' = a then (endsOf cs fs i').set (2 * j) b else endsOf cs fs i') = cs.flatMap fun x => [fwdOf (fs ++ [.link c a b]) x i', bwdOf fs x i'] := by
    by_cases e : i' = a
    · rw [if_pos e]
      unfold endsOf
      exact flat_set1 nd hj (fun x _ ne => by rw [fwd_step no1, if_neg fun z => ne z.1]) (by rw [fwd_step no1, if_pos ⟨rfl, e⟩])
    · rw [if_neg e]
      exact flat_congr fun x _ => by rw [fwd_step no1, if_neg fun z => e z.2]
  simp only
  rw [s1]
  by_cases e : i' = b
  · rw [if_pos e]
    exact (flat_set2 nd hj (fun x _ ne => by rw [bwd_step no2, if_neg fun z => ne z.1]) (by rw [bwd_step no2, if_pos ⟨rfl, e⟩])).symm
  · rw [if_neg e]
    exact flat_congr fun x _ => by rw [bwd_step no2, if_neg fun z => e z.2]
theorem bits_none (i' : Int) : bitsOf ms [] i' = ms.map fun _ => (0 : Int) := List.map_congr_left fun x _ => by
  unfold markB
  rw [if_neg (by simp)]
theorem ends_none (i' : Int) : endsOf cs [] i' = (cs ++ cs).map fun _ => (-1 : Int) := by
  show (cs.flatMap fun c => [(-1 : Int), -1]) = _
  induction cs with
  | nil => rfl
  | cons x r ih =>
    have k : ∀ l : List Str, (l.map fun _ => (-1 : Int)) = List.replicate l.length (-1) := fun l => List.map_const' ..
    rw [List.flatMap_cons, ih, k, k, List.length_append, List.length_append, List.length_cons]
    show -1 :: -1 :: List.replicate (r.length + r.length) (-1) = _
    rw [show r.length + 1 + (r.length + 1) = r.length + r.length + 1 + 1 by omega, List.replicate_succ, List.replicate_succ]
end
end DQ

set_option Elab.async false
set_option linter.all false
set_option maxRecDepth 100000
namespace DQ
open PySem PySem.Spec PyProof.Rows L2
variable {X : Cx}
/-- what the parts of a block of one walk answer, bundled -/
structure DcParts (X : Cx) (kx vx tg : Expr) (ifs : List Expr) (scope : Scope) (g : TG) (tt : TT) (tk tv : TE) : Prop where
  goes : ∀ s H C cl fp, PG (X.blk s H scope (compEnvC scope cl C X.env) fp) tg g
  tests : ∀ s H C cl fp, PTs (X.blk s H scope (compEnvC scope cl C X.env) fp) ifs tt
  key : ∀ s H C cl fp, PE (X.blk s H scope (compEnvC scope cl C X.env) fp) kx tk
  val : ∀ s H C cl fp, PE (X.blk s H scope (compEnvC scope cl C X.env) fp) vx tv
/-- a dict comprehension that a plain local of the def takes on one line -/
theorem ps_setDc {i : Nat} {y : Str} {py pos spos : Pos} {kx vx tg iter : Expr} {ifs : List Expr} {scope : Scope} {own : List (Str × Nat)} {wi : TI} {g : TG} {tt : TT} {tk tv : TE}
    (calm : X.calm = true) (nd : X.N.Nodup) (at_ : X.N[i]? = some y) (loc : X.env.scope.names.lookup y = some .local)
    (used : swapsWith (.DictComp kx vx [⟨tg, iter, ifs, 0⟩] scope pos) (some (.Name y py)) spos.line X.env = pure true)
    (walk : PI X tg iter wi) (ok : BlkOk X.N X.env.scope scope own) (B : DcParts X kx vx tg ifs scope g tt tk tv)
    (fold : ∀ x, foldedSetIterable iter X.env x = pure x := by intro _; rfl) :
    PS X (.Assign [.Name y py] (.DictComp kx vx [⟨tg, iter, ifs, 0⟩] scope pos) spos) (tAsg (tDc wi g tt tk tv (own.map (·.2))) (gName i)) := by
  constructor
  intro pins s σ H D I ask
  have ask : tDc wi g tt tk tv (own.map (·.2)) σ H (fun x H1 => gName i x σ H1 D.nx) := ask
  rw [exec_Assign_Name_used _ _ _ _ used]
  apply wpAny_bind
  apply wpAny_standAt
  apply wpAny_bind
  have main := dc_core (use := some (assign (.Name y py) X.env)) (Qf := fun _ t => SP X pins D .next t) (pos := pos) (pos' := firstIterPos [⟨tg, iter, ifs, 0⟩] pos)
    calm nd I walk ok B.goes B.tests B.key B.val fold ask (by
      intro L C t m G J post ns fp
      show wpAny _ _ (assign (.Name y py) X.env (.ref L)) _ _ _
      apply wpAny_assign_Name
      refine store_ok2 (v := V.ref L) J nd at_ (.inl loc) rfl ?_ (.inr loc)
      rintro t2 J2 ⟨a, sb, who⟩
      obtain ⟨p0, p1, p2, p3, p4, p5⟩ := fp
      have far : C ≠ a := by
        rcases who with e | e
        · subst e
          exact p1
        · intro e2
          exact p4 y a e e2.symm
      refine ⟨m, ns.sameBut sb far, ?_⟩
      intro h3 sb3
      refine ⟨_, G, ?_, post⟩
      exact J2.turned (t' := t2.toks) (fun b o hb e => (sb3.2 b hb).trans e) p0 p1 p3 p4 p5)
  apply wpAny_bind
  apply thn main
  intro _ t q
  exact wpAny_pure (wpAny_pure q)
theorem dc_used {kx vx : Expr} {gs : List Comprehension} {scope : Scope} {pos py : Pos} {y : Str} {l : Nat} {env : Env} (fn : env.scope.kind = .function) (lo : env.scope.names.lookup y = some .local) (ln : (py.line == pos.line) = true)
    (no : (scope.names.any fun (n, k) => n == y && (k == .local || k == .cell)) = false) : swapsWith (.DictComp kx vx gs scope pos) (some (.Name y py)) l env = pure true := by
  have e1 : env.kindOf y = some .local := lo
  have e2 : env.blockKind = .function := by
    unfold Env.blockKind
    rw [fn]
    rfl
  unfold swapsWith
  simp only [e2, e1, no, Expr.pos, ln]
  rfl
end DQ

set_option Elab.async false
set_option linter.all false
set_option maxRecDepth 100000
set_option maxHeartbeats 2000000
namespace DQ
open PySem PySem.Spec PyProof.Rows L2
/-! ### a dict comprehension over whole numbers, one entry a turn -/
theorem dc_ints {K : PySem.W.Frag} {a D : Addr} {ns : List Int} {g : TG} {tt : TT} {tk tv : TE} {vs : List Nat} {σ : L2.St} {H1 : Hp} {Qd : Hp → Prop} (In : Nat → List (Key × V) → Hp → Prop) (src : SqL K H1 a (ns.map V.int)) (few : ns.length ≤ 10000) (nD : H1 D = none)
    (start : In 0 [] (upd H1 D (.dK []))) (size : ∀ k kvs H, In k kvs H → kvs.length ≤ k)
    (turn : ∀ k n kvs H, ns[k]? = some n → Same H1 H → H D = some (.dK kvs) → In k kvs H → ∀ N : Hp → Prop, (∀ z H5, Same H H5 → In (k + 1) (putK kvs (.inl n) z) (upd H5 D (.dK (putK kvs (.inl n) z))) → N (upd H5 D (.dK (putK kvs (.inl n) z)))) →
      g (.int n) (wipe σ vs) H fun σ2 H2 => wipe σ2 vs = wipe σ vs ∧ tt σ2 H2 fun b H3 => if b = true then tk σ2 H3 fun y H4 => tv σ2 H4 fun z H5 => ∃ kvs k, y = kV k ∧ H5 D = some (.dK kvs) ∧ kvs.length < sizeLine ∧ N (upd H5 D (.dK (putK kvs k z))) else N H3)
    (after : ∀ kvs H, Same H1 H → H D = some (.dK kvs) → In ns.length kvs H → Qd H) :
    ∃ W : Nat → Nat → Hp → Prop, (∃ m, W 0 m (upd H1 D (.dK []))) ∧ ∀ i m H, W i m H →
      ((Itl K a).stop i H ∧ Qd H) ∨ ((Itl K a).go i H ∧ ∃ Nx : Hp → Prop, (∀ H', Nx H' → ∃ m', m' < m ∧ W (i + 1) m' H') ∧ ∀ x H', (Itl K a).yld i H x H' → g x (wipe σ vs) H' fun σ2 H2 => wipe σ2 vs = wipe σ vs ∧ tt σ2 H2 fun b H3 =>
        if b = true then tk σ2 H3 fun y H4 => tv σ2 H4 fun z H5 => ∃ kvs k, y = kV k ∧ H5 D = some (.dK kvs) ∧ kvs.length < sizeLine ∧ Nx (upd H5 D (.dK (putK kvs k z))) else Nx H3) := by
  refine ⟨fun i m H => m = ns.length - i ∧ i ≤ ns.length ∧ Same H1 H ∧ ∃ kvs, H D = some (.dK kvs) ∧ In i kvs H, ⟨ns.length, by simp, Nat.zero_le _, same_new nD, [], upd_same, start⟩, ?_⟩
  rintro i m H ⟨rfl, hi, sm, kvs, eD, p⟩
  have there := L2.Same.seq sm src
  by_cases lt : i < ns.length
  · refine .inr ⟨⟨_, _, there, by rw [List.getElem?_eq_getElem (by rw [List.length_map]; exact lt)]⟩, fun H' => i + 1 ≤ ns.length ∧ Same H1 H' ∧ ∃ kvs, H' D = some (.dK kvs) ∧ In (i + 1) kvs H', fun H' h => ⟨ns.length - (i + 1), by omega, rfl, h⟩, fun x H' y => ?_⟩
    obtain ⟨e, y⟩ := y
    subst e
    obtain ⟨n, hn, rfl⟩ := at_map (y _ there)
    exact turn i n kvs _ hn sm eD p _ fun z H5 s5 q => ⟨by omega, same_upd (sm.trans s5) nD, _, upd_same, q⟩
  · obtain rfl : i = ns.length := by omega
    exact .inl ⟨⟨_, there, by rw [List.length_map]; exact Nat.le_refl _⟩, after kvs H sm eD p⟩
/-- rows of a dict: each item its list -/
structure LstRows (H0 H : Hp) (ns : List Int) (kvs : List (Key × V)) (f : Int → Addr) (val : Int → List Int) : Prop where
  eq : kvs = ns.map fun i => (Sum.inl i, V.ref (f i))
  at_ : ∀ i ∈ ns, H (f i) = some (.lst ((val i).map V.int))
  new : ∀ i ∈ ns, H0 (f i) = none
  inj : ∀ i ∈ ns, ∀ j ∈ ns, f i = f j → i = j
theorem rows_get {ns : List Int} {f : Int → Addr} {i : Int} (h : i ∈ ns) : valV (ns.map fun i => ((Sum.inl i : Key), V.ref (f i))) (.inl i) = some (.ref (f i)) := by
  induction ns with
  | nil => cases h
  | cons x r ih =>
    rw [List.map_cons]
    by_cases e : x = i
    · subst e
      simp [valV]
    · rcases List.mem_cons.mp h with z | z
      · exact absurd z.symm e
      · have := ih z
        simp only [valV] at this ⊢
        simpa [e] using this
theorem rows_none {ns : List Int} {f : Int → Addr} {i : Int} (h : i ∉ ns) : valV (ns.map fun i => ((Sum.inl i : Key), V.ref (f i))) (.inl i) = none := by
  induction ns with
  | nil => rfl
  | cons x r ih =>
    rw [List.map_cons]
    have e : x ≠ i := fun q => h (by rw [q]; exact List.mem_cons_self ..)
    have := ih fun z => h (List.mem_cons_of_mem _ z)
    simp only [valV] at this ⊢
    simpa [e] using this
/-- a list that is made in a turn -/
theorem rows_put {H0 H H5 : Hp} {D L : Addr} {ns : List Int} {k : Nat} {n : Int} {kvs : List (Key × V)} {f : Int → Addr} {val : Int → List Int} (nd : ns.Nodup) (hn : ns[k]? = some n) (R : LstRows H0 H (ns.take k) kvs f val) (s : Same H H5) (h0 : Same H0 H) (nL : H L = none) (hL : H5 L = some (.lst ((val n).map V.int))) (hD : H5 D = some (.dK kvs)) :
    LstRows H0 (upd H5 D (.dK (putK kvs (.inl n) (.ref L)))) (ns.take (k + 1)) (putK kvs (.inl n) (.ref L)) (fun i => if i = n then L else f i) val := by
  have nin : n ∉ ns.take k := fun h => by
    obtain ⟨j, hj⟩ := List.getElem?_of_mem h
    rw [List.getElem?_take] at hj
    split at hj
    case isTrue lt =>
      have l1 := (List.getElem?_eq_some_iff.mp hj).1
      have l2 := (List.getElem?_eq_some_iff.mp hn).1
      exact (List.pairwise_iff_getElem.mp nd) j k l1 l2 lt (by rw [(List.getElem?_eq_some_iff.mp hj).2, (List.getElem?_eq_some_iff.mp hn).2])
    case isFalse => cases hj
  have old : ∀ i ∈ ns.take k, i ≠ n := fun i hi e => nin (by rw [← e]; exact hi)
  have neD : ∀ {b : Addr} {xs : List V}, H5 b = some (.lst xs) → b ≠ D := fun e q => by rw [q, hD] at e; cases e
  rw [take_next hn]
  refine ⟨?_, fun i hi => ?_, fun i hi => ?_, fun i hi j hj e => ?_⟩
  · rw [putK_new _ (by rw [R.eq]; exact rows_none nin), R.eq, List.map_append]
    have z : (ns.take k).map (fun i => ((Sum.inl i : Key), V.ref (f i))) = (ns.take k).map fun i => (Sum.inl i, V.ref (if i = n then L else f i)) := List.map_congr_left fun i hi => by rw [if_neg (old i hi)]
    rw [z]
    simp
  · rcases List.mem_append.mp hi with hi | hi
    · simp only [if_neg (old i hi)]
      have := s _ _ (R.at_ i hi)
      rw [upd_ne (neD this)]
      exact this
    · rw [List.mem_singleton.mp hi]
      simp only [if_true]
      rw [upd_ne (neD hL)]
      exact hL
  · rcases List.mem_append.mp hi with hi | hi
    · simp only [if_neg (old i hi)]
      exact R.new i hi
    · rw [List.mem_singleton.mp hi]
      simp only [if_true]
      cases q : H0 L with
      | none => rfl
      | some o => rw [h0 _ _ q] at nL; cases nL
  · have live : ∀ i ∈ ns.take k, f i ≠ L := fun i hi q => by rw [← q, R.at_ i hi] at nL; cases nL
    rcases List.mem_append.mp hi with hi | hi <;> rcases List.mem_append.mp hj with hj | hj
    · simp only [if_neg (old i hi), if_neg (old j hj)] at e
      exact R.inj i hi j hj e
    · rw [List.mem_singleton.mp hj] at e ⊢
      simp only [if_neg (old i hi), if_true] at e
      exact absurd e (live i hi)
    · rw [List.mem_singleton.mp hi] at e ⊢
      simp only [if_neg (old j hj), if_true] at e
      exact absurd e.symm (live j hj)
    · rw [List.mem_singleton.mp hi, List.mem_singleton.mp hj]
theorem LstRows.len {H0 H : Hp} {ns : List Int} {kvs : List (Key × V)} {f : Int → Addr} {val : Int → List Int} (R : LstRows H0 H ns kvs f val) : kvs.length = ns.length := by rw [R.eq, List.length_map]
theorem LstRows.nil {H0 H : Hp} {f : Int → Addr} {val : Int → List Int} : LstRows H0 H [] [] f val := ⟨rfl, (fun i h => by cases h), (fun i h => by cases h), (fun i h => by cases h)⟩
theorem LstRows.same {H0 H H' : Hp} {ns : List Int} {kvs : List (Key × V)} {f : Int → Addr} {val : Int → List Int} (R : LstRows H0 H ns kvs f val) (s : Same H H') : LstRows H0 H' ns kvs f val := ⟨R.eq, fun i h => s _ _ (R.at_ i h), R.new, R.inj⟩
/-- the table stands: each item its tuple -/
structure TabAt (H : Hp) (T : Tab) (kvs : List (Key × V)) (f b : Int → Addr) : Prop where
  eq : kvs = T.items.map fun i => (Sum.inl i, V.ref (f i))
  at_ : ∀ i ∈ T.items, H (f i) = some (.tup (.ref (b i) :: (T.ends i).map V.int))
  bit : ∀ i ∈ T.items, H (b i) = some (.tup ((T.bits i).map V.int))
theorem TabAt.same {H H' : Hp} {T : Tab} {kvs : List (Key × V)} {f b : Int → Addr} (R : TabAt H T kvs f b) (s : Same H H') : TabAt H' T kvs f b := ⟨R.eq, fun i h => s _ _ (R.at_ i h), fun i h => s _ _ (R.bit i h)⟩
end DQ

set_option Elab.async false
set_option linter.all false
set_option maxRecDepth 100000
set_option maxHeartbeats 1000000
namespace DQ
open PySem PySem.Spec PyProof.Rows L2
theorem iteT' {b : Bool} {T1 T2 : Prop} (h : b = true) (t : T1) : if b = true then T1 else T2 := by rw [h]; exact t
theorem iteF' {b : Bool} {T1 T2 : Prop} (h : b = false) (t : T2) : if b = true then T1 else T2 := by rw [h]; exact t
/-- a comprehension with a test; what each turn gives, if it gives anything, is told ahead -/
theorem lc_opts {J : It} {n : Nat} {G : Hp → Prop} {Y : Nat → Hp → V → Hp → Prop} (w : Walk J n G Y) {g : TG} {tt : TT} {te : TE} {vs : List Nat} {σ : L2.St} {H1 : Hp} {D : Addr} {Qd : Hp → Prop} (os : List (Option V)) (hn : os.length = n) (few : n < sizeLine) (nD : H1 D = none)
    (hG : ∀ H, Same H1 H → G H) (hY : ∀ i H x H', Y i H x H' → Same H H')
    (hs : ∀ i x H H' o, i < n → os[i]? = some o → Same H1 H → Y i H x H' → ∀ (R : V → Hp → Prop) (N : Hp → Prop), (∀ v H4, o = some v → Same H' H4 → R v H4) → (o = none → ∀ H4, Same H' H4 → N H4) →
      g x (wipe σ vs) H' fun σ2 H2 => wipe σ2 vs = wipe σ vs ∧ tt σ2 H2 fun b H3 => if b = true then te σ2 H3 R else N H3)
    (hd : ∀ H, Same H1 H → H D = some (.lst (os.filterMap id)) → Qd H) :
    ∃ W : Nat → Nat → Hp → Prop, (∃ m, W 0 m (upd H1 D (.lst []))) ∧ ∀ i m H, W i m H →
      (J.stop i H ∧ Qd H) ∨ (J.go i H ∧ ∃ Nx : Hp → Prop, (∀ H', Nx H' → ∃ m', m' < m ∧ W (i + 1) m' H') ∧ ∀ x H', J.yld i H x H' → g x (wipe σ vs) H' fun σ2 H2 => wipe σ2 vs = wipe σ vs ∧ tt σ2 H2 fun b H3 =>
        if b = true then te σ2 H3 fun y H4 => ∃ acc, H4 D = some (.lst acc) ∧ acc.length < sizeLine ∧ Nx (upd H4 D (.lst (acc ++ [y]))) else Nx H3) := by
  refine lc_it w (fun i H => H D = some (.lst ((os.take i).filterMap id)) ∧ Same H1 H) ⟨upd_same, same_new nD⟩ (fun i H _ p => hG H p.2) (fun i x H H' hi p y => ?_) fun H p => hd H p.2 (by rw [← hn, List.take_length] at p; exact p.1)
  obtain ⟨e, s⟩ := p
  have ho : os[i]? = some os[i] := List.getElem?_eq_getElem (by omega)
  have tn : (os.take (i + 1)).filterMap id = (os.take i).filterMap id ++ (match os[i] with | some v => [v] | none => []) := by
    rw [take_next ho, List.filterMap_append, List.filterMap_cons]
    cases os[i] <;> rfl
  refine hs i x H H' _ hi ho s y _ _ (fun v H4 ev s4 => ?_) fun en H4 s4 => ?_
  · have e4 := s4 _ _ (hY _ _ _ _ y _ _ e)
    refine ⟨_, e4, ?_, ?_, same_upd ((s.trans (hY _ _ _ _ y)).trans s4) nD⟩
    · have := List.length_filterMap_le id (os.take i)
      have := List.length_take_le i os
      omega
    · rw [tn, ev]
      exact upd_same
  · refine ⟨?_, (s.trans (hY _ _ _ _ y)).trans s4⟩
    rw [tn, en, List.append_nil]
    exact s4 _ _ (hY _ _ _ _ y _ _ e)
end DQ

set_option Elab.async false
set_option linter.all false
set_option maxRecDepth 100000
set_option maxHeartbeats 4000000
namespace DQ
open PySem PySem.Spec PyProof.Rows L2
/-! ### table_of -/
abbrev sTable : Stmt := topS 39
abbrev NTb : List Str := ["store", "_", "marks", "columns", "items", "facts", "item", "bits", "ends", "fact", "at"]
theorem scTable : FnScope NTb ["store"] (defScope sTable) := ⟨rfl, rfl, rfl, by decide +kernel, rfl, by decide +kernel, by decide +kernel⟩
/-- the scopes of the two rows' blocks -/
abbrev scB : Scope := { kind := .function, names := [(".0", .local), ("item", .local), ("marks", .cell)], isGenerator := false, isCoroutine := false }
abbrev scE : Scope := { kind := .function, names := [(".0", .local), ("item", .local), ("columns", .cell)], isGenerator := false, isCoroutine := false }
theorem strs_at {ms : List Str} (nd : ms.Nodup) {m : Str} (h : m ∈ ms) : ∃ j, ms[j]? = some m ∧ (ms.map V.str)[j]? = some (.str m) ∧ ∀ (j' : Nat) (z' : V), j' < j → (ms.map V.str)[j']? = some z' → eqV z' (.str m) = false := by
  obtain ⟨j, hj, e⟩ := List.mem_iff_getElem.mp h
  refine ⟨j, by rw [List.getElem?_eq_getElem hj, e], by rw [List.getElem?_map, List.getElem?_eq_getElem hj, e]; rfl, fun j' z' lt hz => ?_⟩
  obtain ⟨x, hx, rfl⟩ := at_map hz
  obtain ⟨h', e'⟩ := List.getElem?_eq_some_iff.mp hx
  have ne : x ≠ m := fun q => (List.pairwise_iff_getElem.mp nd) j' j h' hj lt (by rw [e', e, q])
  show (x == m) = false
  exact beq_false_of_ne ne
theorem take_nodup {α : Type} {l : List α} {k : Nat} {x : α} (nd : l.Nodup) (h : l[k]? = some x) : x ∉ l.take k := fun hx => by
  obtain ⟨j, hj⟩ := List.getElem?_of_mem hx
  rw [List.getElem?_take] at hj
  split at hj
  case isTrue lt =>
    obtain ⟨h1, e1⟩ := List.getElem?_eq_some_iff.mp hj
    obtain ⟨h2, e2⟩ := List.getElem?_eq_some_iff.mp h
    exact (List.pairwise_iff_getElem.mp nd) j k h1 h2 lt (by rw [e1, e2])
  case isFalse => cases hj
theorem flat_strV (ms : List Str) : (ms.map V.str).all flatV = true := List.all_eq_true.mpr fun x hx => by
  obtain ⟨z, _, rfl⟩ := List.mem_map.mp hx
  rfl
theorem drawn_nd {m : Nat} {S : Store} (D : Drawn m S) : S.marks.Nodup ∧ S.columns.Nodup := by
  obtain ⟨k, _, ek⟩ := D.marks
  obtain ⟨j, _, _, ej⟩ := D.columns
  rw [ek, ej]
  exact ⟨(List.take_sublist _ _).nodup (by decide), (List.take_sublist _ _).nodup (by decide)⟩
/-- where the table's making stands after some facts -/
structure Going (H H' : Hp) (S : Store) (fs : List Fact) (D1 D2 : Addr) (k1 k2 : List (Key × V)) (bA eA : Int → Addr) : Prop where
  same : Same H H'
  d1 : H' D1 = some (.dK k1)
  d2 : H' D2 = some (.dK k2)
  b : ∀ i ∈ S.items, H' (bA i) = some (.lst ((bitsOf S.marks fs i).map V.int))
  e : ∀ i ∈ S.items, H' (eA i) = some (.lst ((endsOf S.columns fs i).map V.int))
theorem ixN_nat {n j : Nat} {k : Int} (e : k = (j : Int)) (h : j < n) : ixN n k = some j := by
  subst e
  unfold ixN
  rw [if_pos (by omega), if_pos (by omega)]
  simp
theorem map_set_int {l : List Int} {j : Nat} {v : Int} : (l.map V.int).set j (.int v) = (l.set j v).map V.int := by rw [List.map_set]
section
variable {H H' : Hp} {m : Nat} {S : Store} {fs : List Fact} {D1 D2 : Addr} {k1 k2 : List (Key × V)} {bA eA : Int → Addr}
/-- a list of the first rows is stored into -/
theorem Going.mark (G : Going H H' S fs D1 D2 k1 k2 bA eA) (inj : ∀ i ∈ S.items, ∀ j ∈ S.items, bA i = bA j → i = j) (apart : ∀ i ∈ S.items, ∀ j ∈ S.items, bA i ≠ eA j) (new : ∀ i ∈ S.items, H (bA i) = none) (nd : S.marks.Nodup) {w : Str} {i : Int} {j : Nat} (hi : i ∈ S.items) (hj : S.marks[j]? = some w) :
    Going H (upd H' (bA i) (.lst (((bitsOf S.marks fs i).map V.int).set j (.int 1)))) S (fs ++ [.mark w i]) D1 D2 k1 k2 bA eA := by
  have at0 := G.b i hi
  have neD : ∀ {D : Addr} {k : List (Key × V)}, H' D = some (.dK k) → D ≠ bA i := fun e q => by rw [q, at0] at e; cases e
  refine ⟨same_upd G.same (new i hi), by rw [upd_ne (neD G.d1)]; exact G.d1, by rw [upd_ne (neD G.d2)]; exact G.d2, fun i' hi' => ?_, fun i' hi' => ?_⟩
  · rw [bits_mark nd hj]
    by_cases e : i' = i
    · subst e
      rw [if_pos rfl, upd_same, map_set_int]
    · rw [if_neg e, upd_ne fun q => e (inj i' hi' i hi q)]
      exact G.b i' hi'
  · rw [ends_mark, upd_ne fun q => apart i hi i' hi' q.symm]
    exact G.e i' hi'
/-- two lists of the second rows are stored into, one behind the other, perhaps the same -/
theorem Going.link (G : Going H H' S fs D1 D2 k1 k2 bA eA) (inj : ∀ i ∈ S.items, ∀ j ∈ S.items, eA i = eA j → i = j) (apart : ∀ i ∈ S.items, ∀ j ∈ S.items, bA i ≠ eA j) (new : ∀ i ∈ S.items, H (eA i) = none) (nd : S.columns.Nodup) {w : Str} {a b : Int} {j : Nat} (ha : a ∈ S.items) (hb : b ∈ S.items) (hj : S.columns[j]? = some w) (no1 : ∀ b', Fact.link w a b' ∉ fs) (no2 : ∀ a', Fact.link w a' b ∉ fs) :
    (upd H' (eA a) (.lst (((endsOf S.columns fs a).map V.int).set (2 * j) (.int b)))) (eA b) = some (.lst ((if b = a then (endsOf S.columns fs b).set (2 * j) b else endsOf S.columns fs b).map V.int)) ∧
    Going H (upd (upd H' (eA a) (.lst (((endsOf S.columns fs a).map V.int).set (2 * j) (.int b)))) (eA b) (.lst (((if b = a then (endsOf S.columns fs b).set (2 * j) b else endsOf S.columns fs b).map V.int).set (2 * j + 1) (.int a)))) S (fs ++ [.link w a b]) D1 D2 k1 k2 bA eA := by
  have atA := G.e a ha
  have neD : ∀ {x : Int}, x ∈ S.items → ∀ {D : Addr} {k : List (Key × V)}, H' D = some (.dK k) → D ≠ eA x := fun {x} hx {D k} e q => by rw [q, G.e x hx] at e; cases e
  have first : ∀ i' ∈ S.items, (upd H' (eA a) (.lst (((endsOf S.columns fs a).map V.int).set (2 * j) (.int b)))) (eA i') = some (.lst ((if i' = a then (endsOf S.columns fs i').set (2 * j) b else endsOf S.columns fs i').map V.int)) := fun i' hi' => by
    by_cases e : i' = a
    · subst e
      rw [if_pos rfl, upd_same, map_set_int]
    · rw [if_neg e, upd_ne fun q => e (inj i' hi' a ha q)]
      exact G.e i' hi'
  refine ⟨first b hb, same_upd (same_upd G.same (new a ha)) (new b hb), ?_, ?_, fun i' hi' => ?_, fun i' hi' => ?_⟩
  · rw [upd_ne (neD hb G.d1), upd_ne (neD ha G.d1)]; exact G.d1
  · rw [upd_ne (neD hb G.d2), upd_ne (neD ha G.d2)]; exact G.d2
  · rw [bits_link, upd_ne (apart i' hi' b hb), upd_ne (apart i' hi' a ha)]
    exact G.b i' hi'
  · rw [ends_link nd hj no1 no2]
    by_cases e : i' = b
    · subst e
      simp only [if_true]
      rw [upd_same, map_set_int]
    · simp only [if_neg e]
      rw [upd_ne fun q => e (inj i' hi' b hb q)]
      exact first i' hi'
end
theorem tab_put {H H5 : Hp} {D T L : Addr} {ns : List Int} {k : Nat} {n : Int} {kvs : List (Key × V)} {ft fb : Int → Addr} {bits ends : Int → List Int} (nd : ns.Nodup) (hn : ns[k]? = some n) (R : TabAt H ⟨ns.take k, bits, ends⟩ kvs ft fb) (s : Same H H5) (hD : H5 D = some (.dK kvs)) (hT : H5 T = some (.tup (.ref L :: (ends n).map V.int))) (hL : H5 L = some (.tup ((bits n).map V.int))) :
    TabAt (upd H5 D (.dK (putK kvs (.inl n) (.ref T)))) ⟨ns.take (k + 1), bits, ends⟩ (putK kvs (.inl n) (.ref T)) (fun i => if i = n then T else ft i) (fun i => if i = n then L else fb i) := by
  have nin : n ∉ ns.take k := take_nodup nd hn
  have old : ∀ i ∈ ns.take k, i ≠ n := fun i hi e => nin (by rw [← e]; exact hi)
  have neD : ∀ {b : Addr} {xs : List V}, H5 b = some (.tup xs) → b ≠ D := fun e q => by rw [q, hD] at e; cases e
  have eq0 : kvs = (ns.take k).map fun i => (Sum.inl i, V.ref (ft i)) := R.eq
  have tn := take_next hn
  refine ⟨?_, fun i hi => ?_, fun i hi => ?_⟩
  · show putK kvs (.inl n) (.ref T) = (ns.take (k + 1)).map _
    rw [tn, putK_new _ (by rw [eq0]; exact rows_none nin), eq0, List.map_append]
    have z : (ns.take k).map (fun i => ((Sum.inl i : Key), V.ref (ft i))) = (ns.take k).map fun i => (Sum.inl i, V.ref (if i = n then T else ft i)) := List.map_congr_left fun i hi => by rw [if_neg (old i hi)]
    rw [z]
    simp
  · have hi : i ∈ ns.take (k + 1) := hi
    rw [tn] at hi
    rcases List.mem_append.mp hi with hi | hi
    · simp only [if_neg (old i hi)]
      have := s _ _ (R.at_ i hi)
      rw [upd_ne (neD this)]
      exact this
    · rw [List.mem_singleton.mp hi]
      simp only [if_true]
      rw [upd_ne (neD hT)]
      exact hT
  · have hi : i ∈ ns.take (k + 1) := hi
    rw [tn] at hi
    rcases List.mem_append.mp hi with hi | hi
    · simp only [if_neg (old i hi)]
      have := s _ _ (R.bit i hi)
      rw [upd_ne (neD this)]
      exact this
    · rw [List.mem_singleton.mp hi]
      simp only [if_true]
      rw [upd_ne (neD hL)]
      exact hL
section
variable {P : Program} {w : World} {K : PySem.W.Frag} {mg : Str → Option Value} {base : Heap}
def spTable : Sp := fun vs H Q _ => ∃ (v : V) (S : Store) (m : Nat), vs = [v] ∧ m ≤ 2000 ∧ Drawn m S ∧ StoAt H v S ∧
  ∀ (d : Addr) (H' : Hp) (kvs : List (Key × V)) (ft fb : Int → Addr), Same H H' → H d = none → H' d = some (.dK kvs) → TabAt H' (tabOf S) kvs ft fb → Q (.ref d) H'
theorem ok_table {f : Addr} {fd : FuncData} {tN : Tok} (F : Fun K "table_of" "table_of" sTable f fd) (mN : mg "NOWHERE" = some (.int (-1) tN)) (mT : mg "tuple" = none) : FnOk P w K mg base CX0 1 f fd ["store"] spTable := by
  refine F.ok scTable (fun vs H Q E h => ?_) (fun cdv A outer s H vs Q E hr h => ?_)
  · obtain ⟨_, _, _, rfl, _⟩ := h
    rfl
  obtain ⟨v, S, m, rfl, hm, D, A0, q⟩ := h
  have nd := scTable.nd
  have hu := room1 hr
  refine ⟨_, pss_cons (ps_asg (pv 0) (pg_tup rfl (pgs_cons (pg_name (i := 1) nd rfl (.inl rfl)) (pgs_cons (pg_name (i := 2) nd rfl (.inr rfl)) (pgs_cons (pg_name (i := 3) nd rfl (.inr rfl)) (pgs_cons (pg_name (i := 4) nd rfl (.inl rfl)) (pgs_cons (pg_name (i := 5) nd rfl (.inl rfl)) pgs_nil)))))))
    (pss_cons (ps_set (i := 7) nd rfl (.inr rfl) (pe_dc (own := [("item", 6)]) (g := gName 6) (tt := tYes) rfl nd (pi_list (pv 4)) (blkOk_by (own := [("item", 6)]) (N := NTb) (sc := defScope sTable) (by decide +kernel)) (fun _ _ _ _ _ => pg_name (i := 6) nd rfl (Or.inl rfl)) (fun _ _ _ _ _ => pts_nil) (fun _ _ _ _ _ => pv 6)
      (fun _ _ _ _ _ => by
        refine pe_lc (own := [("_", 1)]) (wi := iList K (tVar 2)) (te := tC (.int 0)) (g := gName 1) (tt := tYes) rfl nd ?_ (blkOk_by (own := [("_", 1)]) (N := NTb) (sc := scB) (by decide +kernel)) ?_ ?_ ?_
        · exact pi_list (pv 2)
        · exact fun _ _ _ _ _ => pg_name (i := 1) nd rfl (Or.inl rfl)
        · exact fun _ _ _ _ _ => pts_nil
        · exact fun _ _ _ _ _ => pe_int)))
    (pss_cons (ps_set (i := 8) nd rfl (.inr rfl) (pe_dc (own := [("item", 6)]) (g := gName 6) (tt := tYes) rfl nd (pi_list (pv 4)) (blkOk_by (own := [("item", 6)]) (N := NTb) (sc := defScope sTable) (by decide +kernel)) (fun _ _ _ _ _ => pg_name (i := 6) nd rfl (Or.inl rfl)) (fun _ _ _ _ _ => pts_nil) (fun _ _ _ _ _ => pv 6)
      (fun _ _ _ _ _ => by
        refine pe_lc (own := [("_", 1)]) (wi := iList K (tLst (StX.tStar K (tVar 3) (StX.tStar K (tVar 3) tNil)))) (te := tC (.int (-1))) (g := gName 1) (tt := tYes) rfl nd ?_ (blkOk_by (own := [("_", 1)]) (N := NTb) (sc := scE) (by decide +kernel)) ?_ ?_ ?_
        · exact pi_list (pe_lst (pa_starK (K := K) rfl (pv 3) (pa_starK (K := K) rfl (pv 3) pa_nil)))
        · exact fun _ _ _ _ _ => pg_name (i := 1) nd rfl (Or.inl rfl)
        · exact fun _ _ _ _ _ => pts_nil
        · exact fun _ _ _ _ _ => pe_glob (v := .int (-1)) (by rfl) mN ⟨_, rfl⟩)))
    (pss_cons (ps_for PassesOwn.never rfl (pi_list (pv 5)) (pg_name (i := 9) nd rfl (.inl rfl))
      (pss_one (ps_if (pt_cmpR op_eq (pe_ix (r := rIxT K) ix_tup (pv 9) pe_int (fun _ _ => rfl)) pe_str (nomark _))
        (pss_one (ps_asg pe_int (pg_sub (pe_dget hu (pv 7) (pe_ix (r := rIxT K) ix_tup (pv 9) pe_int (fun _ _ => rfl)) (fun _ _ => rfl)) (pe_bm PySem.F.plainAttrs_list PySem.F.slot_list_index PySem.F.type_list_index mt_index (pv 2) (pa_cons (pe_ix (r := rIxT K) ix_tup (pv 9) pe_int (fun _ _ => rfl)) pa_nil)) set_list)))
        (pss_cons (ps_set (i := 10) nd rfl (.inl rfl) (pe_op op_mul pe_int (pe_bm PySem.F.plainAttrs_list PySem.F.slot_list_index PySem.F.type_list_index mt_index (pv 3) (pa_cons (pe_ix (r := rIxT K) ix_tup (pv 9) pe_int (fun _ _ => rfl)) pa_nil))))
        (pss_cons (ps_asg (pe_ix (r := rIxT K) ix_tup (pv 9) pe_int (fun _ _ => rfl)) (pg_sub (pe_dget hu (pv 8) (pe_ix (r := rIxT K) ix_tup (pv 9) pe_int (fun _ _ => rfl)) (fun _ _ => rfl)) (pv 10) set_list))
        (pss_one (ps_asg (pe_ix (r := rIxT K) ix_tup (pv 9) pe_int (fun _ _ => rfl)) (pg_sub (pe_dget hu (pv 8) (pe_ix (r := rIxT K) ix_tup (pv 9) pe_int (fun _ _ => rfl)) (fun _ _ => rfl)) (pe_op op_add (pv 10) pe_int) set_list))))))))
    (pss_one (ps_ret (pe_dc (own := [("item", 6)]) (g := gName 6) (tt := tYes) (tv := tTup (tCons (tThen (tDGet (tVar 7) (tVar 6)) (kTup K)) (StX.tStar K (tDGet (tVar 8) (tVar 6)) tNil))) rfl nd (pi_list (pv 4)) (blkOk_by (own := [("item", 6)]) (N := NTb) (sc := defScope sTable) (by decide +kernel)) (fun _ _ _ _ _ => pg_name (i := 6) nd rfl (Or.inl rfl)) (fun _ _ _ _ _ => pts_nil) (fun _ _ _ _ _ => pv 6)
      (fun _ _ _ _ _ => by
        refine pe_tup (pa_cons ?_ (StX.pa_star ?_ pa_nil))
        · exact pe_tupleOf (by rfl) mT (pe_dget hu (pv 7) (pv 6) (fun _ _ => rfl))
        · exact pe_dget hu (pv 8) (pv 6) (fun _ _ => rfl)))))))), ?_⟩
  obtain ⟨t, ma, ca, ia, fa, rs, rfl, ht, hma, hca, hia, hfa, tp⟩ := id A0
  have few := D.few
  have ndI := D.items.nodup
  refine ⟨_, rfl, t, _, rfl, .inl (.inl ht), rfl, _, _, rfl, _, _, rfl, _, _, rfl, _, _, rfl, _, _, rfl, rfl, ?_⟩
  -- the marks' rows
  refine ⟨_, rfl, ia, rfl, ⟨_, SqL.of hia⟩, fun D1 nD1 => ?_⟩
  refine dc_ints (ns := S.items) (fun k kvs H' => ∃ f, LstRows H H' (S.items.take k) kvs f (bitsOf S.marks [])) (SqL.of hia) (by omega) nD1 ⟨fun _ => 0, LstRows.nil⟩ (fun k kvs H' R => ?_) (fun k n kvs H' hn s' eD R N hN => ?_) (fun kvs H' s' eD R => ?_)
  · obtain ⟨f, R⟩ := R
    rw [R.len, List.length_take]
    exact Nat.min_le_left _ _
  · obtain ⟨f, R⟩ := R
    have hma' := s' _ _ hma
    refine ⟨rfl, _, rfl, _, rfl, ma, rfl, ⟨_, SqL.of hma'⟩, fun L nL => ?_⟩
    have fm := D.fewMarks
    refine lc_vals (walk_list (K := K) (a := ma) (xs := S.marks.map V.str)) ((bitsOf S.marks [] n).map V.int) (by simp [bitsOf]) (Nat.lt_of_le_of_lt (show (S.marks.map V.str).length ≤ 1000 by rw [List.length_map]; omega) (by decide)) nL (fun H'' s'' => SqL.of (s'' _ _ hma')) (fun j H'' v H3 y => by rw [y.1]; exact fun _ _ h => h) (fun j v H3 H4 b hj hb s3 y R' hR => ?_) (fun H3 s3 e3 => ?_) (fun x σ H Q Q' mo h => mo _ _ h)
    · obtain ⟨rfl, _⟩ := y
      have hb0 : b = .int 0 := by
        rw [bits_none] at hb
        obtain ⟨z, hz, rfl⟩ := at_map hb
        obtain ⟨_, _, rfl⟩ := at_map hz
        rfl
      subst hb0
      exact ⟨rfl, hR _ fun _ _ h => h⟩
    · refine ⟨kvs, .inl n, rfl, s3 _ _ eD, ?_, hN (.ref L) H3 s3 ⟨_, rows_put ndI hn R s3 s' nL e3 (s3 _ _ eD)⟩⟩
      rw [R.len, List.length_take]
      exact Nat.lt_of_le_of_lt (show min k S.items.length ≤ 2000 by omega) (by decide)
  obtain ⟨bA, RB⟩ := R
  rw [List.take_length] at RB
  -- the links' rows
  have hia1 := s' _ _ hia
  refine ⟨_, rfl, ia, rfl, ⟨_, SqL.of hia1⟩, fun D2 nD2 => ?_⟩
  refine dc_ints (ns := S.items) (fun k kvs2 H2 => ∃ f, LstRows H' H2 (S.items.take k) kvs2 f (endsOf S.columns [])) (SqL.of hia1) (by omega) nD2 ⟨fun _ => 0, LstRows.nil⟩ (fun k kvs2 H2 R => ?_) (fun k n kvs2 H2 hn s2 eD2 R N hN => ?_) (fun kvs2 H2 s2 eD2 R => ?_)
  · obtain ⟨f, R⟩ := R
    rw [R.len, List.length_take]
    exact Nat.min_le_left _ _
  · obtain ⟨f, R⟩ := R
    have hca' := s2 _ _ (s' _ _ hca)
    have fc := D.fewColumns
    refine ⟨rfl, _, rfl, _, rfl, ca, _, rfl, .inr (SqL.of hca'), _, rfl, ca, _, rfl, .inr (SqL.of hca'), Nat.le_trans (show _ ≤ 1000 by simp only [List.length_append, List.length_map, List.length_nil]; omega) (by decide), fun L0 nL0 => ?_⟩
    have g0 := same_new nL0 (o := .lst (S.columns.map V.str ++ (S.columns.map V.str ++ [])))
    have f0 : upd H2 L0 (.lst (S.columns.map V.str ++ (S.columns.map V.str ++ []))) L0 = some (.lst (S.columns.map V.str ++ (S.columns.map V.str ++ []))) := upd_same
    generalize upd H2 L0 (.lst (S.columns.map V.str ++ (S.columns.map V.str ++ []))) = H3 at g0 f0 ⊢
    have le : (S.columns.map V.str ++ (S.columns.map V.str ++ [])).length = ((endsOf S.columns [] n).map V.int).length := by
      rw [ends_none, List.append_nil, ← List.map_append, List.length_map, List.length_map, List.length_map]
    have ll : (S.columns.map V.str ++ (S.columns.map V.str ++ [])).length ≤ 1000 := by simp only [List.length_append, List.length_map, List.length_nil]; omega
    generalize S.columns.map V.str ++ (S.columns.map V.str ++ []) = cs2 at f0 le ll
    refine ⟨L0, rfl, ⟨_, SqL.of f0⟩, fun L nL => ?_⟩
    refine lc_vals (walk_list (K := K) (a := L0) (xs := cs2)) ((endsOf S.columns [] n).map V.int) le.symm (Nat.lt_of_le_of_lt ll (by decide)) nL (fun H'' s'' => SqL.of (s'' _ _ f0)) (fun j H'' v H3 y => by rw [y.1]; exact fun _ _ h => h) (fun j v H4 H5 b hj hb s3 y R' hR => ?_) (fun H4 s4 e4 => ?_) (fun x σ H Q Q' mo h => mo _ _ h)
    · obtain ⟨rfl, _⟩ := y
      have hb0 : b = .int (-1) := by
        rw [ends_none] at hb
        obtain ⟨z, hz, rfl⟩ := at_map hb
        obtain ⟨_, _, rfl⟩ := at_map hz
        rfl
      subst hb0
      exact ⟨rfl, hR _ fun _ _ h => h⟩
    · have s24 := g0.trans s4
      have nL2 : H2 L = none := by
        cases q : H2 L with
        | none => rfl
        | some o => rw [g0 _ _ q] at nL; cases nL
      refine ⟨kvs2, .inl n, rfl, s24 _ _ eD2, ?_, hN (.ref L) H4 s24 ⟨_, rows_put ndI hn R s24 s2 nL2 e4 (s24 _ _ eD2)⟩⟩
      rw [R.len, List.length_take]
      exact Nat.lt_of_le_of_lt (show min k S.items.length ≤ 2000 by omega) (by decide)
  obtain ⟨eA, RE⟩ := R
  rw [List.take_length] at RE
  have RB0 := RB
  have RB := RB.same s2
  have eD1 := s2 _ _ eD
  have s02 := s'.trans s2
  -- all rows apart
  have apart : ∀ i ∈ S.items, ∀ j ∈ S.items, bA i ≠ eA j := fun i hi j hj e => by
    have z := RE.new j hj
    rw [← e, RB0.at_ i hi] at z
    cases z
  have newE : ∀ i ∈ S.items, H (eA i) = none := fun i hi => by
    cases q : H (eA i) with
    | none => rfl
    | some o =>
      have := RE.new i hi
      rw [s' _ _ q] at this
      cases this
  have newB := RB.new
  have nD1' : D1 ≠ D2 := fun e => by
    rw [← e, eD] at nD2
    cases nD2
  have ndS := drawn_nd D
  refine ⟨_, rfl, fa, rfl, ⟨_, SqL.of (s02 _ _ hfa)⟩, for_list (K := K) (a := fa) (xs := rs) (fun k σ H3 => ∃ y9 y10, σ = [some (.ref t), some (.str "store"), some (.ref ma), some (.ref ca), some (.ref ia), some (.ref fa), none, some (.ref D1), some (.ref D2), y9, y10] ∧ Going H H3 S (S.facts.take k) D1 D2 kvs kvs2 bA eA)
    ⟨none, none, rfl, s02, eD1, eD2, RB.at_, RE.at_⟩ (fun k σ H3 _ hP => ?_) (fun k x σ H3 hx hP => ?_) fun σ H3 hP => ?_⟩
  · obtain ⟨y9, y10, rfl, G⟩ := hP
    exact SqL.of (G.same _ _ hfa)
  · obtain ⟨y9, y10, rfl, G⟩ := hP
    obtain ⟨fx, tt, rfl, hfx, ht2⟩ := Tups.get tp hx
    obtain ⟨y, hy, rfl⟩ := at_map ht2
    have hfx3 := G.same _ _ hfx
    have hym := List.mem_of_getElem? hy
    have oy := D.facts y hym
    have tn : S.facts.take (k + 1) = S.facts.take k ++ [y] := take_next hy
    have hma3 := G.same _ _ hma
    have hca3 := G.same _ _ hca
    have get : ∀ {D : Addr} {kv : List (Key × V)} {f : Int → Addr} {i : Int}, H3 D = some (.dK kv) → kv = S.items.map (fun i => (Sum.inl i, V.ref (f i))) → i ∈ S.items → DGet H3 D (.int i) (some (.ref (f i))) := fun {D kv f i} e ek hi => by
      have z := DGet.k (k := Sum.inl i) e
      rw [ek, rows_get hi] at z
      exact z
    cases y with
    | mark w i =>
      obtain ⟨j, hj, hj2, none_⟩ := strs_at ndS.1 oy.1
      refine ⟨_, rfl, fx, _, 0, .str "mark", rfl, rfl, .inl (.inl hfx3), atI_nat (j := 0) rfl, rfl, _, rfl, iteT' (by simp) ?_⟩
      refine ⟨_, rfl, _, rfl, fx, _, 2, .int i, rfl, rfl, .inl (.inl hfx3), atI_nat (j := 2) rfl, D1, .ref (bA i), rfl, get G.d1 RB.eq oy.2, ?_⟩
      refine ⟨_, rfl, .inl ⟨rfl, _, SqL.of hma3⟩, _, rfl, fx, _, 1, .str w, rfl, rfl, .inl (.inl hfx3), atI_nat (j := 1) rfl, ma, _, .str w, j, .str w, rfl, rfl, SqL.of hma3, rfl, flat_strV _, hj2, (by show (w == w) = true; simp), none_, ?_⟩
      have at0 := G.b i oy.2
      have jl : j < ((bitsOf S.marks (S.facts.take k) i).map V.int).length := by
        rw [List.length_map]
        unfold bitsOf
        rw [List.length_map]
        exact (List.getElem?_eq_some_iff.mp hj).1
      refine ⟨bA i, _, _, j, rfl, rfl, at0, ixN_nat rfl jl, _, _, rfl, ?_⟩
      rw [tn]
      exact G.mark RB.inj apart newB ndS.1 oy.2 hj
    | link w a b =>
      obtain ⟨j, hj, hj2, none_⟩ := strs_at ndS.2 oy.1
      refine ⟨_, rfl, fx, _, 0, .str "link", rfl, rfl, .inl (.inl hfx3), atI_nat (j := 0) rfl, rfl, _, rfl, iteF' (by simp; decide +kernel) ?_⟩
      refine ⟨_, rfl, .inl ⟨rfl, _, SqL.of hca3⟩, _, rfl, fx, _, 1, .str w, rfl, rfl, .inl (.inl hfx3), atI_nat (j := 1) rfl, ca, _, .str w, j, .str w, rfl, rfl, SqL.of hca3, rfl, flat_strV _, hj2, (by show (w == w) = true; simp), none_, ?_⟩
      refine ⟨_, _, rfl, rfl, .inl ⟨by decide, by decide⟩, ?_⟩
      have e1 := G.e a oy.2.1
      have jc : j < S.columns.length := (List.getElem?_eq_some_iff.mp hj).1
      have el : ∀ i, (endsOf S.columns (S.facts.take k) i).length = 2 * S.columns.length := fun i => ends_len _ _ _
      have no1 : ∀ b', Fact.link w a b' ∉ S.facts.take k := fun b' hb' => by
        have hb2 := List.mem_of_mem_take hb'
        have q : b' = b := one_place (D.links w).1 (mem_links hb2) (mem_links hym)
        rw [q] at hb'
        exact (take_nodup (rise_nodup D.rise) hy) hb'
      have no2 : ∀ a', Fact.link w a' b ∉ S.facts.take k := fun a' ha' => by
        have hb2 := List.mem_of_mem_take ha'
        have q : a' = a := one_place2 (D.links w).2.1 (mem_links hb2) (mem_links hym)
        rw [q] at ha'
        exact (take_nodup (rise_nodup D.rise) hy) ha'
      obtain ⟨e2, G2⟩ := G.link RE.inj apart newE ndS.2 oy.2.1 oy.2.2 hj no1 no2
      have l1 : 2 * j < ((endsOf S.columns (S.facts.take k) a).map V.int).length := by rw [List.length_map, el]; omega
      refine ⟨_, rfl, fx, _, 3, .int b, rfl, rfl, .inl (.inl hfx3), atI_nat (j := 3) rfl, _, rfl, _, rfl, fx, _, 2, .int a, rfl, rfl, .inl (.inl hfx3), atI_nat (j := 2) rfl, D2, .ref (eA a), rfl, get G.d2 RE.eq oy.2.1, _, rfl, eA a, _, _, 2 * j, rfl, rfl, e1, ixN_nat (by omega) l1, ?_⟩
      have s4 := same_upd (o := .lst (((endsOf S.columns (S.facts.take k) a).map V.int).set (2 * j) (.int b))) G.same (newE a oy.2.1)
      have hfx4 := s4 _ _ hfx
      have d4 : upd H3 (eA a) (.lst (((endsOf S.columns (S.facts.take k) a).map V.int).set (2 * j) (.int b))) D2 = some (.dK kvs2) := by
        rw [upd_ne fun q => by rw [← q, G.d2] at e1; cases e1]
        exact G.d2
      have get4 : DGet (upd H3 (eA a) (.lst (((endsOf S.columns (S.facts.take k) a).map V.int).set (2 * j) (.int b)))) D2 (.int b) (some (.ref (eA b))) := by
        have z := DGet.k (k := Sum.inl b) d4
        rw [RE.eq, rows_get oy.2.2] at z
        exact z
      have l2 : 2 * j + 1 < ((if b = a then (endsOf S.columns (S.facts.take k) b).set (2 * j) b else endsOf S.columns (S.facts.take k) b).map V.int).length := by
        rw [List.length_map]
        split
        · rw [List.length_set, el]; omega
        · rw [el]; omega
      refine ⟨_, rfl, fx, _, 2, .int a, rfl, rfl, .inl (.inl hfx4), atI_nat (j := 2) rfl, _, rfl, _, rfl, fx, _, 3, .int b, rfl, rfl, .inl (.inl hfx4), atI_nat (j := 3) rfl, D2, .ref (eA b), rfl, get4, _, rfl, _, _, rfl, rfl, eA b, _, _, 2 * j + 1, rfl, rfl, e2, ixN_nat (by omega) l2, _, _, rfl, ?_⟩
      rw [tn]
      exact G2
  · obtain ⟨y9, y10, rfl, G⟩ := hP
    rw [tp.length, List.length_map, List.take_length] at G
    have hia3 := G.same _ _ hia
    refine ⟨_, rfl, ia, rfl, ⟨_, SqL.of hia3⟩, fun D3 nD3 => ?_⟩
    refine dc_ints (ns := S.items) (fun k kvs3 H4 => ∃ ft fb, TabAt H4 ⟨S.items.take k, bitsOf S.marks S.facts, endsOf S.columns S.facts⟩ kvs3 ft fb) (SqL.of hia3) (by omega) nD3 ⟨fun _ => 0, fun _ => 0, rfl, (fun i h => by cases h), (fun i h => by cases h)⟩ (fun k kvs3 H4 R => ?_) (fun k n kvs3 H4 hn s4 eD3 R N hN => ?_) (fun kvs3 H4 s4 eD3 R => ?_)
    · obtain ⟨ft, fb, R⟩ := R
      rw [R.eq, List.length_map, List.length_take]
      exact Nat.min_le_left _ _
    · obtain ⟨ft, fb, R⟩ := R
      have hnm := List.mem_of_getElem? hn
      have get : ∀ {D : Addr} {kv : List (Key × V)} {f : Int → Addr} {H5 : Hp}, H5 D = some (.dK kv) → kv = S.items.map (fun i => (Sum.inl i, V.ref (f i))) → DGet H5 D (.int n) (some (.ref (f n))) := fun {D kv f H5} e ek => by
        have z := DGet.k (k := Sum.inl n) e
        rw [ek, rows_get hnm] at z
        exact z
      have gb := s4 _ _ (G.b n hnm)
      refine ⟨rfl, _, rfl, _, rfl, _, rfl, D1, .ref (bA n), rfl, get (s4 _ _ G.d1) RB.eq, .inl ⟨bA n, _, rfl, SqL.of gb, fun L nL => ?_⟩⟩
      have g5 := same_new nL (o := .tup ((bitsOf S.marks S.facts n).map V.int))
      have f5 : upd H4 L (.tup ((bitsOf S.marks S.facts n).map V.int)) L = some (.tup ((bitsOf S.marks S.facts n).map V.int)) := upd_same
      generalize upd H4 L (.tup ((bitsOf S.marks S.facts n).map V.int)) = H5 at g5 f5 ⊢
      have s35 := s4.trans g5
      refine ⟨_, rfl, _, rfl, D2, .ref (eA n), rfl, get (s35 _ _ G.d2) RE.eq, eA n, _, rfl, .inr (SqL.of (s35 _ _ (G.e n hnm))), ?_, fun T nT => ?_⟩
      · have : (endsOf S.columns S.facts n).length = 2 * S.columns.length := ends_len _ _ _
        have := D.fewColumns
        refine Nat.le_trans (show _ ≤ 1000 from ?_) (by decide)
        simp only [List.length_cons, List.length_append, List.length_map, List.length_nil]
        omega
      rw [List.append_nil]
      have g6 := same_new nT (o := .tup (.ref L :: (endsOf S.columns S.facts n).map V.int))
      have f6 : upd H5 T (.tup (.ref L :: (endsOf S.columns S.facts n).map V.int)) T = some (.tup (.ref L :: (endsOf S.columns S.facts n).map V.int)) := upd_same
      generalize upd H5 T (.tup (.ref L :: (endsOf S.columns S.facts n).map V.int)) = H6 at g6 f6 ⊢
      have s46 := g5.trans g6
      refine ⟨kvs3, .inl n, rfl, s46 _ _ eD3, ?_, hN (.ref T) H6 s46 ?_⟩
      · rw [R.eq, List.length_map, List.length_take]
        exact Nat.lt_of_le_of_lt (show min k S.items.length ≤ 2000 by omega) (by decide)
      · exact ⟨_, _, tab_put ndI hn R s46 (s46 _ _ eD3) f6 (g6 _ _ f5)⟩
    · obtain ⟨ft, fb, R⟩ := R
      rw [List.take_length] at R
      have s04 := G.same.trans s4
      have nD : H D3 = none := by
        cases q : H D3 with
        | none => rfl
        | some o => rw [G.same _ _ q] at nD3; cases nD3
      exact q D3 H4 kvs3 ft fb s04 nD eD3 R
end
end DQ

set_option Elab.async false
set_option linter.all false
set_option maxRecDepth 100000
set_option maxHeartbeats 2000000
namespace DQ
open PySem PySem.Spec PyProof.Rows L2
/-! ### for i, x in enumerate(t), t a tuple -/
abbrev tupIt (a : Addr) : Obj := { cls := .type "tuple_iterator", data := .fields #[.ref a, .int 0 0] }
abbrev enumOf (it : Addr) : Obj := { cls := .type "enumerate", data := .fields #[.none, .bool false, .ref it, rawInt 0, .none, .none] }
theorem enumT_new (a : Addr) (vs : Array Value) :
    Meets (Builtin.«enumerate.__new__» ⟨[.type "enumerate", .ref a], []⟩) (fun _ W t => t.heap.IsTuple a vs ∧ W (.ok (.ret (.ref (t.heap.push (tupIt a)).objs.size))) { t with heap := (t.heap.push (tupIt a)).push (enumOf t.heap.objs.size) }) := by
  refine .of_wp fun p w A W t ask => ?_
  obtain ⟨h0, gs, dr, tok, out⟩ := t
  obtain ⟨isT, ask⟩ := ask
  have sub_ := sub_enumerate
  have begin_ : ∀ {A' : Around} {E' : Value → Shared → Prop} {Q' : Value → Shared → Prop}, Q' (.ref h0.objs.size) ⟨h0.push (tupIt a), gs, dr, tok, out⟩ → wpAny (model p w) A' (pyIter (.ref a)) Q' E' ⟨h0, gs, dr, tok, out⟩ := fun {A' E' Q'} z =>
    (begins_tuple a vs).iter p w A' E' ⟨h0, gs, dr, tok, out⟩ Q' isT z
  wp_walk using begin_
  refine wpAny_stack_any fun _ => wpAny_pure ?_
  split
  · rename_i c _ _ _ _ _
    cases (c == Value.type "enumerate") <;> (wp_walk using begin_; exact ⟨_, rfl, ask⟩)
  · (wp_walk using begin_; exact ⟨_, rfl, ask⟩)
theorem call_enumT {P : Program} {w : World} {A : Around} {E : Value → Shared → Prop} {t : Shared} {a : Addr} {vs : Array Value} {Q : Value → Shared → Prop} (isT : t.heap.IsTuple a vs)
    (q : ∀ h2 : Heap, IsEnum h2 (t.heap.objs.size + 1) t.heap.objs.size 0 .none → h2.IsTupleIter t.heap.objs.size a 0 → (∀ b u, t.heap.get? b = some u → h2.get? b = some u) → Q (.ref (t.heap.objs.size + 1)) { t with heap := h2 }) :
    wpAny (model P w) A (call (.type "enumerate") [.ref a]) Q E t := by
  refine callType_new F.called_enumerate (by decide) (F.typeCall_enumerate_1 _) (F.newCall_enumerate_1 _) (fun z => F.args_object_init_2 z _) F.entry_enumerate_new (enumT_new a vs) ⟨isT, ?_⟩
  have size1 : (t.heap.push (tupIt a)).objs.size = t.heap.objs.size + 1 := Heap.size_push ..
  show _ ∧ _
  rw [size1]
  have en : IsEnum ((t.heap.push (tupIt a)).push (enumOf t.heap.objs.size)) (t.heap.objs.size + 1) t.heap.objs.size 0 .none := by
    have z := Heap.get?_push_size (t.heap.push (tupIt a)) (o := enumOf t.heap.objs.size) rfl
    rwa [size1] at z
  exact ⟨⟨_, en, rfl⟩, q _ en ⟨_, Heap.get?_push_of_some _ (Heap.get?_push_size _ rfl), rfl, rfl⟩ fun _ _ z => Heap.get?_push_of_some _ (Heap.get?_push_of_some _ z)⟩
/-- the tuple's items, each in a new pair with its place -/
def ItT (K : PySem.W.Frag) (a : Addr) : It :=
  ⟨fun i H => ∃ (ys : List V) (y : V), SqT K H a ys ∧ ys[i]? = some y, fun i H v G => ∃ T y, v = .ref T ∧ H T = none ∧ G = upd H T (.tup [.int (i : Nat), y]) ∧ ∀ ys, SqT K H a ys → ys[i]? = some y, fun i H => ∃ ys : List V, SqT K H a ys ∧ ys.length ≤ i⟩
theorem turn_enumT {P : Program} {w : World} {K : PySem.W.Frag} {elts : List Expr} {kk : Nat} {tp : Pos} (a e it : Addr) : Turn P w K (.Tuple elts kk tp) (ItT K a) [e, it] e (fun i h => (∃ old, IsEnum h e it ((i : Nat) : Int) old) ∧ h.IsTupleIter it a i ∧ e ≠ it) where
  mem := List.mem_cons_self ..
  obj := fun i h st b hb => by
    obtain ⟨⟨_, en⟩, ⟨u, hu, _, du⟩, _⟩ := st
    rcases List.mem_cons.mp hb with z | z
    · subst z
      exact ⟨_, en, fun _ q => nomatch q⟩
    · rw [List.mem_singleton.mp z]
      exact ⟨u, hu, fun _ q => by rw [du] at q; cases q⟩
  keep := fun i h h' st k => by
    obtain ⟨⟨old, en⟩, ⟨u, hu, cu, du⟩, ne⟩ := st
    exact ⟨⟨old, k e (List.mem_cons_self ..) _ en⟩, ⟨u, k it (by simp) _ hu, cu, du⟩, ne⟩
  item := by
    intro X hP hw hK calm i pins s σ H E I free st hg
    subst hP hw hK
    obtain ⟨⟨old, en⟩, itr, ne⟩ := st
    obtain ⟨ys, y, sq, hy⟩ := hg
    obtain ⟨vs, rv, isT, _⟩ := I.tuple sq
    have isT0 : s.heap.IsTuple a vs.toArray := isT
    obtain ⟨u, hu, ru⟩ := rv.get hy
    obtain ⟨lt, _⟩ := List.getElem?_eq_some_iff.mp hu
    have neA : a ≠ it := fun q => by
      obtain ⟨o1, g1, c1, _⟩ := isT0
      obtain ⟨o2, g2, c2, _⟩ := itr
      rw [q, g2] at g1
      cases g1
      rw [c2] at c1
      exact absurd c1 (by decide)
    have neE : e ≠ a := fun q => by
      obtain ⟨o1, g1, c1, _⟩ := isT0
      rw [← q, en] at g1
      cases g1
      have c3 : Value.type "enumerate" = Value.type "tuple" := c1
      exact absurd c3 (by decide)
    have live1 : e < s.heap.objs.size := Heap.lt_size en
    have live2 : it < s.heap.objs.size := by obtain ⟨_, z, _⟩ := itr; exact Heap.lt_size z
    have dr := Draws.tuple (prog := X.prog) (w := X.w) (A := X.A.in1) (I.ok.hd calm) it a neA vs.toArray
    refine wpAny_pyNext_enum_itemD dr en ⟨itr, isT0⟩ (by simpa using lt) ne (by simp [ne, neE]) fun x h1 tk hx out1 st1 hT _ keep1 => ?_
    have ex : x = u := by
      have hx : vs.toArray[i]? = some x := hx
      rw [List.getElem?_toArray, hu] at hx
      exact (Option.some.inj hx).symm
    subst ex
    refine ⟨_, rfl, wpAny_letOwnedTupleGo_enum (s := { s with heap := h1, toks := tk + 1 }) out1 fun h2 en2 sb => ?_⟩
    have pair : h2.get? s.heap.objs.size = some { cls := .type "tuple", data := .seq #[.int i tk, x] } := (sb.2 _ (Nat.ne_of_gt live1)).trans hT
    have isNew : ObjOk X.prog X.w (upd H s.heap.objs.size (.tup [.int (i : Nat), y])) h2 s.heap.objs.size (.tup [.int (i : Nat), y]) :=
      ⟨show 2 ≤ sizeLine by decide, [.int i tk, x], .cons ⟨_, rfl⟩ (.cons ru .nil), _, pair, rfl, _, rfl⟩
    have J : Inv X pins σ (upd H s.heap.objs.size (.tup [.int (i : Nat), y])) { s with heap := h2, toks := tk + 1 } :=
      I.turnedNew (ch := [e, it]) (fun b ob hb z => (sb.2 b (fun q => hb (by simp [q]))).trans (keep1 b ob (fun q => hb (by simp [q])) (fun q => hb (by simp [q])) z)) free (Nat.le_refl _) isNew
    refine ⟨.ref s.heap.objs.size, _, J, rfl, ⟨_, y, rfl, I.hok.fresh (Nat.le_refl _), rfl, fun zs hz => by rw [I.tuple_inj hz sq]; exact hy⟩, ⟨⟨x, ?_⟩, ?_, ne⟩, fun b hb => ?_⟩
    · have z : ((i + 1 : Nat) : Int) = (i : Int) + 1 := by omega
      rw [z]
      exact en2
    · obtain ⟨o2, g2, c2, d2⟩ := st1.1
      exact ⟨o2, (sb.2 it (Ne.symm ne)).trans g2, c2, d2⟩
    · have lb : b < s.heap.objs.size := by
        rcases List.mem_cons.mp hb with z | z
        · subst z; exact live1
        · rw [List.mem_singleton.mp z]; exact live2
      rw [upd_ne (Nat.ne_of_lt lb)]
      exact (free b hb).1
  done := by
    intro X hP hw hK calm i pins s σ H E I free st hg
    subst hP hw hK
    obtain ⟨⟨old, en⟩, itr, ne⟩ := st
    obtain ⟨ys, sq, ly⟩ := hg
    obtain ⟨vs, rv, isT, _⟩ := I.tuple sq
    have isT0 : s.heap.IsTuple a vs.toArray := isT
    have ty : s.TypeIs (.ref e) "enumerate" := ⟨_, en, rfl⟩
    obtain ⟨f0, f1, f2, f3, f4, f5⟩ := free it (by simp)
    have out_ : vs.toArray[i]? = none := by
      have := rv.length
      rw [List.getElem?_toArray, List.getElem?_eq_none_iff]
      omega
    unfold pyNext
    refine wpAny_bind (wpAny_attempt (wpAny_callSpecial?_slot (name := Str.ofString "__next__") ty F.slot_enumerate_next (wpAny_call_entry F.slot_enumerate_next ty F.entry_enumerate_next ?_ (F.args_enumerate_next_1 _))))
    show wpAny _ _ (field (.ref e) 2 >>= fun _ => _) _ _ _
    refine wpAny_bind (wpAny_field en rfl (x := .ref it) rfl (wpAny_bind (wpAny_nextOf_tuple_end (I.ok.hd calm) itr isT0 out_ fun h1 x eb stop_ => ?_)))
    obtain ⟨o, ho, co⟩ := stop_
    exact wpAny_bind (wpAny_isInstance (T := "StopIteration") (b := true) ⟨o, ho, co⟩ isSubtype_stop (wpAny_pure ⟨rfl, I.turned (t' := s.toks) (fun b u hb z => eb b u hb z) f0 f1 f3 f4 f5⟩))
  self := fun A i s Q E st q => by
    obtain ⟨⟨_, en⟩, _⟩ := st
    exact wpAny_pyIter_enum en q
def iEnumT (K : PySem.W.Frag) (ta : TA) : TI := fun σ H R => ta σ H fun vs H1 => ∃ a ys, vs = [.ref a] ∧ SqT K H1 a ys ∧ R (ItT K a) H1
theorem pi_enumT {X : Cx} {e : Expr} {ta : TA} {p q tp : Pos} {elts : List Expr} {kk : Nat} (gl : Gl X "enumerate") (no : X.mg "enumerate" = none) (ha : PA X [e] ta) (one : starEach [e] X.env = [(false, eval e X.env)] := by rfl) : PI X (.Tuple elts kk tp) (.Call (.Name "enumerate" p) [e] [] q) (iEnumT X.K ta) := by
  constructor
  intro pins s σ H R I ask
  refine Call_ (ld_blt I gl no boot_enumerate (PyProof.Rows.callWith_type1 (thn (ha.run q pins s σ H _ I ask) fun us t ⟨ws, H1, I1, r1, q1⟩ => ?_) one rfl))
  obtain ⟨a, ys, rfl, sq, go⟩ := q1
  cases r1 with
  | cons r rr =>
    cases rr
    cases r
    obtain ⟨vs, rv, isT, _⟩ := I1.tuple sq
    refine call_enumT (vs := vs.toArray) isT fun h2 en itr kept => wpAny_pyIter_enum en ?_
    refine ⟨t.heap.objs.size + 1, [t.heap.objs.size + 1, t.heap.objs.size], _, _, H1, rfl, I1.kept (t' := t.toks) kept, turn_enumT a (t.heap.objs.size + 1) t.heap.objs.size, ⟨⟨.none, en⟩, itr, Nat.succ_ne_self _⟩, fun b hb => ?_, go⟩
    have le : t.heap.objs.size ≤ b := by
      rcases List.mem_cons.mp hb with z | z
      · rw [z]; exact Nat.le_add_right _ _
      · rw [List.mem_singleton.mp z]; exact Nat.le_refl _
    exact I1.fpOk le (I1.hok.fresh le)
theorem walk_enumT {K : PySem.W.Frag} {a : Addr} {xs : List V} : Walk (ItT K a) xs.length (fun H => SqT K H a xs) (YPair (fun i => some (.int (i : Nat))) (fun i => xs[i]?)) := by
  refine ⟨fun i _ lt sq => ⟨xs, xs[i], sq, by simp [lt]⟩, fun _ sq => ⟨xs, sq, Nat.le_refl _⟩, fun i H v G _ sq y => ?_⟩
  obtain ⟨T, z, e1, e2, e3, e4⟩ := y
  exact ⟨T, .int (i : Nat), z, e1, e2, e3, rfl, e4 xs sq⟩
end DQ

set_option Elab.async false
set_option linter.all false
set_option maxRecDepth 100000
set_option maxHeartbeats 2000000
namespace DQ
open PySem PySem.Spec PyProof.Rows L2
/-! ### t.index(i), a tuple of whole numbers -/
theorem flat_intV (ns : List Int) : (ns.map V.int).all flatV = true := List.all_eq_true.mpr fun v hv => by
  obtain ⟨i, _, rfl⟩ := List.mem_map.mp hv
  rfl
theorem idx_first {i : Int} : ∀ {ns : List Int} (m : Nat), m < ns.idxOf i → ns[m]? ≠ some i
  | [], m, h => by simp
  | x :: r, m, h => by
    rw [List.idxOf_cons] at h
    by_cases e : x = i
    · rw [e] at h
      simp at h
    · rw [beq_false_of_ne e] at h
      cases m with
      | zero => simpa using e
      | succ m =>
        rw [List.getElem?_cons_succ]
        exact idx_first m (by simpa using h)
theorem dpAll_app {K : PySem.W.Frag} {H : Hp} : ∀ {xs ys : List V} {ds es : List PyData}, DpAll K H xs ds → DpAll K H ys es → DpAll K H (xs ++ ys) (ds ++ es)
  | _, _, _, _, .nil, h => h
  | _, _, _, _, .cons a r, h => .cons a (dpAll_app r h)
def rIdxI (K : PySem.W.Frag) : V → List V → Hp → VK → Prop := fun x xs H Q => ∃ (a : Addr) (ns : List Int) (i : Int), x = .ref a ∧ xs = [.int i] ∧ SqT K H a (ns.map V.int) ∧ i ∈ ns ∧ Q (.int ((ns.idxOf i : Nat) : Int)) H
theorem mt_idxI {X : Cx} : MtR X "tuple.index" (rIdxI X.K) := by
  intro pins s σ H x xs v us Q I rx rs ask
  obtain ⟨a, ns, i, rfl, rfl, sq, hi, q⟩ := ask
  cases rx
  obtain ⟨_, rfl, tk, rfl⟩ := vals1 rs
  obtain ⟨vs, rv, ⟨⟨cl, dc, da, sl⟩, ho, hc, cnt, hd⟩, _⟩ := I.tuple sq
  simp only at hc hd
  subst hc hd
  have size_ : vs.toArray.size = ns.length := by rw [List.size_toArray, ← rv.length, List.length_map]
  have lt : ns.idxOf i < ns.length := List.idxOf_lt_length_of_mem hi
  have each : ∀ (m : Nat) (hm : m < vs.toArray.size), ∃ t', vs.toArray[m] = Value.int (ns[m]'(by rw [← size_]; exact hm)) t' := fun m hm => by
    have hm' : m < ns.length := by rw [← size_]; exact hm
    obtain ⟨w, hw, t', hw'⟩ := rv.get (i := m) (x := .int ns[m]) (by simp [hm'])
    have e := (List.getElem?_eq_some_iff.mp hw).2
    exact ⟨t', by rw [← hw', ← e]; simp⟩
  refine call_meets PySem.F.slot_tuple_index ⟨_, ho, rfl⟩ PySem.F.entry_tuple_index (PySem.F.args_tuple_index_2 _ _)
    (TI.tuple_indexAt a vs.toArray cnt dc sl (.int i tk) (eqU (.int i)) (ns.idxOf i) (by rw [size_]; exact lt) ?_ fun m hm lm => ?_)
    ⟨ho, fun w hw => mem_eqAt (x := .int i) ⟨tk, rfl⟩ rfl rv (flat_intV ns) w (by simpa using hw), ⟨.int ((ns.idxOf i : Nat) : Int), H, I.tok _, ⟨_, rfl⟩, q⟩⟩
  · obtain ⟨t', e⟩ := each (ns.idxOf i) (by rw [size_]; exact lt)
    rw [e, List.getElem_idxOf lt]
    show (i == i) = true
    simp
  · obtain ⟨t', e⟩ := each m hm
    rw [e]
    have hm' : m < ns.length := by rw [← size_]; exact hm
    have ne : ns[m] ≠ i := fun z => by
      exact idx_first m lm (by rw [List.getElem?_eq_getElem hm', z])
    show (ns[m] == i) = false
    exact beq_false_of_ne ne
/-! ### data of tuples and numbers stay where another thing is written -/
theorem sqT_upd {K : PySem.W.Frag} {H : Hp} {a D : Addr} {o : HO} {xs : List V} (h : SqT K H a xs) (nt : ∀ zs, ¬ Rd H D (.tup zs)) : SqT K (upd H D o) a xs := by
  rcases h with (h | ⟨z, h⟩) | h
  · have ne : a ≠ D := fun e => nt xs (by rw [← e]; exact .inl h)
    exact .inl (.inl (by rw [upd_ne ne]; exact h))
  · have ne : a ≠ D := fun e => nt xs (by rw [← e]; exact .inr ⟨z, h⟩)
    exact .inl (.inr ⟨z, by rw [upd_ne ne]; exact h⟩)
  · exact .inr h
theorem dpAll_upd {K : PySem.W.Frag} {H : Hp} {D : Addr} {o : HO} {s : Shp} (one : ∀ d v, Like s d → Dp K H v d → Dp K (upd H D o) v d) : ∀ {vs : List V} {ds : List PyData}, (∀ d ∈ ds, Like s d) → DpAll K H vs ds → DpAll K (upd H D o) vs ds
  | _, _, _, .nil => .nil
  | _, _, l, .cons h t => .cons (one _ _ (l _ (List.mem_cons_self ..)) h) (dpAll_upd one (fun d hd => l d (List.mem_cons_of_mem _ hd)) t)
theorem dp_upd {K : PySem.W.Frag} {H : Hp} {D : Addr} {o : HO} (nt : ∀ zs, ¬ Rd H D (.tup zs)) : ∀ (s : Shp) (d : PyData) (v : V), Like s d → Dp K H v d → Dp K (upd H D o) v d
  | .int, _, _, ⟨n, rfl⟩, h => by
    cases h
    exact .int n
  | .row s, _, _, ⟨ds, rfl, l⟩, h => by
    cases h with
    | tup sq ha => exact .tup (sqT_upd sq nt) (dpAll_upd (dp_upd nt s) l ha)
  | .two a b, _, _, ⟨x, y, rfl, l1, l2⟩, h => by
    cases h with
    | tup sq ha =>
      cases ha with
      | cons h1 t =>
        cases t with
        | cons h2 t =>
          cases t
          exact .tup (sqT_upd sq nt) (.cons (dp_upd nt a _ _ l1 h1) (.cons (dp_upd nt b _ _ l2 h2) .nil))
  | .three a b c, _, _, ⟨x, y, z, rfl, l1, l2, l3⟩, h => by
    cases h with
    | tup sq ha =>
      cases ha with
      | cons h1 t =>
        cases t with
        | cons h2 t =>
          cases t with
          | cons h3 t =>
            cases t
            exact .tup (sqT_upd sq nt) (.cons (dp_upd nt a _ _ l1 h1) (.cons (dp_upd nt b _ _ l2 h2) (.cons (dp_upd nt c _ _ l3 h3) .nil)))
theorem no_tup_lst {H : Hp} {D : Addr} {xs : List V} (h : H D = some (.lst xs)) : ∀ zs, ¬ Rd H D (.tup zs) := fun zs r => by
  rcases r with r | ⟨o, r⟩ <;> rw [h] at r <;> cases r
theorem no_tup_frz {H : Hp} {D : Addr} {o : Obj} {kvs : List (Key × V)} (h : H D = some (.frz o (.dK kvs))) : ∀ zs, ¬ Rd H D (.tup zs) := fun zs r => by
  rcases r with r | ⟨o', r⟩ <;> rw [h] at r <;> cases r
theorem no_tup_dk {H : Hp} {D : Addr} {kvs : List (Key × V)} (h : H D = some (.dK kvs)) : ∀ zs, ¬ Rd H D (.tup zs) := fun zs r => by
  rcases r with r | ⟨o', r⟩ <;> rw [h] at r <;> cases r
/-- a comprehension whose items are such data, known ahead -/
theorem lc_like {K : PySem.W.Frag} {J : It} {n : Nat} {G : Hp → Prop} {Y : Nat → Hp → V → Hp → Prop} (w : Walk J n G Y) {s : Shp} {g : TG} {te : TE} {vs : List Nat} {σ : L2.St} {H1 : Hp} {D : Addr} {Qd : Hp → Prop} (ds : List PyData) (hn : ds.length = n) (few : n < sizeLine) (nD : H1 D = none)
    (hG : ∀ H, Same H1 H → G H) (hY : ∀ i H x H', Y i H x H' → Same H H') (like : ∀ d ∈ ds, Like s d)
    (turn : ∀ i x H H' d, i < n → ds[i]? = some d → Same H1 H → Y i H x H' → ∀ R : V → Hp → Prop, (∀ v H4, Same H' H4 → Dp K H4 v d → R v H4) → g x (wipe σ vs) H' fun σ2 H2 => wipe σ2 vs = wipe σ vs ∧ te σ2 H2 R)
    (mono : ∀ x H' (A B : L2.St → Hp → Prop), (∀ σ2 H2, A σ2 H2 → B σ2 H2) → g x (wipe σ vs) H' A → g x (wipe σ vs) H' B)
    (after : ∀ H xs, Same H1 H → H D = some (.lst xs) → DpAll K H xs ds → Qd H) :
    ∃ W : Nat → Nat → Hp → Prop, (∃ m, W 0 m (upd H1 D (.lst []))) ∧ ∀ i m H, W i m H →
      (J.stop i H ∧ Qd H) ∨ (J.go i H ∧ ∃ Nx : Hp → Prop, (∀ H', Nx H' → ∃ m', m' < m ∧ W (i + 1) m' H') ∧ ∀ x H', J.yld i H x H' → g x (wipe σ vs) H' fun σ2 H2 => wipe σ2 vs = wipe σ vs ∧ tYes σ2 H2 fun b H3 =>
        if b = true then te σ2 H3 fun y H4 => ∃ acc, H4 D = some (.lst acc) ∧ acc.length < sizeLine ∧ Nx (upd H4 D (.lst (acc ++ [y]))) else Nx H3) := by
  refine lc_it w (fun i H => Same H1 H ∧ ∃ acc, H D = some (.lst acc) ∧ DpAll K H acc (ds.take i)) ⟨same_new nD, [], upd_same, .nil⟩ (fun i H _ p => hG H p.1) (fun i x H H' hi p y => ?_) fun H p => ?_
  · obtain ⟨sm, acc, eD, al⟩ := p
    have hd : ds[i]? = some ds[i] := List.getElem?_eq_getElem (by omega)
    refine mono x H' _ _ (fun σ2 H2 z => ⟨z.1, z.2⟩) (turn i x H H' _ hi hd sm y (fun y H4 => ∃ acc, H4 D = some (.lst acc) ∧ acc.length < sizeLine ∧ Same H1 (upd H4 D (.lst (acc ++ [y]))) ∧ ∃ ac2, upd H4 D (.lst (acc ++ [y])) D = some (.lst ac2) ∧ DpAll K (upd H4 D (.lst (acc ++ [y]))) ac2 (ds.take (i + 1))) fun v H4 s4 dv => ?_)
    have s' := (hY _ _ _ _ y).trans s4
    have e4 := s' _ _ eD
    have nt := no_tup_lst e4
    have la := dpAll_len al
    refine ⟨acc, e4, ?_, same_upd (sm.trans s') nD, acc ++ [v], upd_same, ?_⟩
    · rw [la, List.length_take]
      omega
    · rw [take_next hd]
      exact dpAll_app (dpAll_upd (dp_upd nt s) (fun d hd => like d (List.mem_of_mem_take hd)) (dpAll_same s' _ _ al)) (.cons (dp_upd nt s _ _ (like _ (List.mem_of_getElem? hd)) dv) .nil)
  · obtain ⟨sm, acc, eD, al⟩ := p
    rw [← hn, List.take_length] at al
    exact after H acc sm eD al
end DQ

set_option Elab.async false
set_option linter.all false
set_option maxRecDepth 100000
set_option maxHeartbeats 4000000
namespace DQ
open PySem PySem.Spec PyProof.Rows L2
abbrev sPlaces : Stmt := topS 41
abbrev sAtoms : Stmt := topS 42
abbrev NAt : List Str := ["table", "columns", "row", "item", "firsts", "marks", "at", "links"]
/-- the scope of the columns' block -/
abbrev scL : Scope := { kind := .function, names := [(".0", .local), ("at", .cell), ("tuple", .globalImplicit), ("row", .cell), ("table", .cell)], isGenerator := false, isCoroutine := false }
theorem scPlaces : FnScope ["row", "item", "place", "other"] ["row", "item"] (defScope sPlaces) := ⟨rfl, rfl, rfl, by decide +kernel, rfl, by decide +kernel, by decide +kernel⟩
theorem scAtoms : FnScope NAt ["table", "columns", "row"] (defScope sAtoms) := ⟨rfl, rfl, rfl, by decide +kernel, rfl, by decide +kernel, by decide +kernel⟩
theorem dp_rowI {K : PySem.W.Frag} {H : Hp} {p : Addr} {ns : List Int} (h : SqT K H p (ns.map V.int)) : Dp K H (.ref p) (rowI ns) := .tup h (dp_intsL ns)
/-- the table stands at d, known or not -/
def TabRd (H : Hp) (d : Addr) (T : Tab) : Prop := ∃ kvs ft fb, Rd H d (.dK kvs) ∧ TabAt H T kvs ft fb
theorem rd_same {H H' : Hp} {a : Addr} {u : HO} (r : Rd H a u) (s : Same H H') : Rd H' a u := r.elim (fun h => .inl (s _ _ h)) fun ⟨o, h⟩ => .inr ⟨o, s _ _ h⟩
theorem TabRd.same {H H' : Hp} {d : Addr} {T : Tab} (R : TabRd H d T) (s : Same H H') : TabRd H' d T := by
  obtain ⟨kvs, ft, fb, r, t⟩ := R
  exact ⟨kvs, ft, fb, rd_same r s, t.same s⟩
/-- table[item] -/
theorem tab_get {H : Hp} {d : Addr} {T : Tab} (R : TabRd H d T) {i : Int} (hi : i ∈ T.items) : ∃ t b : Addr, DGet H d (.int i) (some (.ref t)) ∧ H t = some (.tup (.ref b :: (T.ends i).map V.int)) ∧ H b = some (.tup ((T.bits i).map V.int)) := by
  obtain ⟨kvs, ft, fb, r, t⟩ := R
  refine ⟨ft i, fb i, ?_, t.at_ i hi, t.bit i hi⟩
  have e : valV kvs (.inl i) = some (.ref (ft i)) := by rw [t.eq]; exact rows_get hi
  exact .inl ⟨kvs, .inl i, r, rfl, e.symm⟩
section
variable {P : Program} {w : World} {K : PySem.W.Frag} {mg : Str → Option Value} {base : Heap}
def spPlaces (K : PySem.W.Frag) : Sp := fun vs H Q _ => ∃ (r : Addr) (row : List Int) (e : Int), vs = [.ref r, .int e] ∧ row.length ≤ 100 ∧ SqT K H r (row.map V.int) ∧ ∀ p H', Same H H' → Dp K H' (.ref p) (rowI (placesI row e)) → Q (.ref p) H'
theorem ok_places {f : Addr} {fd : FuncData} (F : Fun K "places_of" "places_of" sPlaces f fd) (mE : mg "enumerate" = none) (mT : mg "tuple" = none) : FnOk P w K mg base CX0 1 f fd ["row", "item"] (spPlaces K) := by
  refine F.ok scPlaces (fun vs H Q E h => ?_) (fun cdv A outer s H vs Q E hr h => ?_)
  · obtain ⟨_, _, _, rfl, _⟩ := h
    rfl
  obtain ⟨r, row, e, rfl, few, sq, q⟩ := h
  have nd := scPlaces.nd
  refine ⟨_, pss_one (ps_ret (pe_tupleOf (by rfl) mT (pe_lc (own := [("place", 2), ("other", 3)]) (g := gTup K 2 (gCons (gName 2) (gCons (gName 3) gNil))) rfl nd (pi_enumT (by rfl) mE (pa_cons (pv 0) pa_nil)) (blkOk_by (own := [("place", 2), ("other", 3)]) (N := ["row", "item", "place", "other"]) (sc := defScope sPlaces) (by decide +kernel)) (fun _ _ _ _ _ => pg_tup rfl (pgs_cons (pg_name (i := 2) nd rfl (Or.inl rfl)) (pgs_cons (pg_name (i := 3) nd rfl (Or.inl rfl)) pgs_nil)))
    (fun _ _ _ _ _ => pts_one (pt_cmpR op_eq (pv 3) (pv 1) (nomark _))) (fun _ _ _ _ _ => pv 2)))), ?_⟩
  refine ⟨_, rfl, r, _, rfl, sq, fun D nD => ?_⟩
  refine lc_opts (walk_enumT (K := K) (a := r) (xs := row.map V.int)) ((List.range row.length).map fun k : Nat => if decide (row[k]? = some e) = true then some (V.int (k : Int)) else none) (by simp) (Nat.lt_of_le_of_lt (show (row.map V.int).length ≤ 100 by rw [List.length_map]; exact few) (by decide)) nD (fun H' s' => DQ.Same.seqT s' sq)
    (fun j H' v H'' y => ?_) (fun j v H' H'' o hj ho s' y R N hR hN => ?_) fun H1 s1 e1 => ?_
  · obtain ⟨T, x, z, rfl, nT, rfl, _⟩ := y
    exact same_new nT
  · obtain ⟨T, x, z, rfl, nT, rfl, e1, e2⟩ := y
    injection e1 with e1
    subst e1
    obtain ⟨i, hi, rfl⟩ := at_map e2
    rw [List.length_map] at hj
    rw [List.getElem?_map, List.getElem?_range hj] at ho
    injection ho with ho
    refine ⟨T, _, rfl, .inl (.inl upd_same), rfl, .int (j : Nat), [.int i], rfl, .int i, [], rfl, rfl, rfl, _, rfl, _, rfl, rfl, _, rfl, ?_⟩
    have ei : row[j]? = some i := hi
    by_cases c : i = e
    · have ho : some (V.int (j : Int)) = o := by rw [← ho]; show _ = if _ then _ else _; rw [ei, c]; simp
      exact iteT' (by simp [c]) ⟨_, rfl, hR _ _ ho.symm fun _ _ h => h⟩
    · have ho : none = o := by rw [← ho]; show _ = if _ then _ else _; rw [ei]; simp [c]
      exact iteF' (by simp [c]) (hN ho.symm _ fun _ _ h => h)
  have ez : ((List.range row.length).map fun k : Nat => if decide (row[k]? = some e) = true then some (V.int (k : Int)) else none).filterMap id = (placesI row e).map V.int := by
    unfold placesI
    rw [List.filterMap_map, List.map_map]
    generalize List.range row.length = l
    induction l with
    | nil => rfl
    | cons k r ih =>
      by_cases c : decide (row[k]? = some e) = true
      · rw [List.filter_cons_of_pos (p := fun k => decide (row[k]? = some e)) c, List.filterMap_cons_some (b := V.int (k : Int)) (by show (if _ then _ else _) = _; rw [if_pos c]), ih]
        rfl
      · rw [List.filter_cons_of_neg (p := fun k => decide (row[k]? = some e)) c, List.filterMap_cons_none (by show (if _ then _ else _) = _; rw [if_neg c]), ih]
  rw [ez] at e1
  refine .inl ⟨D, _, rfl, SqL.of e1, fun p np => ?_⟩
  have g := same_new np (o := .tup ((placesI row e).map V.int))
  exact q p _ (s1.trans g) (dp_rowI (.inl (.inl upd_same)))
end
end DQ

set_option Elab.async false
set_option linter.all false
set_option maxRecDepth 100000
set_option maxHeartbeats 2000000
namespace DQ
open PySem PySem.Spec PyProof.Rows L2
/-! ### tuples made at run time whose object is known: their methods can be looked up -/
def TupO (o : Obj) : Prop := o.cls = .type "tuple" ∧ o.dict = none
def KTup (H : Hp) (p : Addr) (xs : List V) : Prop := ∃ o, TupO o ∧ H p = some (.frz o (.tup xs))
/-- a row of items: a tuple of whole numbers; where it is not empty its object is known -/
structure RowAt (K : PySem.W.Frag) (H : Hp) (p : Addr) (ns : List Int) : Prop where
  sq : SqT K H p (ns.map V.int)
  kt : ns ≠ [] → KTup H p (ns.map V.int)
theorem KTup.sq {K : PySem.W.Frag} {H : Hp} {p : Addr} {xs : List V} (h : KTup H p xs) : SqT K H p xs := by
  obtain ⟨o, _, e⟩ := h
  exact .inl (.inr ⟨o, e⟩)
theorem KTup.same {H H' : Hp} {p : Addr} {xs : List V} (h : KTup H p xs) (s : Same H H') : KTup H' p xs := by
  obtain ⟨o, t, e⟩ := h
  exact ⟨o, t, s _ _ e⟩
theorem RowAt.of {K : PySem.W.Frag} {H : Hp} {p : Addr} {ns : List Int} (h : KTup H p (ns.map V.int)) : RowAt K H p ns := ⟨h.sq, fun _ => h⟩
theorem RowAt.same {K : PySem.W.Frag} {H H' : Hp} {p : Addr} {ns : List Int} (h : RowAt K H p ns) (s : Same H H') : RowAt K H' p ns := ⟨DQ.Same.seqT s h.sq, fun n => (h.kt n).same s⟩
def tTupF (t : TA) : TE := fun σ H Q => t σ H fun xs H1 => xs.length ≤ sizeLine ∧ ∀ p o, H1 p = none → TupO o → Q (.ref p) (upd H1 p (.frz o (.tup xs)))
section
variable {X : Cx} {e : Expr} {es : List Expr} {te : TE} {t : TA} {pos : Pos}
theorem pe_tupF {x1} (h : PA X es t) : PE X (.Tuple es x1 pos) (tTupF t) := ⟨fun pins s σ H Q I ask => by
  refine wpAny_Tuple_spliced (thn (h.run pos pins s σ H _ I ask) fun us u0 ⟨ys, G, J, rel, le, go⟩ => ⟨rel.length ▸ le, ?_⟩)
  let ob : Obj := { cls := .type "tuple", data := .seq us.toArray }
  have at_ := Heap.get?_push_size (o := ob) u0.heap rfl
  have ok : ObjOk X.prog X.w (upd G u0.heap.objs.size (.frz ob (.tup ys))) (u0.heap.push ob) u0.heap.objs.size (.frz ob (.tup ys)) := ⟨at_, le, us, rel, ⟨_, at_, rfl, _, rfl⟩⟩
  exact ⟨.ref u0.heap.objs.size, _, J.laid (t' := u0.toks) (fun c o q => Heap.get?_push_of_some _ q) (Nat.le_refl _) ok, rfl, go _ ob (J.hok.fresh (Nat.le_refl _)) ⟨rfl, rfl⟩⟩⟩
end
def kTupF (K : PySem.W.Frag) (x : V) (H : Hp) (Q : VK) : Prop := ∃ p xs, x = .ref p ∧ SqL K H p xs ∧ ∀ q o, H q = none → TupO o → Q (.ref q) (upd H q (.frz o (.tup xs)))
section
variable {X : Cx} {a : Expr} {ta : TE}
theorem rl_tupF {pins : List (Addr × Obj)} {u : Shared} {σ : L2.St} {G : Hp} {y : V} {b : Value} {Q : VK} (J : Inv X pins σ G u) (rel : RelV y b) (ask : kTupF X.K y G Q) : wpAny (model X.prog X.w) X.A (call (.type "tuple") [b]) (EP X pins σ Q) X.xe u := by
  obtain ⟨p, ys, rfl, sq, go⟩ := ask
  cases (show b = .ref p from rel)
  obtain ⟨us, each, isL, le⟩ := J.list sq
  refine call_tuple_list isL.isList (fun k keep => ?_) (by rw [List.size_toArray, ← each.length]; exact le)
  let ob : Obj := { cls := .type "tuple", data := .seq us.toArray }
  have at_ := Heap.get?_push_size (o := ob) k rfl
  have J1 : Inv X pins σ G { u with heap := k } := J.kept (t' := u.toks) keep
  have ok : ObjOk X.prog X.w (upd G k.objs.size (.frz ob (.tup ys))) (k.push ob) k.objs.size (.frz ob (.tup ys)) := ⟨at_, le, us, each, IsTup.new _ _⟩
  exact ⟨.ref k.objs.size, _, J1.laid (t' := u.toks) (fun c o q => Heap.get?_push_of_some _ q) (Nat.le_refl _) ok, rfl, go _ ob (J1.hok.fresh (Nat.le_refl _)) ⟨rfl, rfl⟩⟩
theorem pe_tupleF {p pos : Pos} (hg : Gl X "tuple") (hm : X.mg "tuple" = none) (ha : PE X a ta) (na : starEach [a] X.env = (false, eval a X.env) :: starEach [] X.env := by rfl) :
    PE X (.Call (.Name "tuple" p) [a] [] pos) (tThen ta (kTupF X.K)) := by
  refine ⟨fun pins s σ H Q I h => ?_⟩
  exact Call_ (ld_blt I hg hm boot_tuple (PyProof.Rows.callWith_type1 (one_arg ha I h (fun _ _ _ _ J rel go => rl_tupF J rel go) na) na))
end
/-- a part of a tuple, not the whole -/
def rSlF (K : PySem.W.Frag) : V → Option Int → Option Int → Hp → VK → Prop := fun x lo hi H Q => ∃ a xs, x = .ref a ∧ SqT K H a xs ∧
  ¬ (HT.sIx xs.length 0 lo = 0 ∧ HT.sIx xs.length xs.length hi = xs.length) ∧ ∀ p o, H p = none → TupO o → Q (.ref p) (upd H p (.frz o (.tup (cutV xs lo hi))))
theorem sl_tupF {X : Cx} : SlR X (rSlF X.K) := fun pins u σ G y b vl vu lo hi cut Q J rel part pl pu ask => by
  obtain ⟨c, ys, rfl, sq, proper, go⟩ := ask
  cases (show b = .ref c from rel)
  obtain ⟨us, each, isT, le⟩ := J.tuple sq
  have same : us.toArray.size = ys.length := by rw [List.size_toArray, each.length]
  refine ⟨"tuple", _, PyProof.Rows.slot_tuple_getitem.lookup, isT.typeIs, HT.getItem_tuple_cut isT part pl pu (same ▸ proper) ?_ (same ▸ le)⟩
  rw [same]
  let ob : Obj := { cls := .type "tuple", data := .seq (List.take (HT.sIx ys.length ys.length hi - HT.sIx ys.length 0 lo) (List.drop (HT.sIx ys.length 0 lo) us.toArray.toList)).toArray }
  have ok : ObjOk X.prog X.w (upd G u.heap.objs.size (.frz ob (.tup (cutV ys lo hi)))) (u.heap.push ob) u.heap.objs.size (.frz ob (.tup (cutV ys lo hi))) :=
    ⟨Heap.get?_push_size _ rfl, Nat.le_trans (cutV_length ys lo hi) le, _, (each.drop (HT.sIx ys.length 0 lo)).take (HT.sIx ys.length ys.length hi - HT.sIx ys.length 0 lo), IsTup.new _ _⟩
  exact ⟨.ref u.heap.objs.size, _, J.laid (t' := u.toks) (fun c o q => Heap.get?_push_of_some _ q) (Nat.le_refl _) ok, rfl, go _ ob (J.hok.fresh (Nat.le_refl _)) ⟨rfl, rfl⟩⟩
/-- t.index(i) -/
def tIdx (K : PySem.W.Frag) (to : TE) (t : TA) : TE := fun σ H Q => to σ H fun x H1 => (∃ p xs, x = .ref p ∧ KTup H1 p xs) ∧ t σ H1 fun ys H2 => rIdxI K x ys H2 Q
theorem pe_idx {X : Cx} {o e : Expr} {to : TE} {t : TA} {apos cpos : Pos} (ho : PE X o to) (ha : PA X [e] t)
    (base_ : attributeBase o "index" X.env (eval o X.env) = eval o X.env := by rfl) (row_ : (apos.endLine == cpos.line) = true := by rfl) (one : starEach [e] X.env = [(false, eval e X.env)] := by rfl) :
    PE X (.Call (.Attribute o "index" apos) [e] [] cpos) (tIdx X.K to t) := ⟨fun pins u σ G Q I ask => by
  refine wpAny_Call_method_late base_ (by rw [one]; rfl) row_ rfl (thn (ho.run pins u σ G _ I ask) fun b u1 ⟨y, G1, J, rel, known, rest⟩ => ?_)
  obtain ⟨p, ys, rfl, ob, ⟨isC, noD⟩, at_⟩ := known
  cases (show b = Value.ref p from rel)
  have got := (J.hok p _ at_).1
  refine ⟨"tuple", "tuple.index", PySem.F.plainAttrs_tuple, PySem.F.slot_tuple_index, PySem.F.type_tuple_index, ⟨ob, got, isC⟩, fun a ea => by cases ea; exact ⟨ob, got, noD⟩, ?_⟩
  have args := ha.run cpos pins u1 σ G1 _ J rest
  rw [one] at args ⊢
  exact Calls.callWith_builtin rfl (Calls.evalArgs_plain (thn args fun us u2 ⟨ys, G2, J2, each, go⟩ => mt_idxI pins u2 σ G2 _ ys _ us Q J2 (show RelV (.ref p) (.ref p) from rfl) each go))⟩
end DQ

set_option Elab.async false
set_option linter.all false
set_option maxRecDepth 100000
set_option maxHeartbeats 4000000
namespace DQ
open PySem PySem.Spec PyProof.Rows L2
section
variable {P : Program} {w : World} {K : PySem.W.Frag} {mg : Str → Option Value} {base : Heap}
def spAtoms (K : PySem.W.Frag) : Sp := fun vs H Q _ => ∃ (d r : Addr) (T : Tab) (cols : Nat) (row : List Int), vs = [.ref d, .int (cols : Nat), .ref r] ∧ cols ≤ 10 ∧ row.length ≤ 100 ∧ TabRd H d T ∧ RowAt K H r row ∧ (∀ i ∈ row, i ∈ T.items) ∧ (∀ i ∈ T.items, (T.ends i).length = 2 * cols) ∧ ∀ p H', Same H H' → Dp K H' (.ref p) (atomsD T cols row) → Q (.ref p) H'
theorem ok_atoms {f fP : Addr} {fd dP : FuncData} (F : Fun K "atoms_at" "atoms_at" sAtoms f fd) (GP : FnOk P w K mg base CX0 1 fP dP ["row", "item"] (spPlaces K)) (bP : Binds K dP ["row", "item"] []) (kP : PySem.W.keepIn K (.ref fP) = true) (mP : mg "places_of" = some (.ref fP))
    (mT : mg "tuple" = none) (mRange : mg "range" = none) : FnOk P w K mg base CX0 2 f fd ["table", "columns", "row"] (spAtoms K) := by
  refine F.ok scAtoms (fun vs H Q E h => ?_) (fun cdv A outer s H vs Q E hr h => ?_)
  · obtain ⟨_, _, _, _, _, rfl, _⟩ := h
    rfl
  obtain ⟨d, r, T, cols, row, rfl, fc, few, tab, ra, inT, el, q⟩ := h
  have nd := scAtoms.nd
  have hu := room1 hr
  refine ⟨_, pss_cons (ps_setLc (i := 4) (own := [("item", 3)]) (g := gName 3) (tt := tYes) (te := tIdx K (tVar 2) (tCons (tVar 3) tNil)) rfl nd rfl rfl (sw_true rfl rfl rfl rfl) (pi_tup (pv 2)) (blkOk_by (own := [("item", 3)]) (N := NAt) (sc := defScope sAtoms) (by decide +kernel)) (fun _ _ _ _ _ => pg_name (i := 3) nd rfl (Or.inl rfl)) (fun _ _ _ _ _ => pts_nil)
      (fun _ _ _ _ _ => by exact pe_idx (pv 2) (pa_cons (pv 3) pa_nil)))
    (pss_cons (ps_setLc (i := 5) (own := [("item", 3)]) (g := gName 3) (tt := tYes) rfl nd rfl rfl (sw_true rfl rfl rfl rfl) (pi_tup (pv 2)) (blkOk_by (own := [("item", 3)]) (N := NAt) (sc := defScope sAtoms) (by decide +kernel)) (fun _ _ _ _ _ => pg_name (i := 3) nd rfl (Or.inl rfl)) (fun _ _ _ _ _ => pts_nil)
      (fun _ _ _ _ _ => pe_ix (r := rIxT K) ix_tup (pe_dget hu (pv 0) (pv 3) (fun _ _ => rfl)) pe_int (fun _ _ => rfl)))
    (pss_cons (ps_setLc (i := 7) (own := [("at", 6)]) (g := gName 6) (tt := tYes) (te := tThen (tLc (iTup K (tVar 2)) (gName 3) tYes (tCall (spPlaces K) [] E0 (tCons (tVar 2) (tCons (tOp (rIxT K) (tDGet (tVar 0) (tVar 3)) (tOp (rI0 fun i j => .int (i + j)) (tC (.int 1)) (tOp (rI CMul fun i j => .int (i * j)) (tC (.int 2)) (tVar 6)))) tNil))) [3]) (kTup K)) rfl nd rfl rfl (sw_true rfl rfl rfl rfl) (pi_range1 (by rfl) mRange (pa_cons (pv 1) pa_nil)) (blkOk_by (own := [("at", 6)]) (N := NAt) (sc := defScope sAtoms) (by decide +kernel)) (fun _ _ _ _ _ => pg_name (i := 6) nd rfl (Or.inr rfl)) (fun _ _ _ _ _ => pts_nil)
      (fun _ _ _ _ _ => by
        refine pe_tupleOf (by rfl) mT ?_
        refine pe_lc (own := [("item", 3)]) (g := gName 3) (tt := tYes) rfl nd ?_ (blkOk_by (own := [("item", 3)]) (N := NAt) (sc := scL) (by decide +kernel)) ?_ ?_ ?_
        · exact pi_tup (pv 2)
        · exact fun _ _ _ _ _ => pg_name (i := 3) nd rfl (Or.inl rfl)
        · exact fun _ _ _ _ _ => pts_nil
        · exact fun _ _ _ _ _ => pe_call GP (hr.mono (by decide)) rfl mP kP bP .nil pass0 (pa_cons (pv 2) (pa_cons (pe_ix (r := rIxT K) ix_tup (pe_dget hu (pv 0) (pv 3) (fun _ _ => rfl)) (pe_op op_add pe_int (pe_op op_mul pe_int (pv 6))) (fun _ _ => rfl)) pa_nil))))
    (pss_one (ps_ret (pe_tup (pa_cons (pe_tupleOf (by rfl) mT (pv 4)) (pa_cons (pe_tupleOf (by rfl) mT (pv 5)) (pa_cons (pe_tupleOf (by rfl) mT (pv 7)) pa_nil)))))))), ?_⟩
  have lr : (row.map V.int).length ≤ 100 := by rw [List.length_map]; exact few
  have sl : ∀ {n : Nat}, n ≤ 100 → n < sizeLine := fun h => Nat.lt_of_le_of_lt h (by decide)
  have sq := ra.sq
  refine ⟨_, rfl, r, rfl, ⟨_, sq⟩, fun D1 nD1 => ?_⟩
  refine lc_vals (walk_tup (K := K) (a := r) (xs := row.map V.int)) ((row.map (firstI row)).map V.int) (by simp) (sl lr) nD1 (fun H' s' => DQ.Same.seqT s' sq) (fun j H' v H'' y => by rw [y.1]; exact fun _ _ h => h) (fun j v H' H'' b hj hb s' y R hR => ?_) (fun H1 s1 e1 => ?_) (fun x σ H Q Q' mo h => mo _ _ h)
  · obtain ⟨rfl, hv⟩ := y
    obtain ⟨i, hi, rfl⟩ := at_map hv
    obtain ⟨z, hz, rfl⟩ := at_map hb
    obtain ⟨i', hi', rfl⟩ := at_map hz
    rw [hi] at hi'
    injection hi' with hi'
    subst hi'
    have im := List.mem_of_getElem? hi
    refine ⟨rfl, _, rfl, ⟨r, _, rfl, (ra.kt (List.ne_nil_of_mem im)).same s'⟩, _, rfl, r, row, i, rfl, rfl, DQ.Same.seqT s' sq, im, hR _ fun _ _ h => h⟩
  refine ⟨_, rfl, r, rfl, ⟨_, DQ.Same.seqT s1 sq⟩, fun D2 nD2 => ?_⟩
  refine lc_like (K := K) (walk_tup (K := K) (a := r) (xs := row.map V.int)) (s := .row .int) (row.map fun i => rowI (T.bits i)) (by simp) (sl lr) nD2 (fun H' s' => DQ.Same.seqT (s1.trans s') sq) (fun j H' v H'' y => by rw [y.1]; exact fun _ _ h => h) (fun d hd => by
    obtain ⟨i, _, rfl⟩ := List.mem_map.mp hd
    exact like_rowI _) (fun j v H' H'' b hj hb s' y R hR => ?_) (fun x H A B mo h => mo _ _ h) (fun H2 xs2 s2 e2 al2 => ?_)
  · obtain ⟨rfl, hv⟩ := y
    obtain ⟨i, hi, rfl⟩ := at_map hv
    obtain ⟨i', hi', rfl⟩ := at_map hb
    rw [hi] at hi'
    injection hi' with hi'
    subst hi'
    obtain ⟨t, b, g, ht, hb⟩ := tab_get (tab.same (s1.trans s')) (inT _ (List.mem_of_getElem? hi))
    refine ⟨rfl, _, rfl, _, rfl, d, _, rfl, g, t, _, 0, _, rfl, rfl, .inl (.inl ht), atI_nat (j := 0) rfl, hR _ _ (fun _ _ h => h) (dp_rowI (.inl (.inl hb)))⟩
  refine ⟨_, rfl, (cols : Int), rfl, by omega, by omega, fun D3 nD3 => ?_⟩
  refine lc_like (K := K) (walk_range (lo := 0) (n := ((cols : Nat) : Int).toNat)) (s := .row (.row .int)) ((List.range cols).map fun c => PyData.tuple (row.map fun i => rowI (placesI row (T.fwd c i)))) (by simp) (sl (by omega)) nD3 (fun H' s' => trivial) (fun j H' v H'' y => by rw [y.1]; exact fun _ _ h => h) (fun d hd => by
    obtain ⟨c, _, rfl⟩ := List.mem_map.mp hd
    exact like_map row fun i _ => like_rowI _) (fun c v H' H'' b hj hb s' y R hR => ?_) (fun x H A B mo h => mo _ _ h) (fun H3 xs3 s3 e3 al3 => ?_)
  · obtain ⟨rfl, rfl⟩ := y
    obtain ⟨c', hc', rfl⟩ := at_map hb
    rw [List.getElem?_range (by omega)] at hc'
    injection hc' with hc'
    subst hc'
    have s3 := (s1.trans s2).trans s'
    refine ⟨rfl, _, rfl, r, rfl, ⟨_, DQ.Same.seqT s3 sq⟩, fun D4 nD4 => ?_⟩
    refine lc_like (K := K) (walk_tup (K := K) (a := r) (xs := row.map V.int)) (s := .row .int) (row.map fun i => rowI (placesI row (T.fwd c i))) (by simp) (sl lr) nD4 (fun H' s' => DQ.Same.seqT (s3.trans s') sq) (fun j H' v H'' y => by rw [y.1]; exact fun _ _ h => h) (fun d hd => by
      obtain ⟨i, _, rfl⟩ := List.mem_map.mp hd
      exact like_rowI _) (fun j v H5 H6 b hj5 hb s5 y R4 hR4 => ?_) (fun x H A B mo h => mo _ _ h) (fun H4 xs4 s4 e4 al4 => ?_)
    · obtain ⟨rfl, hv⟩ := y
      obtain ⟨i, hi, rfl⟩ := at_map hv
      obtain ⟨i', hi', rfl⟩ := at_map hb
      rw [hi] at hi'
      injection hi' with hi'
      subst hi'
      have iT := inT _ (List.mem_of_getElem? hi)
      obtain ⟨t, b, g, ht, hb⟩ := tab_get (tab.same (s3.trans s5)) iT
      have lt : 2 * c < (T.ends i).length := by rw [el i iT]; omega
      have ev : atI (V.ref b :: (T.ends i).map V.int) (1 + 2 * (0 + (c : Int))) = some (.int (T.fwd c i)) := by
        refine at_of (j := 2 * c + 1) (by omega) ?_
        rw [List.getElem?_cons_succ, List.getElem?_map]
        unfold Tab.fwd
        rw [List.getElem?_eq_getElem lt]
        rfl
      refine ⟨rfl, _, rfl, _, rfl, _, rfl, d, _, rfl, g, _, rfl, _, _, rfl, rfl, .inl ⟨by decide, by decide⟩, _, _, rfl, rfl, t, _, _, _, rfl, rfl, .inl (.inl ht), ev, nil_read ?_⟩
      exact ⟨r, row, _, rfl, few, DQ.Same.seqT (s3.trans s5) sq, fun p H6 s6 dp => hR4 _ _ s6 dp⟩
    · refine .inl ⟨D4, _, rfl, SqL.of e4, fun p np => ?_⟩
      have g := same_new np (o := .tup xs4)
      exact hR _ _ (s4.trans g) (.tup (.inl (.inl upd_same)) (dpAll_same g _ _ al4))
  have t1 := (s2.trans s3) _ _ e1
  refine ⟨_, rfl, .inl ⟨D1, _, rfl, SqL.of t1, fun p1 n1 => ?_⟩⟩
  have g1 := same_new n1 (o := .tup ((row.map (firstI row)).map V.int))
  refine ⟨_, rfl, .inl ⟨D2, _, rfl, SqL.of ((s3.trans g1) _ _ e2), fun p2 n2 => ?_⟩⟩
  have g2 := same_new n2 (o := .tup xs2)
  refine ⟨_, rfl, .inl ⟨D3, _, rfl, SqL.of ((g1.trans g2) _ _ e3), fun p3 n3 => ?_⟩⟩
  have g3 := same_new n3 (o := .tup xs3)
  refine nil_read ⟨by simp; decide +kernel, fun p np => ?_⟩
  have g4 := same_new np (o := .tup [V.ref p1, V.ref p2, V.ref p3])
  refine q p _ ((((((s1.trans s2).trans s3).trans g1).trans g2).trans g3).trans g4) (.tup (.inl (.inl upd_same)) (.cons (dp_rowI (.inl (.inl ((g2.trans (g3.trans g4)) _ _ upd_same)))) (.cons (.tup (.inl (.inl ((g3.trans g4) _ _ upd_same))) (dpAll_same ((((s3.trans g1).trans g2).trans g3).trans g4) _ _ al2)) (.cons (.tup (.inl (.inl (g4 _ _ upd_same))) (dpAll_same (((g1.trans g2).trans g3).trans g4) _ _ al3)) .nil))))
end
end DQ

set_option Elab.async false
set_option linter.all false
set_option maxRecDepth 100000
set_option maxHeartbeats 2000000
namespace DQ
open PySem PySem.Spec PyProof.Rows L2
theorem op_neDK {X : Cx} {K : PySem.W.Frag} (hk : X.K = K) (hu : X.A.units + 65 < cLine) : OpR X (compareOp .NotEq) (rNeD K) := by
  subst hk
  exact op_neD (Nat.lt_of_succ_lt hu)
theorem pe_either {X : Cx} {e : Expr} {t u : TE} (h : PE X e t) (g : PE X e u) : PE X e (fun σ H Q => t σ H Q ∨ u σ H Q) := by
  refine ⟨fun pins s σ H Q I q => ?_⟩
  rcases q with q | q
  · exact h.run pins s σ H Q I q
  · exact g.run pins s σ H Q I q
def spNever : Sp := fun _ _ _ _ => False
/-- sorted(xs), the items data of one shape, at most 40 deep -/
def rSortD4 (K : PySem.W.Frag) : List V → Hp → VK → Prop := fun vs H Q => ∃ (a : Addr) (zs : List (V × PyData)), vs = [.ref a] ∧ SqL K H a (zs.map (·.1)) ∧ (∀ z ∈ zs, Dp K H z.1 z.2) ∧ PySem.W.AllAlike (zs.map fun z => z.2) ∧ PySem.W.Sortable (zs.map fun z => z.2) ∧
  (∀ z ∈ zs, z.2.depth ≤ 40) ∧ ∀ p, H p = none → Q (.ref p) (upd H p (.lst ((zs.mergeSort (PySem.W.dataLe false fun z => z.2)).map (·.1))))
theorem cr_sortD4 {X : Cx} (hu : X.A.units + 64 < cLine) : CallR X (.builtin "sorted") (rSortD4 X.K) := by
  intro pins s σ H vs us Q I r h
  obtain ⟨a, zs, rfl, hs, hd, al, so, dep, q⟩ := h
  obtain ⟨its, rv, hl, hz⟩ := I.list hs
  obtain ⟨u, rfl, ru⟩ := vals1 r
  obtain rfl : u = Value.ref a := ru
  have hz' : its.length ≤ sizeLine := by rw [← rv.length]; exact hz
  have hlen : zs.length = its.length := by rw [← rv.length, List.length_map]
  refine PySem.W.sorted_data (enc := fun z : V × PyData => z.2) hl.isList (vals_each rv) (each_reads (enc := fun z : PyData => z) I rv hd) al so (by rw [hlen]; exact hz') (fun z hz => by have := dep z hz; omega) fun out ho eo => ?_
  obtain ⟨c, hc⟩ := sortedAll_at s.heap its out.toArray
  have ro := each_vals eo
  have hn : H (s.heap.objs.size + 1) = none := I.hok.fresh (Nat.le_succ _)
  refine ⟨.ref (s.heap.objs.size + 1), _, I.laid (t' := s.toks) (o := .lst ((zs.mergeSort (PySem.W.dataLe false fun z => z.2)).map (·.1))) (fun _ _ => sortedAll_old) (Nat.le_succ _) ⟨?_, out, c, ro, hc⟩, rfl, q _ hn⟩
  rw [ro.length, ho, hlen]
  exact hz'
theorem dpAll_fst {K : PySem.W.Frag} {H : Hp} : ∀ {xs : List V} {ds : List PyData}, DpAll K H xs ds → ∀ z ∈ xs.zip ds, Dp K H z.1 z.2
  | _, _, .nil, z, h => by cases h
  | _, _, .cons a r, z, h => by
    rw [List.zip_cons_cons] at h
    rcases List.mem_cons.mp h with rfl | h
    · exact a
    · exact dpAll_fst r z h
theorem dpAll_zip {K : PySem.W.Frag} {H : Hp} : ∀ {zs : List (V × PyData)}, (∀ z ∈ zs, Dp K H z.1 z.2) → DpAll K H (zs.map (·.1)) (zs.map (·.2))
  | [], _ => .nil
  | z :: r, h => .cons (h z (List.mem_cons_self ..)) (dpAll_zip fun y hy => h y (List.mem_cons_of_mem _ hy))
theorem zip_fst {α β : Type} : ∀ {xs : List α} {ys : List β}, xs.length = ys.length → (xs.zip ys).map (·.1) = xs ∧ (xs.zip ys).map (·.2) = ys
  | [], [], _ => ⟨rfl, rfl⟩
  | x :: xs, y :: ys, h => by
    obtain ⟨a, b⟩ := zip_fst (xs := xs) (ys := ys) (by simpa using h)
    rw [List.zip_cons_cons]
    exact ⟨by rw [List.map_cons, a], by rw [List.map_cons, b]⟩
/-- a list of data of one shape, sorted -/
theorem sort_like {K : PySem.W.Frag} {H : Hp} {Q : VK} {a : Addr} {xs : List V} {ds : List PyData} {s : Shp} (hs : SqL K H a xs) (al : DpAll K H xs ds) (lk : ∀ d ∈ ds, Like s d) (hd : s.dep ≤ 40) (tu : ∀ d ∈ ds, ∃ x r, d = .tuple (x :: r)) (q : ∀ p ys, H p = none → DpAll K H ys (sortD ds) → Q (.ref p) (upd H p (.lst ys))) : rSortD4 K [.ref a] H Q := by
  have ln := dpAll_len al
  obtain ⟨e1, e2⟩ := zip_fst ln
  have e2' : (xs.zip ds).map (fun z => z.2) = ds := e2
  have lz : ∀ z ∈ xs.zip ds, Like s z.2 := fun z hz => lk _ (by rw [← e2]; exact List.mem_map.mpr ⟨z, hz, rfl⟩)
  refine ⟨a, xs.zip ds, rfl, by rw [e1]; exact hs, dpAll_fst al, ?_, ?_, fun z hz => Nat.le_trans (like_lay s _ (lz z hz)).2 hd, fun p np => ?_⟩
  · rw [e2']
    exact fun d hd e he => like_alike s d e (lk d hd) (lk e he)
  · rw [e2']
    exact .inl tu
  · have z := sort_snd (s := s) lz
    rw [e2'] at z
    refine q p _ np ?_
    rw [← z]
    exact dpAll_zip fun y hy => dpAll_fst al y ((List.mergeSort_perm _ _).mem_iff.mp hy)
theorem TabAt.upd {H : Hp} {T : Tab} {kvs : List (Key × V)} {f b : Int → Addr} {d : Addr} {o : HO} (R : TabAt H T kvs f b) (nt : ∀ xs, H d ≠ some (.tup xs)) : TabAt (upd H d o) T kvs f b :=
  ⟨R.eq, fun i h => by rw [upd_ne fun q => nt _ (by rw [← q]; exact R.at_ i h)]; exact R.at_ i h, fun i h => by rw [upd_ne fun q => nt _ (by rw [← q]; exact R.bit i h)]; exact R.bit i h⟩
theorem RowAt.upd {K : PySem.W.Frag} {H : Hp} {p d : Addr} {o : HO} {ns : List Int} (R : RowAt K H p ns) (nt : ∀ zs, ¬ Rd H d (.tup zs)) : RowAt K (upd H d o) p ns :=
  ⟨sqT_upd R.sq nt, fun n => by
    obtain ⟨ob, t, e⟩ := R.kt n
    exact ⟨ob, t, by rw [upd_ne fun q => nt _ (by rw [← q]; exact .inr ⟨ob, e⟩)]; exact e⟩⟩
/-- out of the lock -/
theorem same_lock {H H' : Hp} {d : Addr} {o : Obj} {u : HO} (h : H d = some u) (s : Same (upd H d (.frz o u)) H') : Same H (upd H' d u) := fun a v e => by
  by_cases c : a = d
  · rw [c] at e ⊢
    rw [h] at e
    cases e
    exact upd_same
  · rw [upd_ne c]
    exact s _ _ (by rw [upd_ne c]; exact e)
end DQ

set_option Elab.async false
set_option linter.all false
set_option maxRecDepth 100000
set_option maxHeartbeats 4000000
namespace DQ
open PySem PySem.Spec PyProof.Rows L2
abbrev sKind : Stmt := topS 43
abbrev NK : List Str := ["table", "columns", "row", "depth", "said", "item", "longer", "at", "other", "unlike"]
theorem scKind : FnScope NK ["table", "columns", "row", "depth"] (defScope sKind) := ⟨rfl, rfl, rfl, by decide +kernel, rfl, by decide +kernel, by decide +kernel⟩
theorem dp_at {K : PySem.W.Frag} {H : Hp} : ∀ {xs : List V} {ds : List PyData} {k : Nat} {v : V}, DpAll K H xs ds → xs[k]? = some v → ∃ d, ds[k]? = some d ∧ Dp K H v d
  | _, _, _, _, .nil, h => by simp at h
  | _, _, 0, _, .cons a r, h => by
    cases h
    exact ⟨_, rfl, a⟩
  | _, _, k + 1, _, .cons a r, h => by
    obtain ⟨d, e, q⟩ := dp_at (k := k) r (by simpa using h)
    exact ⟨d, by simpa using e, q⟩
theorem unlikes_vals {K : PySem.W.Frag} {H : Hp} {xs : List V} {ds : List PyData} (h : DpAll K H xs ds) : ∀ l : List Nat, (∀ k ∈ l, k < xs.length) →
    DpAll K H ((l.map fun k => if keepAt ds k = true then xs[k]? else none).filterMap _root_.id) (l.filterMap fun k => if keepAt ds k = true then ds[k]? else none)
  | [], _ => .nil
  | k :: l, lt => by
    have ih := unlikes_vals h l fun j hj => lt j (List.mem_cons_of_mem _ hj)
    have hk := lt k (List.mem_cons_self ..)
    have e1 : xs[k]? = some xs[k] := List.getElem?_eq_getElem hk
    obtain ⟨d, hd, dp⟩ := dp_at h e1
    by_cases c : keepAt ds k = true
    · rw [List.map_cons, List.filterMap_cons_some (b := xs[k]) (by rw [if_pos c, e1]; rfl), List.filterMap_cons_some (b := d) (by rw [if_pos c, hd])]
      exact .cons dp ih
    · rw [List.map_cons, List.filterMap_cons_none (by rw [if_neg c]; rfl), List.filterMap_cons_none (by rw [if_neg c])]
      exact ih
theorem unlikes_dp {K : PySem.W.Frag} {H : Hp} {xs : List V} {ds : List PyData} (h : DpAll K H xs ds) : DpAll K H (((List.range xs.length).map fun k => if keepAt ds k = true then xs[k]? else none).filterMap _root_.id) (unlikes ds) := by
  have z := unlikes_vals h (List.range xs.length) fun k hk => List.mem_range.mp hk
  have e : unlikes ds = (List.range xs.length).filterMap fun k => if keepAt ds k = true then ds[k]? else none := by
    unfold unlikes
    rw [dpAll_len h]
  rw [e]
  exact z
section
variable {P : Program} {w : World} {K : PySem.W.Frag} {mg : Str → Option Value} {base : Heap}
def spKind (K : PySem.W.Frag) (n : Nat) : Sp := fun vs H Q _ => ∃ (d r : Addr) (T : Tab) (cols : Nat) (row : List Int), vs = [.ref d, .int (cols : Nat), .ref r, .int (n : Nat)] ∧ cols ≤ 10 ∧ row.length + n ≤ 100 ∧ T.items.length ≤ 100 ∧ TabRd H d T ∧ RowAt K H r row ∧ (∀ i ∈ row, i ∈ T.items) ∧ (∀ i ∈ T.items, (T.ends i).length = 2 * cols) ∧ ∀ p H', Same H H' → Dp K H' (.ref p) (kindD T cols n row) → Q (.ref p) H'
def spIn (K : PySem.W.Frag) : Nat → Sp
  | 0 => spNever
  | n + 1 => spKind K n
abbrev PKd : List Str := ["table", "columns", "row", "depth"]
def teK (K : PySem.W.Frag) (n : Nat) : TE := tCall (spIn K n) [] E0 (tCons (tVar 0) (tCons (tVar 1) (tCons (tTupF (StX.tStar K (tVar 2) (tCons (tVar 5) tNil))) (tCons (tOp (rI0 fun i j => .int (i - j)) (tVar 3) (tC (.int 1))) tNil))))
abbrev tcK (K : PySem.W.Frag) (n : Nat) : TE := tLc (iKeys (tVar 0)) (gName 5) tYes (teK K n) [5]
theorem kind_tuple (T : Tab) (cols n : Nat) (row : List Int) : ∃ x r, kindD T cols n row = .tuple (x :: r) := by
  cases n <;> exact ⟨_, _, rfl⟩
theorem kind_step {n : Nat} {f fA : Addr} {fd dA : FuncData} (F : Fun K "kind_at" "kind_at" sKind f fd) (GA : FnOk P w K mg base CX0 2 fA dA ["table", "columns", "row"] (spAtoms K)) (bA : Binds K dA ["table", "columns", "row"] []) (kA : PySem.W.keepIn K (.ref fA) = true) (mA : mg "atoms_at" = some (.ref fA))
    (GI : FnOk P w K mg base CX0 (n + 2) f fd PKd (spIn K n)) (bI : Binds K fd PKd []) (kI : PySem.W.keepIn K (.ref f) = true) (mI : mg "kind_at" = some (.ref f))
    (mT : mg "tuple" = none) (mE : mg "enumerate" = none) (mS : mg "sorted" = none) (n4 : n ≤ 10) : FnOk P w K mg base CX0 (n + 3) f fd PKd (spKind K n) := by
  refine F.ok scKind (fun vs H Q E h => ?_) (fun cdv A outer s H vs Q E hr h => ?_)
  · obtain ⟨_, _, _, _, _, rfl, _⟩ := h
    rfl
  obtain ⟨d, r, T, cols, row, rfl, fc, few, fewT, tab, ra, inT, el, q⟩ := h
  have nd := scKind.nd
  refine ⟨_, pss_cons (ps_set (i := 4) nd rfl (.inl rfl) (pe_call GA (hr.mono (by omega)) rfl mA kA bA .nil pass0 (pa_cons (pv 0) (pa_cons (pv 1) (pa_cons (pv 2) pa_nil)))))
    (pss_cons (ps_if (pt_cmpR op_eq (pv 3) pe_int (nomark _)) (pss_one (ps_ret (pe_tup (pa_cons (pv 4) (pa_cons (pe_tup pa_nil) pa_nil))))) pss_nil)
    (pss_cons (ps_set (i := 6) nd rfl (.inr rfl) (pe_callB (cr_sortD4 hr.units) (by rfl) mS (by decide +kernel) (pa_cons (pe_either
      (pe_lock (pe_lc (own := [("item", 5)]) (g := gName 5) (tt := tYes) (te := teK K n) rfl nd (pi_keys (pv 0)) (blkOk_by (own := [("item", 5)]) (N := NK) (sc := defScope sKind) (by decide +kernel)) (fun _ _ _ _ _ => pg_name (i := 5) nd rfl (Or.inl rfl)) (fun _ _ _ _ _ => pts_nil)
        (fun _ _ _ _ _ => by exact pe_call GI (hr.mono (by omega)) rfl mI kI bI .nil pass0 (pa_cons (pv 0) (pa_cons (pv 1) (pa_cons (pe_tupF (pa_starK (K := K) rfl (pv 2) (pa_cons (pv 5) pa_nil))) (pa_cons (pe_op op_sub (pv 3) pe_int) pa_nil)))))))
      (pe_lc (own := [("item", 5)]) (g := gName 5) (tt := tYes) (te := teK K n) rfl nd (pi_keys (pv 0)) (blkOk_by (own := [("item", 5)]) (N := NK) (sc := defScope sKind) (by decide +kernel)) (fun _ _ _ _ _ => pg_name (i := 5) nd rfl (Or.inl rfl)) (fun _ _ _ _ _ => pts_nil)
        (fun _ _ _ _ _ => by exact pe_call GI (hr.mono (by omega)) rfl mI kI bI .nil pass0 (pa_cons (pv 0) (pa_cons (pv 1) (pa_cons (pe_tupF (pa_starK (K := K) rfl (pv 2) (pa_cons (pv 5) pa_nil))) (pa_cons (pe_op op_sub (pv 3) pe_int) pa_nil))))))) pa_nil)))
    (pss_cons (ps_setLc (i := 9) (own := [("at", 7), ("other", 8)]) (g := gTup K 2 (gCons (gName 7) (gCons (gName 8) gNil))) rfl nd rfl rfl (sw_true rfl rfl rfl rfl) (pi_enum (by rfl) mE (pa_cons (pv 6) pa_nil)) (blkOk_by (own := [("at", 7), ("other", 8)]) (N := NK) (sc := defScope sKind) (by decide +kernel)) (fun _ _ _ _ _ => pg_tup rfl (pgs_cons (pg_name (i := 7) nd rfl (Or.inl rfl)) (pgs_cons (pg_name (i := 8) nd rfl (Or.inl rfl)) pgs_nil)))
      (fun _ _ _ _ _ => pts_one (PW.pt (pw_or (pt_cmpR op_eq (pv 7) pe_int (nomark _)) (pw_or1 (pt_cmpR (r := rNeD K) (op_neDK (K := K) rfl (room65 hr)) (pv 8) (pe_ix (r := rIxL K) ix_list (pv 6) (pe_op op_sub (pv 7) pe_int) (fun _ _ => rfl)) (nomark _)))))) (fun _ _ _ _ _ => pv 8))
    (pss_one (ps_ret (pe_tup (pa_cons (pv 4) (pa_cons (pe_tupleOf (by rfl) mT (pv 9)) pa_nil)))))))), ?_⟩
  refine ⟨_, rfl, _, rfl, _, rfl, nil_read ⟨d, r, T, cols, row, rfl, fc, by omega, tab, ra, inT, el, fun p1 H1 s1 dp1 => ?_⟩⟩
  cases n with
  | zero =>
    refine ⟨_, rfl, rfl, _, rfl, iteT' (by decide) ?_⟩
    refine ⟨_, rfl, by decide, fun p2 n2 => nil_read ⟨by simp; decide +kernel, fun p n1 => ?_⟩⟩
    have g2 := same_new n2 (o := .tup [])
    have g := same_new n1 (o := .tup [V.ref p1, V.ref p2])
    exact q p _ ((s1.trans g2).trans g) (.tup (.inl (.inl upd_same)) (.cons (dp_same (g2.trans g) _ _ dp1) (.cons (.tup (.inl (.inl (g _ _ upd_same))) .nil) .nil)))
  | succ n =>
    refine ⟨_, rfl, rfl, _, rfl, iteF' (by simp; omega) ?_⟩
    have lkA := like_atoms T cols row
    have lkK : ∀ d ∈ (T.items.map fun i => kindD T cols n (row ++ [i])), Like (kindS n) d := fun d hd => by
      obtain ⟨i, _, rfl⟩ := List.mem_map.mp hd
      exact like_kind T cols n _
    have tuK : ∀ d ∈ (T.items.map fun i => kindD T cols n (row ++ [i])), ∃ x r, d = PyData.tuple (x :: r) := fun d hd => by
      obtain ⟨i, _, rfl⟩ := List.mem_map.mp hd
      exact kind_tuple T cols n _
    have dpk := dep_kind n
    have sl : ∀ {n : Nat}, n ≤ 100 → n < sizeLine := fun h => Nat.lt_of_le_of_lt h (by decide)
    have ed : ((n + 1 : Nat) : Int) - 1 = ((n : Nat) : Int) := by omega
    have comp : ∀ (H2 : Hp) (o : Obj) (kvs : List (Key × V)) (ft fb : Int → Addr) (Qv : VK), H2 d = some (.frz o (.dK kvs)) → TabAt H2 T kvs ft fb → RowAt K H2 r row → (∀ D H3 xs, Same H2 H3 → H3 D = some (.lst xs) → DpAll K H3 xs (T.items.map fun i => kindD T cols n (row ++ [i])) → Qv (.ref D) H3) →
        tcK K (n + 1) [some (.ref d), some (.int (cols : Nat)), some (.ref r), some (.int ((n + 1 : Nat) : Int)), some (.ref p1), none, none, none, none, none] H2 Qv := fun H2 o kvs ft fb Qv hd ta ra2 hq => by
      have ek := ta.eq
      have lk : kvs.length = T.items.length := by rw [ek, List.length_map]
      refine ⟨_, rfl, d, o, rfl, .inl ⟨kvs, hd, fun D nD => ?_⟩⟩
      refine lc_like (K := K) (walk_keys (d := d) (o := o) (kvs := kvs)) (s := kindS n) (T.items.map fun i => kindD T cols n (row ++ [i])) (by rw [List.length_map, lk]) (sl (by omega)) nD (fun H' s' => s' _ _ hd) (fun j H' v H'' y => by rw [y.1]; exact fun _ _ h => h) lkK (fun j v H' H'' b hj hb s' y R hR => ?_) (fun x H A B mo h => mo _ _ h) (fun H3 xs s3 e3 al3 => hq D H3 xs s3 e3 al3)
      obtain ⟨rfl, k, v', hk, rfl⟩ := y
      obtain ⟨i, hi, rfl⟩ := at_map hb
      rw [ek, List.getElem?_map, hi] at hk
      injection hk with hk
      injection hk with hk hv
      subst hk
      have iT := List.mem_of_getElem? hi
      have ra3 := ra2.same s'
      refine ⟨rfl, _, rfl, _, rfl, _, rfl, r, _, rfl, .inl ra3.sq, _, rfl, nil_read ⟨Nat.le_of_lt (sl (by simp; omega)), fun p o2 np to => ?_⟩⟩
      have g := same_new np (o := .frz o2 (.tup (row.map V.int ++ [V.int i])))
      refine ⟨_, rfl, _, _, rfl, rfl, nil_read ?_⟩
      have er : (row ++ [i]).map V.int = row.map V.int ++ [V.int i] := by simp
      refine ⟨d, p, T, cols, row ++ [i], ?_, fc, by simp; omega, fewT, ⟨kvs, ft, fb, .inr ⟨o, (s'.trans g) _ _ hd⟩, (ta.same s').same g⟩, .of ⟨o2, to, by rw [er]; exact upd_same⟩, fun x hx => ?_, el, fun p' H' s'' dp => hR _ _ (g.trans s'') dp⟩
      · show [V.ref d, V.int (cols : Nat), V.ref p, V.int (((n + 1 : Nat) : Int) - 1)] = _
        rw [ed]
      · rcases List.mem_append.mp hx with hx | hx
        · exact inT x hx
        · rw [List.mem_singleton.mp hx]; exact iT
    have both : ∀ Q2 : VK, (∀ (D : Addr) (H3 : Hp) (xs : List V), Same H1 H3 → H3 D = some (.lst xs) → DpAll K H3 xs (T.items.map fun i => kindD T cols n (row ++ [i])) → Dp K H3 (.ref p1) (atomsD T cols row) → Q2 (.ref D) H3) →
        (tLockE (tcK K (n + 1)) [some (.ref d), some (.int (cols : Nat)), some (.ref r), some (.int ((n + 1 : Nat) : Int)), some (.ref p1), none, none, none, none, none] H1 Q2 ∨ tcK K (n + 1) [some (.ref d), some (.int (cols : Nat)), some (.ref r), some (.int ((n + 1 : Nat) : Int)), some (.ref p1), none, none, none, none, none] H1 Q2) := fun Q2 hq => by
      obtain ⟨kvs, ft, fb, rd, ta⟩ := tab.same s1
      have ra1 := ra.same s1
      rcases rd with e | ⟨o, e⟩
      · have nt := no_tup_dk e
        have nt2 : ∀ xs, H1 d ≠ some (.tup xs) := fun xs z => nt xs (.inl z)
        refine .inl ⟨d, _, e, trivial, fun od => comp _ od kvs ft fb _ upd_same (ta.upd nt2) (ra1.upd nt) fun D H3 xs s3 e3 al3 => ?_⟩
        have ef := s3 _ _ upd_same
        have nf := no_tup_frz ef
        have nD : D ≠ d := fun z => by rw [z, ef] at e3; cases e3
        refine ⟨ef, hq D _ xs (same_lock e s3) (by rw [upd_ne nD]; exact e3) (dpAll_upd (fun d' v l h => dp_upd nf _ d' v l h) lkK al3) ?_⟩
        exact dp_same (same_lock e s3) _ _ dp1
      · exact .inr (comp _ o kvs ft fb _ e ta ra1 fun D H3 xs s3 e3 al3 => hq D H3 xs s3 e3 al3 (dp_same s3 _ _ dp1))
    refine both _ fun D H3 xs s3 e3 al3 dp3 => ?_
    have la := dpAll_len al3
    have lx : xs.length ≤ 100 := by rw [la, List.length_map]; exact fewT
    refine nil_read (sort_like (K := K) (s := kindS n) (SqL.of e3) al3 lkK (by omega) tuK fun p2 ys n2 al4 => ?_)
    have g2 := same_new n2 (o := .lst ys)
    have ly := dpAll_len al4
    have ly2 : ys.length ≤ 100 := by
      rw [ly, (sortD_perm _).length_eq, List.length_map]
      exact fewT
    have lkS : ∀ d ∈ sortD (T.items.map fun i => kindD T cols n (row ++ [i])), Like (kindS n) d := fun d hd => lkK d ((sortD_perm _).mem_iff.mp hd)
    have fin : ∀ p H', Same H H' → Dp K H' (.ref p) (.tuple [atomsD T cols row, .tuple (unlikes (sortD (T.items.map fun i => kindD T cols n (row ++ [i]))))]) → Q (.ref p) H' := q
    generalize sortD (T.items.map fun i => kindD T cols n (row ++ [i])) = es at al4 ly lkS fin
    have s4 : Same H1 (L2.upd H3 p2 (.lst ys)) := s3.trans g2
    have dp4 := dp_same g2 _ _ dp3
    have e4 : L2.upd H3 p2 (.lst ys) p2 = some (.lst ys) := upd_same
    have al5 := dpAll_same g2 _ _ al4
    generalize L2.upd H3 p2 (.lst ys) = H4 at s4 dp4 e4 al5
    refine ⟨_, rfl, p2, ys, rfl, SqL.of e4, fun D2 nD2 => ?_⟩
    refine lc_opts (walk_enum (K := K) (a := p2) (xs := ys)) ((List.range ys.length).map fun k => if keepAt es k = true then ys[k]? else none) (by simp) (sl ly2) nD2 (fun H' s' => SqL.of (s' _ _ e4)) (fun j H' v H'' y => ?_) (fun j v H' H'' o hj ho s' y R N hR hN => ?_) fun H5 s5 e5 => ?_
    · obtain ⟨T, x, z, rfl, nT, rfl, _⟩ := y
      exact same_new nT
    · obtain ⟨T', x, z, rfl, nT, rfl, e1, e2⟩ := y
      injection e1 with e1
      subst e1
      rw [List.getElem?_map, List.getElem?_range hj] at ho
      injection ho with ho
      replace ho : (if keepAt es j = true then ys[j]? else none) = o := ho
      replace e2 : ys[j]? = some z := e2
      refine ⟨T', _, rfl, .inl (.inl upd_same), rfl, .int (j : Nat), [z], rfl, z, [], rfl, rfl, rfl, _, rfl, rfl, _, rfl, ?_⟩
      have g' := same_new nT (o := .tup [.int (j : Nat), z])
      by_cases c : j = 0
      · have ka : keepAt es j = true := by simp [keepAt, c]
        rw [if_pos ka, e2] at ho
        refine iteT' (by simp [c]) (iteT' rfl ⟨_, rfl, hR _ _ ho.symm fun _ _ h => h⟩)
      · refine iteF' (by simp; omega) ?_
        have lt1 : j - 1 < ys.length := by omega
        have ey : ys[j - 1]? = some ys[j - 1] := List.getElem?_eq_getElem lt1
        obtain ⟨d1, hd1, dpj⟩ := dp_at (dpAll_same (s'.trans g') _ _ al5) e2
        obtain ⟨d2, hd2, dpk'⟩ := dp_at (dpAll_same (s'.trans g') _ _ al5) ey
        have l1 := lkS _ (List.mem_of_getElem? hd1)
        have l2 := lkS _ (List.mem_of_getElem? hd2)
        refine ⟨_, rfl, _, rfl, _, rfl, _, _, rfl, rfl, p2, ys, _, _, rfl, rfl, SqL.of ((s'.trans g') _ _ e4), at_of (j := j - 1) (by omega) ey, d1, d2, dpj, dpk', like_shaped l1 (by omega), like_shaped l2 (by omega), _, rfl, ?_⟩
        have ka : keepAt es j = !(PyData.eqv d1 d2) := by
          unfold keepAt
          rw [hd1, hd2]
          simp [c]
        rw [ka] at ho
        by_cases b : (!(PyData.eqv d1 d2)) = true
        · rw [if_pos b, e2] at ho
          exact iteT' b ⟨_, rfl, hR _ _ ho.symm fun _ _ h => h⟩
        · rw [if_neg b] at ho
          exact iteF' (by simpa using b) (hN ho.symm _ fun _ _ h => h)
    · have un := unlikes_dp (dpAll_same s5 _ _ al5)
      refine ⟨_, rfl, _, rfl, .inl ⟨D2, _, rfl, SqL.of e5, fun p3 n3 => nil_read ⟨by simp; decide +kernel, fun p np => ?_⟩⟩⟩
      have g3 := same_new n3 (o := .tup (((List.range ys.length).map fun k => if keepAt es k = true then ys[k]? else none).filterMap _root_.id))
      have g5 := same_new np (o := .tup [V.ref p1, V.ref p3])
      refine fin p _ ((((s1.trans s4).trans s5).trans g3).trans g5) (.tup (.inl (.inl upd_same)) (.cons (dp_same ((s5.trans g3).trans g5) _ _ dp4) (.cons (.tup (.inl (.inl (g5 _ _ upd_same))) (dpAll_same (g3.trans g5) _ _ un)) .nil)))
theorem ok_never {f : Addr} {fd : FuncData} {k : Nat} (F : Fun K "kind_at" "kind_at" sKind f fd) : FnOk P w K mg base CX0 (k + 1) f fd PKd spNever := F.ok scKind (fun _ _ _ _ h => h.elim) (fun _ _ _ _ _ _ _ _ _ h => h.elim)
theorem ok_kind {f fA : Addr} {fd dA : FuncData} (F : Fun K "kind_at" "kind_at" sKind f fd) (GA : FnOk P w K mg base CX0 2 fA dA ["table", "columns", "row"] (spAtoms K)) (bA : Binds K dA ["table", "columns", "row"] []) (kA : PySem.W.keepIn K (.ref fA) = true) (mA : mg "atoms_at" = some (.ref fA))
    (bI : Binds K fd PKd []) (kI : PySem.W.keepIn K (.ref f) = true) (mI : mg "kind_at" = some (.ref f)) (mT : mg "tuple" = none) (mE : mg "enumerate" = none) (mS : mg "sorted" = none) : ∀ n : Nat, n ≤ 10 → FnOk P w K mg base CX0 (n + 3) f fd PKd (spKind K n)
  | 0, h => kind_step F GA bA kA mA (ok_never F) bI kI mI mT mE mS h
  | n + 1, h => kind_step F GA bA kA mA (ok_kind F GA bA kA mA bI kI mI mT mE mS n (by omega)) bI kI mI mT mE mS h
end
end DQ

set_option Elab.async false
set_option linter.all false
set_option maxRecDepth 100000
set_option maxHeartbeats 4000000
namespace DQ
open PySem PySem.Spec PyProof.Rows L2
abbrev sInit (i : Nat) : Stmt := inClass (topS i) 0
/-- what the written part says of an own error class with a field -/
structure ErrAt (K : PySem.W.Frag) (mg : Str → Option Value) (name qual : Str) (st : Stmt) (C : Addr) : Prop where
  g : mg name = some (.ref C)
  T : OexC K C
  xf : XfC K C
  noV : PySem.W.findIn K (.ref C) "value" = some none
  er : ErrC K C
  eq : PySem.W.findIn K (.ref C) "__eq__" = some (some (.builtin "object.__eq__"))
  init : ∃ (fI : Addr) (fd : FuncData), PySem.W.findIn K (.ref C) "__init__" = some (some (.ref fI)) ∧ PySem.W.typeIn K (.ref fI) = some (.type "function") ∧ FunD K "__init__" qual (defArgs st) (defBody st) (defScope st) [V.non] [] fI fd
def spInit (K : PySem.W.Frag) : Sp := fun vs H Q _ => ∃ (a C : Addr) (v : V), vs = [.ref a, v] ∧ OexC K C ∧ PySem.W.findIn K (.ref C) "value" = some none ∧ H a = some (exo a C none) ∧ ∀ d, H d = none → d ≠ a → Q .non (upd (upd H d (exd d [("value", v)])) a (exo a C (some d)))
def iA (p1 p2 p3 : Pos) : Arguments := { posonlyargs := [], args := [{ arg := "self", annotation := none, pos := p1 }, { arg := "value", annotation := none, pos := p2 }], vararg := none, kwonlyargs := [], kw_defaults := [], kwarg := none, defaults := [.Constant .none 0 p3] }
def iB (q1 q2 q3 q4 : Pos) : List Stmt := [.Assign [.Attribute (.Name "self" q1) "value" q2] (.Name "value" q3) q4]
def iS : Scope := { kind := .function, names := [("self", .local), ("value", .local)], isGenerator := false, isCoroutine := false, more := [] }
/-- the one text that all these __init__ have -/
def InitText (st : Stmt) : Prop := ∃ p1 p2 p3 q1 q2 q3 q4 : Pos, defArgs st = iA p1 p2 p3 ∧ defBody st = iB q1 q2 q3 q4 ∧ defScope st = iS
section
variable {P : Program} {w : World} {K : PySem.W.Frag} {mg : Str → Option Value} {base : Heap} {st : Stmt} {qual : Str} {fI : Addr} {fd : FuncData}
theorem scInit : FnScope ["self", "value"] ["self", "value"] iS := ⟨rfl, rfl, rfl, by decide +kernel, rfl, by decide +kernel, by decide +kernel⟩
theorem ok_init (t : InitText st) (F : FunD K "__init__" qual (defArgs st) (defBody st) (defScope st) [V.non] [] fI fd) : FnOk P w K mg base CX0 1 fI fd ["self", "value"] (spInit K) := by
  obtain ⟨p1, p2, p3, q1, q2, q3, q4, e1, e2, e3⟩ := t
  rw [e1, e2, e3] at F
  refine F.ok scInit (fun vs H Q E h => ?_) (fun cdv A outer s H vs Q E hr h => ?_)
  · obtain ⟨a, C, v, rfl, _⟩ := h
    rfl
  obtain ⟨a, C, v, rfl, T, no, ea, q⟩ := h
  refine ⟨_, PSs.nox (pss_one (ps_ost (pv 0) (pv 1))), ?_⟩
  exact ⟨_, rfl, _, rfl, a, C, rfl, T, no, .inl ⟨ea, fun d hd ne => q d hd ne⟩⟩
theorem binds_two (t : InitText st) (F : FunD K "__init__" qual (defArgs st) (defBody st) (defScope st) [V.non] [] fI fd) : Binds K fd ["self", "value"] [] := by
  obtain ⟨p1, p2, p3, q1, q2, q3, q4, e1, e2, e3⟩ := t
  rw [e1, e2, e3] at F
  obtain ⟨ds, r, b⟩ := F.binds1 (ps := ["self", "value"]) 2 1 (by simp) rfl fun T kV doc pm an cdv ct us its l1 l2 => match us, l1, its, l2 with
    | [_, _], _, [_], _ => ⟨_, rfl, rfl⟩
  cases r
  exact b
theorem binds_one (t : InitText st) (F : FunD K "__init__" qual (defArgs st) (defBody st) (defScope st) [V.non] [] fI fd) : ∃ ds, Vals [V.non] ds ∧ Binds K fd ["self", "value"] ds := by
  obtain ⟨p1, p2, p3, q1, q2, q3, q4, e1, e2, e3⟩ := t
  rw [e1, e2, e3] at F
  obtain ⟨ds, r, b⟩ := F.binds1 (ps := ["self", "value"]) 1 0 (by simp) rfl fun T kV doc pm an cdv ct us its l1 l2 => match us, l1, its, l2 with
    | [_], _, [_], _ => ⟨_, rfl, rfl⟩
  exact ⟨ds, r, b⟩
theorem binds_kw (t : InitText st) (F : FunD K "__init__" qual (defArgs st) (defBody st) (defScope st) [V.non] [] fI fd) : KBn K fd ["self", "value"] 1 ["value"] (fun us ws => us ++ ws) (fun vs zs => vs ++ zs) := by
  obtain ⟨p1, p2, p3, q1, q2, q3, q4, e1, e2, e3⟩ := t
  rw [e1, e2, e3] at F
  obtain ⟨its, b⟩ := F.kbindsD (ps := ["self", "value"]) 1 ["value"] (fun us _ ws => us ++ ws) (by simp) (fun r1 _ r3 => r1.append r3) fun T kV doc pm an cdv ct us its ws l1 l2 l3 => match us, l1, its, l2, ws, l3 with
    | [_], _, [_], _, [_], _ => ⟨_, rfl, rfl⟩
  exact ⟨b.to, b.rel⟩
/-- a made error: at a, of the class at C, value in its field -/
def Made (H : Hp) (a C : Addr) (v : V) : Prop := ∃ d, a ≠ d ∧ H a = some (exo a C (some d)) ∧ H d = some (exd d [("value", v)])
theorem Made.same {H H' : Hp} {a C : Addr} {v : V} (m : Made H a C v) (s : Same H H') : Made H' a C v := by
  obtain ⟨d, ne, e1, e2⟩ := m
  exact ⟨d, ne, s _ _ e1, s _ _ e2⟩
end
theorem made_same {H1 : Hp} {a d C : Addr} {v : V} (ha : H1 a = none) (hd : upd H1 a (exo a C none) d = none) (ne : d ≠ a) : Same H1 (upd (upd (upd H1 a (exo a C none)) d (exd d [("value", v)])) a (exo a C (some d))) ∧ Made (upd (upd (upd H1 a (exo a C none)) d (exd d [("value", v)])) a (exo a C (some d))) a C v := by
  have hd1 : H1 d = none := by
    rw [upd_ne ne] at hd
    exact hd
  refine ⟨fun b o q => ?_, d, ne.symm, upd_same, ?_⟩
  · rw [upd_ne (ne_of_none q ha), upd_ne (ne_of_none q hd1), upd_ne (ne_of_none q ha)]
    exact q
  · rw [upd_ne ne, upd_same]
/-- what making an error asks, by what is wanted of it -/
theorem init_read {K : PySem.W.Frag} {C : Addr} {H1 : Hp} {v : V} {Q : VK} (T : OexC K C) (noV : PySem.W.findIn K (.ref C) "value" = some none) (h : ∀ a H2, Same H1 H2 → H1 a = none → Made H2 a C v → Q (.ref a) H2) :
    ∀ a, H1 a = none → spInit K [.ref a, v] (upd H1 a (exo a C none)) (fun v H2 => v = .non ∧ Q (.ref a) H2) (fun _ _ _ => False) := fun a ha =>
  ⟨a, C, v, rfl, T, noV, upd_same, fun d hd ne => ⟨rfl, h a _ (made_same ha hd ne).1 ha (made_same ha hd ne).2⟩⟩
/-- the rules at hand for one class -/
structure ErrUse (P : Program) (w : World) (K : PySem.W.Frag) (mg : Str → Option Value) (base : Heap) (name : Str) (C : Addr) : Prop where
  g : mg name = some (.ref C)
  T : OexC K C
  xf : XfC K C
  noV : PySem.W.findIn K (.ref C) "value" = some none
  er : ErrC K C
  eq : PySem.W.findIn K (.ref C) "__eq__" = some (some (.builtin "object.__eq__"))
  ok : ∃ (fI : Addr) (fd : FuncData) (ds : List Value), PySem.W.findIn K (.ref C) "__init__" = some (some (.ref fI)) ∧ PySem.W.typeIn K (.ref fI) = some (.type "function") ∧ FnOk P w K mg base CX0 1 fI fd ["self", "value"] (spInit K) ∧
    Binds K fd ["self", "value"] [] ∧ Vals [V.non] ds ∧ Binds K fd ["self", "value"] ds ∧ KBn K fd ["self", "value"] 1 ["value"] (fun us ws => us ++ ws) (fun vs zs => vs ++ zs)
theorem ErrAt.use {P : Program} {w : World} {K : PySem.W.Frag} {mg : Str → Option Value} {base : Heap} {name qual : Str} {st : Stmt} {C : Addr} (E : ErrAt K mg name qual st C) (t : InitText st) : ErrUse P w K mg base name C := by
  obtain ⟨fI, fd, iC, tI, F⟩ := E.init
  obtain ⟨ds, r, b⟩ := binds_one t F
  exact ⟨E.g, E.T, E.xf, E.noV, E.er, E.eq, fI, fd, ds, iC, tI, ok_init t F, binds_two t F, r, b, binds_kw t F⟩
theorem pe_ref {X : Cx} {x : Str} {C : Addr} {pos : Pos} (hg : Gl X x) (hm : X.mg x = some (.ref C)) (hd : (x == ("__debug__" : Str)) = false := by decide) : PE X (.Name x pos) (tC (.ref C)) := pe_glob (v := .ref C) hg hm rfl hd
theorem if_ne {x y : V} {A B : Prop} (h : x ≠ y) (b : B) : if decide (x = y) = true then A else B := by
  rw [decide_eq_false h]
  exact iteF b
theorem if_eq {x y : V} {A B : Prop} (h : x = y) (b : A) : if decide (x = y) = true then A else B := by
  rw [decide_eq_true h]
  exact iteT b
theorem it2 : InitText (sInit 2) := ⟨_, _, _, _, _, _, _, rfl, rfl, rfl⟩
theorem it3 : InitText (sInit 3) := ⟨_, _, _, _, _, _, _, rfl, rfl, rfl⟩
theorem it4 : InitText (sInit 4) := ⟨_, _, _, _, _, _, _, rfl, rfl, rfl⟩
end DQ

set_option Elab.async false
set_option linter.all false
set_option maxRecDepth 100000
set_option maxHeartbeats 1000000
namespace DQ
open PySem PySem.Spec PyProof.Rows L2
/-! ### try: body, except x as n: suite, where the error outlives the suite -/
/-- an error that was raised and caught stands at a -/
def exq (a : Addr) (cls : Value) (d : Option Addr) : HO := .ext fun h => ∃ (oe : Obj) (vs : Array Value), h.get? a = some oe ∧ Zc cls d oe ∧ oe.data = .fields vs
theorem exq_ok {P : Program} {w : World} {H : Hp} {h : Heap} {a : Addr} {cls : Value} {d : Option Addr} {oe : Obj} {vs : Array Value} (e : h.get? a = some oe) (z : Zc cls d oe) (hd : oe.data = .fields vs) : ObjOk P w H h a (exq a cls d) :=
  ⟨⟨oe, vs, e, z, hd⟩, ⟨oe, e⟩, fun h1 h2 ⟨o, v, e1, z1, d1⟩ k => ⟨o, v, k _ e1, z1, d1⟩⟩
section
variable {X : Cx} {pins : List (Addr × Obj)} {σ : L2.St} {H : Hp} {s : Shared}
/-- an object that came since the entry is tracked from here on -/
theorem track {a : Addr} {o : HO} {ob : Obj} {vs : Array Value} (I : Inv X pins σ H s) (hob : s.heap.get? a = some ob) (hdt : ob.data = .fields vs) (na : H a = none) (nL : a ≠ X.env.locals) (nP : ∀ p ∈ X.pn ++ pins, p.1 ≠ a)
    (new : ∀ u, X.s_0.heap.get? a = some u → a ∈ X.ex) (ok : ObjOk X.prog X.w (upd H a o) s.heap a o) : Inv X pins σ (upd H a o) s := by
  have nC : ∀ x c, X.env.cells.lookup x = some c → c ≠ a := fun x c e z => by
    obtain ⟨v, o', h1, h2⟩ := I.cell x c e
    rw [z, hob] at h1
    cases h1
    rw [hdt] at h2
    exact nomatch h2
  have ne : ∀ {b : Addr} {u : HO}, H b = some u → b ≠ a := fun {b u} e => ne_of_none e na
  exact { ok := I.ok, os := I.os, bare := I.bare, loc := I.loc, cell := I.cell, len := I.len
          base := { keep := I.base.keep, slot := I.base.slot, there := I.base.there
                    free := fun b u e n hx => by
                      have nb : b ≠ a := fun z => hx (by rw [z]; exact new u (by rw [← z]; exact e))
                      rw [upd_ne nb]
                      exact I.base.free b u e n hx
                    tups := fun b xs e => by
                      have q := I.base.tups b xs e
                      rw [upd_ne (ne q)]
                      exact q
                    frzs := fun b u v e => by
                      have q := I.base.frzs b u v e
                      rw [upd_ne (ne q)]
                      exact q
                    tbls := fun b ps e => by
                      obtain ⟨more, q⟩ := I.base.tbls b ps e
                      exact ⟨more, by rw [upd_ne (ne q)]; exact q⟩ }
          free := by rw [upd_ne (Ne.symm nL)]; exact I.free
          freeC := fun x c e => by rw [upd_ne (nC x c e)]; exact I.freeC x c e
          pin := fun p hp => by
            obtain ⟨h1, h2, h3, h4, h5⟩ := I.pin p hp
            exact ⟨h1, by rw [upd_ne (nP p hp)]; exact h2, h3, h4, h5⟩
          hok := L2.HOk.laidN I.hok (fun _ _ q => q) na ok }
end
/-- what the clause 'except x as n' wishes, the error kept -/
def wKeep (K : PySem.W.Frag) (c : Value) (i : Nat) (ts : Addr → Value → Option Addr → TS) (Wout : WX) (D : Ends) : WX := fun cls d σ H =>
  ∃ b, PySem.W.exmOne K cls c = some b ∧ (b = true → ∀ a, H a = none → ts a cls d { nx := fun σ' H' => D.nx (σ'.set i none) (upd H' a (exq a cls d)), rt := fun v H' => D.rt v (upd H' a (exq a cls d)), bk := fun σ' H' => D.bk (σ'.set i none) (upd H' a (exq a cls d)), ct := fun σ' H' => D.ct (σ'.set i none) (upd H' a (exq a cls d)) } (σ.set i (some (.ref a))) H) ∧
    (b = false → Wout cls d σ H)
end DQ

set_option Elab.async false
set_option linter.all false
set_option maxRecDepth 100000
set_option maxHeartbeats 2000000
namespace DQ
open PySem PySem.Spec PyProof.Rows L2
section
variable {X : Cx} {x n : Str} {c : Value} {i : Nat} {body suite : List Stmt} {b₀ : Stmt} {np pos pos' : Pos} {tb : WX → TS} {ts : Addr → Value → Option Addr → TS} {Wout : WX}
theorem ps_try_keep (hs : X.stack = X.env :: X.outer) (hf : X.env.frame = some X.env.locals) (hN : X.N.Nodup) (hi : X.N[i]? = some n) (hln : X.env.kindOf n = some .local) (hc : Names X x c) (tk : Takes X Wout)
    (hb : ∀ (W : WX) (pn : List (Addr × Obj)) (xe : Value → Shared → Prop), Takes (X.tr pn xe) W → PassesOwn (model X.prog X.w) X.A X.env xe → PSs (X.tr pn xe) body (tb W))
    (hsu : ∀ (a : Addr) (oe : Obj) (cls : Value) (d : Option Addr) (pn : List (Addr × Obj)), Zc cls d oe → (∃ vs, oe.data = .fields vs) → PSs (X.suite a ((a, oe) :: pn)) (b₀ :: suite) (ts a cls d)) :
    PS X (.Try body [.ExceptHandler (some (.Name x np)) (some n) (b₀ :: suite) pos'] [] [] pos) (fun D σ H => tb (wKeep X.K c i ts Wout D) D σ H) := by
  refine ⟨fun pins s σ H D I h => ?_⟩
  have ok := I.ok
  have hfr : X.A.frames = some (X.env :: X.outer) := by rw [ok.frames, hs]
  refine wpAny_Try_except ?_
  refine wpAny_mono ((hb (wKeep X.K c i ts Wout D) (X.pn ++ pins) (fun e s₁ => wpAny (model X.prog X.w) X.A (noteFrame e X.env) (fun _ s₂ => wpAny (model X.prog X.w) X.A (setFlight e none) (fun _ s₃ =>
    wpAny (model X.prog X.w) X.A (handleBy e X.env [.ExceptHandler (some (.Name x np)) (some n) (b₀ :: suite) pos']) (SP X pins D) X.xe s₃) X.xe s₂) X.xe s₁) (fun u s' out => ?_) PassesOwn.looking).run [] s σ H D (I.toTry _) h) (fun f s1 hsp => ?_) (fun e s1 he => he)
  · obtain ⟨a, B, sI, pins', σ', H', cls, d, rfl, J', nb, up, sky, na, os, ag, b, hb1, hyes, hno⟩ := out
    have J : Inv X pins σ' H' sI := J'.ofTry ok
    show wpAny (model X.prog X.w) X.A (noteFrame (.ref a) X.env) _ _ _
    refine Sky.land Zc.steady hfr hf (by rw [← hs]; exact sky) fun h3 fl3 up3 => ?_
    have J3 : Inv X pins σ' H' { s' with heap := h3 } := J.landed nb fl3.1 (up.trans up3) os ag
    obtain ⟨oe3, vs3, he3, hz3, hd3⟩ := fl3.there
    have away : a ∉ frs (X.env :: X.outer) := fun hm => by
      obtain ⟨_, o', e', hnf⟩ := fl3.2.2.1.mem hm
      rw [he3] at e'
      cases e'
      exact hnf _ hd3
    have nL : a ≠ X.env.locals := fun z => away (List.mem_filterMap.mpr ⟨X.env, List.mem_cons_self, by rw [hf, z]⟩)
    have nF : a ∉ X.fs := fun hm => by
      obtain ⟨e, he, q⟩ := List.mem_filterMap.mp hm
      exact away (List.mem_filterMap.mpr ⟨e, List.mem_cons_of_mem _ he, q⟩)
    have fresh : B.get? a = none := fl3.2.1
    have new : ∀ u, X.s_0.heap.get? a = some u → a ∈ X.ex := fun u e => Classical.byContradiction fun hx => by
      obtain ⟨o', e'⟩ := J.base.there a u e hx
      have := nb a o' e' (by show a ∉ frs X.stack; rw [hs]; exact away)
      rw [fresh] at this
      exact nomatch this
    have nP : ∀ p ∈ X.pn ++ pins, p.1 ≠ a := fun p hp z => by
      obtain ⟨h1, _⟩ := J.pin p hp
      have := nb p.1 p.2 h1 (by show p.1 ∉ frs X.stack; rw [hs, z]; exact away)
      rw [z, fresh] at this
      exact nomatch this
    have S3 := J3.suite he3 hd3 na nL nF
    refine wpAny_handleBy_cons (codeAny_handlers_test ?_) (by intro q; cases q)
    have LT : PySem.W.Looks (model X.prog X.w) h3 (typeOf (.ref a)) cls := fun A Q E s k q => wpAny_typeOf_ref (k _ _ he3) (by rw [hz3.1]; exact q)
    have LM := PySem.W.exm_one (M := model X.prog X.w) (J3.kIn) LT hb1
    have test : ∀ {Q : Value → Shared → Prop} {E : Value → Shared → Prop}, Q c { s' with heap := h3 } → wpAny (model X.prog X.w) (X.A.mark (some (.ref a))) (eval (.Name x np) X.env) Q E { s' with heap := h3 } := fun {Q E} q => by
      obtain ⟨hg, hdbg, hm | ⟨hm, hv, hnn⟩⟩ := hc
      · exact ld_glob (X := X.suite a ((a, oe3) :: (X.pn ++ pins))) S3 hg hm q hdbg
      · exact ld_blt (X := X.suite a ((a, oe3) :: (X.pn ++ pins))) S3 hg hm hv q hnn hdbg
    refine test (LM.here ?_)
    cases b with
    | true =>
      refine codeAny_handlers_suite_as ?_
      refine HandSPX.lands_againZ fl3 fun h4 fl4 up4 => ?_
      have J4 : Inv X pins σ' H' { s' with heap := h4 } := J.landed nb fl4.1 ((up.trans up3).trans up4) os ag
      obtain ⟨oe4, vs4, he4, hz4, hd4⟩ := fl4.there
      have S4 := J4.suite he4 hd4 na nL nF
      refine store_ok (X := X.suite a ((a, oe4) :: (X.pn ++ pins))) (v := .ref a) S4 hN hi (.inl hln) rfl (fun s5 S5 => ?_) (.inr hln)
      refine wpAny_mono ((hsu a oe4 cls d (X.pn ++ pins) hz4 ⟨_, hd4⟩).run [] s5 _ H' _ S5 (hyes rfl a na)) (fun f s6 hsp => ?_) (fun _ _ z => False.elim z)
      have kept : ∀ {σ6 : L2.St} {H6 : Hp} {Q : Shared → Prop}, Inv (X.suite a ((a, oe4) :: (X.pn ++ pins))) [] σ6 H6 s6 → (∀ s7, Inv X pins (σ6.set i none) (upd H6 a (exq a cls d)) s7 → Q s7) →
          wpAny (model X.prog X.w) X.A (do bindName X.env n .none; unbindBehindTheSuite X.env n pos') (fun _ s7 => Q s7) X.xe s6 := fun {σ6 H6 Q} S6 hq => by
        obtain ⟨e6, n6, _⟩ := S6.pin (a, oe4) (List.mem_append_left _ List.mem_cons_self)
        exact gone_ok (track (S6.unsuite ok) e6 hd4 n6 nL nP new (exq_ok e6 hz4 hd4)) hN hi hln hq
      cases f with
      | next =>
        obtain ⟨σ6, H6, S6, q6⟩ := hsp
        exact kept S6 fun s7 J7 => ⟨_, _, J7, q6⟩
      | brk =>
        obtain ⟨σ6, H6, S6, q6⟩ := hsp
        exact kept S6 fun s7 J7 => ⟨_, _, J7, q6⟩
      | cont =>
        obtain ⟨σ6, H6, S6, q6⟩ := hsp
        exact kept S6 fun s7 J7 => ⟨_, _, J7, q6⟩
      | ret u =>
        obtain ⟨v6, σ6, H6, S6, r6, q6⟩ := hsp
        exact kept S6 fun s7 J7 => ⟨_, _, _, J7, r6, q6⟩
    | false =>
      show wpAny _ X.A (handleBy (.ref a) X.env []) _ _ _
      refine wpAny_handleBy_nil ?_
      obtain ⟨k1, k2, k3, oe, vs, T, oT, ts', he, hz, hd, h1, hr⟩ := id fl3
      unfold PySem.passOn
      refine wpAny_bind (wpAny_field he hd h1 ?_)
      rw [if_neg (show ¬ ((Value.ref T == Value.none) = true) from by simp)]
      have fin : wpAny (model X.prog X.w) X.A (setFlight (.ref a) X.env.frame) (fun _ s4 => wpAny (model X.prog X.w) X.A (throw (.ref a) : Sem Flow) (SP X pins D) X.xe s4) X.xe { s' with heap := h3 } := by
        rw [hf]
        refine HandSPX.setFlight_upZ fl3 fun h4 hh4 up4 => wpAny_throw (tk _ _ ?_)
        exact ⟨a, B, sI, pins, σ', H', cls, d, rfl, J, nb, (up.trans up3).trans up4, .inr (.inr (by rw [hs]; exact hh4)), na, os, ag, hno rfl⟩
      first
        | exact wpAny_bind (wpAny_pure (wpAny_bind fin))
        | exact wpAny_bind fin
  · cases f with
    | next =>
      obtain ⟨σ', H', J', q⟩ := hsp
      exact wpAny_execs_nil ⟨σ', H', J'.ofTry ok, q⟩
    | brk =>
      obtain ⟨σ', H', J', q⟩ := hsp
      exact ⟨σ', H', J'.ofTry ok, q⟩
    | cont =>
      obtain ⟨σ', H', J', q⟩ := hsp
      exact ⟨σ', H', J'.ofTry ok, q⟩
    | ret u =>
      obtain ⟨v, σ', H', J', r, q⟩ := hsp
      exact ⟨v, σ', H', J'.ofTry ok, r, q⟩
end
end DQ

set_option Elab.async false
set_option linter.all false
set_option maxRecDepth 100000
set_option maxHeartbeats 1000000
namespace DQ
open PySem PySem.Spec PyProof.Rows L2
/-- a caught error of the class at C, its dict at d, v its value -/
def Caught (H : Hp) (a C : Addr) (v : V) : Prop := ∃ d : Addr, a ≠ d ∧ H a = some (exq a (.ref C) (some d)) ∧ H d = some (.xd [("value", v)])
theorem Caught.same {H H' : Hp} {a C : Addr} {v : V} (m : Caught H a C v) (s : Same H H') : Caught H' a C v := by
  obtain ⟨d, ne, e1, e2⟩ := m
  exact ⟨d, ne, s _ _ e1, s _ _ e2⟩
section
variable {X : Cx} {e : Expr} {pos : Pos}
theorem exq_at {P : Program} {w : World} {H : Hp} {h : Heap} {a : Addr} {cls : Value} {d : Option Addr} (ok : HOk P w H h) (ea : H a = some (exq a cls d)) : ∃ (oe : Obj) (vs : Array Value), h.get? a = some oe ∧ Zc cls d oe ∧ oe.data = .fields vs := by
  have x : ObjOk P w H h a (exq a cls d) := ok a _ ea
  exact x.1
theorem caught_inst {P : Program} {w : World} {H : Hp} {h : Heap} {a C : Addr} {v : V} (ok : HOk P w H h) (m : Caught H a C v) : ∃ ox od, PySem.W.InstAt h a ox C (some od) ∧ ∃ (dx : Addr) (mA : Str → Option Value), h.get? dx = some od ∧ h.Ns1 dx mA ∧ ∀ f, RelO (([("value", v)] : List (Str × V)).lookup f) (mA f) := by
  obtain ⟨d, ne, ea, ed⟩ := m
  obtain ⟨oe, vs, ho, hz, hd⟩ := exq_at ok ea
  have hx : ObjOk P w H h d (.xd [("value", v)]) := ok d _ ed
  obtain ⟨mA, hns, hr⟩ := hx
  have hns' := hns
  obtain ⟨od, es, ep, hod, _⟩ := hns'
  exact ⟨oe, od, ⟨ho, hz.1, by unfold PySem.W.notCls; rw [hd] <;> rfl, by rw [hz.2]; exact hod⟩, d, mA, hod, hns, hr⟩
/-- e.value of a caught error -/
def tCaught (K : PySem.W.Frag) (te : TE) : TE := fun σ H Q => te σ H fun x H1 => ∃ (a C : Addr) (v : V), x = .ref a ∧ Caught H1 a C v ∧ XfC K C ∧ PySem.W.findIn K (.ref C) ("value" : Str) = some none ∧ Q v H1
theorem pe_caught {te : TE} (he : PE X e te) (hb : attributeBase e "value" X.env (eval e X.env) = eval e X.env := by rfl) : PE X (.Attribute e "value" pos) (tCaught X.K te) := ⟨fun pins s σ H Q I h => by
  refine attr_of hb (thn (he.run pins s σ H _ I h) fun u s1 h1 => ?_)
  obtain ⟨x, H1, I1, rx, a, C, v, rfl, m, T, hno, q⟩ := h1
  obtain rfl : u = Value.ref a := rx
  obtain ⟨d, ne, ea, ed⟩ := m
  obtain ⟨oe, vs, ho, hz, hd⟩ := exq_at I1.hok ea
  have hx : ObjOk X.prog X.w H1 s1.heap d (.xd [("value", v)]) := I1.hok d _ ed
  obtain ⟨mA, hns, hr⟩ := hx
  obtain ⟨od, hod, hl⟩ := lookIn_ns hns
  have l : List.lookup ("value" : Str) [(("value" : Str), v)] = some v := by simp [List.lookup]
  obtain ⟨u, hu, ru⟩ := RelO.some_of (v := v) (o := mA "value") (by rw [← l]; exact hr "value")
  exact HandSPX.exc_get I1.kIn ⟨ho, hz.1, by unfold PySem.W.notCls; rw [hd] <;> rfl, by rw [hz.2]; exact hod⟩ T.ga T.gg T.exC (PySem.W.findObj_own T.hdC hno rfl (by rw [hl, hu])) (handed_of ru) ⟨v, H1, I1.tok _, ru, q⟩⟩
/-- isinstance(e, c) of a caught error -/
def rCaughtIs (K : PySem.W.Frag) : List V → Hp → VK → Prop := fun xs H Q => ∃ (a C : Addr) (v c : V) (u : Value) (b : Bool), xs = [.ref a, c] ∧ Caught H a C v ∧ ErrC K C ∧ ClsV c u ∧ PySem.W.kitOne K (.ref C) u = some b ∧ Q (.bl b) H
theorem call_caughtIs : CallR X (.builtin "isinstance") (rCaughtIs X.K) := by
  intro pins s σ H xs us Q I r h
  obtain ⟨a, C, v, c, u, b, rfl, m, T, k, e, q⟩ := h
  obtain ⟨u1, u2, rfl, r1, r2⟩ := vals2 r
  obtain rfl : u1 = Value.ref a := r1
  obtain rfl := k.eq r2
  obtain ⟨ox, od, J, _⟩ := caught_inst I.hok m
  exact PySem.W.kia_one (PySem.W.kitx_exc T.cls T.ga T.gg T.sub T.ca T.cg T.ct T.mo) I.kIn J e (fun z => nomatch z) fun tk => ⟨.bl b, H, I.tok tk, rfl, q⟩
end
end DQ

set_option Elab.async false
set_option linter.all false
set_option maxRecDepth 100000
set_option maxHeartbeats 4000000
namespace DQ
open PySem PySem.Spec PyProof.Rows L2
abbrev sAscending : Stmt := topS 27
theorem scAscending : FnScope ["rows", "one", "other"] ["rows"] (defScope sAscending) := ⟨rfl, rfl, rfl, by decide +kernel, rfl, by decide +kernel, by decide +kernel⟩
section
variable {P : Program} {w : World} {K : PySem.W.Frag} {mg : Str → Option Value} {base : Heap}
def spAscending (K : PySem.W.Frag) : Sp := fun vs H Q _ => ∃ (a : Addr) (xs : List V) (ds : List PyData), vs = [.ref a] ∧ SqL K H a xs ∧ DpAll K H xs ds ∧ PySem.W.AllAlike ds ∧ (∀ d ∈ ds, d ≠ .none ∧ d.depth ≤ 8) ∧ ds.length ≤ 10000 ∧ ∀ H', Same H H' → Q (.bl (ascB ds)) H'
theorem ok_ascending {f : Addr} {fd : FuncData} (F : Fun K "is_ascending" "is_ascending" sAscending f fd) (mZip : mg "zip" = none) (mAll : mg "all" = none) : FnOk P w K mg base CX0 1 f fd ["rows"] (spAscending K) := by
  refine F.ok scAscending (fun vs H Q E h => ?_) (fun cdv A outer s H vs Q E hr h => ?_)
  · obtain ⟨a, xs, ds, rfl, _⟩ := h
    rfl
  obtain ⟨a, xs, ds, rfl, hs, ha, al, ok, few, q⟩ := h
  have nd := scAscending.nd
  refine ⟨_, pss_one (ps_ret (pe_callB (cr_all rfl) (by rfl) mAll (by decide +kernel) (pa_cons (pe_lc (own := [("one", 1), ("other", 2)]) (g := gTup K 2 (gCons (gName 1) (gCons (gName 2) gNil))) (tt := tYes) rfl nd (pi_zip (by rfl) mZip (pa_cons (pv 0) (pa_cons (pe_slice sl_list (pv 0) (po_some pe_int) po_none) pa_nil)))
    (blkOk_by (own := [("one", 1), ("other", 2)]) (N := ["rows", "one", "other"]) (sc := defScope sAscending) (by decide +kernel)) (fun _ _ _ _ _ => pg_tup rfl (pgs_cons (pg_name (i := 1) nd rfl (Or.inl rfl) (.inr rfl)) (pgs_cons (pg_name (i := 2) nd rfl (Or.inl rfl) (.inr rfl)) pgs_nil))) (fun _ _ _ _ _ => pts_nil) (fun _ _ _ _ _ => pe_cmpR (r := rLtD K) (op_ltD hr.units) (pv 1) (pv 2) (by rfl))) pa_nil))), ?_⟩
  have len := dpAll_len ha
  refine ⟨_, rfl, _, rfl, _, rfl, a, _, rfl, hs, fun p np => ?_⟩
  rw [show (some (1 : Int)) = some ((1 : Nat) : Int) from rfl, cut_drop]
  have mp := same_new np (o := .lst (xs.drop 1))
  have ep : upd H p (.lst (xs.drop 1)) p = some (.lst (xs.drop 1)) := upd_same
  generalize upd H p (.lst (xs.drop 1)) = H1 at mp ep ⊢
  have hs1 := L2.Same.seq mp hs
  have lz : (ds.zip (ds.drop 1)).length = min xs.length (xs.drop 1).length := by
    rw [List.length_zip, List.length_drop, List.length_drop, len]
  refine ⟨a, p, xs, xs.drop 1, rfl, hs1, SqL.of ep, fun D nD => lc_bools (walk_zip (K := K) (a := a) (b := p) (xs := xs) (ys := xs.drop 1) rfl) ((ds.zip (ds.drop 1)).map fun p => PySem.W.dataLt p.1 p.2) (by rw [List.length_map, lz]) (Nat.lt_of_le_of_lt (show min xs.length (xs.drop 1).length ≤ 10000 by rw [len]; omega) (by decide)) nD (fun _ s2 => ⟨L2.Same.seq s2 hs1, SqL.of (s2 _ _ ep)⟩)
    (fun i H2 v H3 y => ?_) (fun i v H2 H3 b hi hb s2 y R hR => ?_) (fun H2 s2 e2 => ?_) (fun v σ H (R R' : L2.St → Hp → Prop) m h => ?_)⟩
  · obtain ⟨T, x, y, _, nT, rfl, _⟩ := y
    exact same_new nT
  · obtain ⟨T, x, y, rfl, nT, rfl, hx, hy⟩ := y
    obtain ⟨pr, hp, e⟩ : ∃ pr : PyData × PyData, (ds.zip (ds.drop 1))[i]? = some pr ∧ b = PySem.W.dataLt pr.1 pr.2 := by
      rw [List.getElem?_map] at hb
      obtain ⟨pr, hp, e⟩ := Option.map_eq_some_iff.mp hb
      exact ⟨pr, hp, e.symm⟩
    obtain ⟨d, e'⟩ := pr
    rw [List.getElem?_zip_eq_some] at hp
    obtain ⟨h1, h2⟩ := hp
    have hx : xs[i]? = some x := hx
    have hy : (xs.drop 1)[i]? = some y := hy
    rw [List.getElem?_drop] at hy h2
    have sT := same_new nT (o := .tup [x, y])
    have eT : upd H2 T (.tup [x, y]) T = some (.tup [x, y]) := upd_same
    generalize upd H2 T (.tup [x, y]) = H3 at sT eT hR ⊢
    have keep : L2.Same H H3 := (mp.trans s2).trans sT
    refine ⟨T, [x, y], rfl, .inl (.inl eT), rfl, x, [y], rfl, y, [], rfl, rfl, rfl, _, rfl, _, rfl, d, e', dp_same keep _ _ (dpAll_get ha hx h1), dp_same keep _ _ (dpAll_get ha hy h2), al _ (List.mem_of_getElem? h1) _ (List.mem_of_getElem? h2), (ok _ (List.mem_of_getElem? h1)).1, (ok _ (List.mem_of_getElem? h1)).2, ?_⟩
    rw [← e]
    exact hR _ fun _ _ h => h
  · refine ⟨D, _, rfl, SqL.of e2, ?_⟩
    rw [List.all_map]
    exact q H2 (mp.trans s2)
  · obtain ⟨T, ys, e1, e2, e3, z1, r1, e4, z2, r2, e5, e6, h⟩ := h
    exact ⟨T, ys, e1, e2, e3, z1, r1, e4, z2, r2, e5, e6, m _ _ h⟩
end
end DQ

set_option Elab.async false
set_option linter.all false
set_option maxRecDepth 100000
set_option maxHeartbeats 400000
namespace DQ
open PySem PySem.Spec PyProof.Rows L2
abbrev sFacts : Stmt := topS 30
abbrev NFs : List Str := ["marks", "columns", "items", "value", "known", "item", "fact"]
theorem scFacts : FnScope NFs ["marks", "columns", "items", "value"] (defScope sFacts) := ⟨rfl, rfl, rfl, by decide +kernel, rfl, by decide +kernel, by decide +kernel⟩
section
variable {P : Program} {w : World} {K : PySem.W.Frag} {mg : Str → Option Value} {base : Heap}
/-- a value that stands for data; a list's items that are facts are tuples laid here -/
def FactsAt (K : PySem.W.Frag) (H : Hp) (v : V) (d : PyData) : Prop :=
  (∃ (a : Addr) (xs : List V) (ds : List PyData), v = .ref a ∧ d = .list ds ∧ SqL K H a xs ∧ DpAll K H xs ds ∧ ds.length ≤ 10000 ∧ (∀ e ∈ ds, Parts e) ∧ ∀ fs : List Fact, ds = fs.map Fact.d → Tups H xs (fs.map Fact.v)) ∨ (Dp K H v d ∧ isT "list" d = false)
def spFacts (K : PySem.W.Frag) : Sp := fun vs H Q _ => ∃ (ma ca ia : Addr) (ms cs : List Str) (ns : List Int) (v : V) (d : PyData), vs = [.ref ma, .ref ca, .ref ia, v] ∧ SqL K H ma (ms.map V.str) ∧ SqL K H ca (cs.map V.str) ∧ SeqAt.shaped (.list (ms.map PyData.str)) = true ∧ SeqAt.shaped (.list (cs.map PyData.str)) = true ∧
  SqL K H ia (ns.map V.int) ∧ ns.length ≤ 10000 ∧ FactsAt K H v d ∧ (∀ x, x ∈ ms ∨ x ∈ cs → PyData.canLay0 (.str x) = true) ∧ ∀ H', Same H H' → Q (.bl (areFactsD ms cs ns d)) H'
theorem ok_facts {f fF fA fC : Addr} {fd fdF fdA fdC : FuncData} (F : Fun K "are_facts" "are_facts" sFacts f fd)
    (GF : FnOk P w K mg base CX0 4 fF fdF ["marks", "columns", "known", "value"] (spIsFact K)) (bF : Binds K fdF ["marks", "columns", "known", "value"] []) (kF' : PySem.W.keepIn K (.ref fF) = true) (mF : mg "is_fact" = some (.ref fF))
    (GA : FnOk P w K mg base CX0 1 fA fdA ["rows"] (spAscending K)) (bA : Binds K fdA ["rows"] []) (kA : PySem.W.keepIn K (.ref fA) = true) (mA : mg "is_ascending" = some (.ref fA))
    (GC : FnOk P w K mg base CX0 1 fC fdC ["facts"] (spClash K)) (bC : Binds K fdC ["facts"] []) (kC : PySem.W.keepIn K (.ref fC) = true) (mC : mg "first_clash" = some (.ref fC))
    (mI : mg "isinstance" = none) (mList : mg "list" = none) (mAll : mg "all" = none) : FnOk P w K mg base CX0 5 f fd ["marks", "columns", "items", "value"] (spFacts K) := by
  refine F.ok scFacts (fun vs H Q E h => ?_) (fun cdv A outer s H vs Q E hr h => ?_)
  · obtain ⟨_, _, _, _, _, _, _, _, rfl, _⟩ := h
    rfl
  obtain ⟨ma, ca, ia, ms, cs, ns, v, d, rfl, hma, hca, lm, lc, hia, few, hv, lay, q⟩ := h
  have nd := scFacts.nd
  refine ⟨_, (pss_cons (ps_if (pt_not (pt_val (pe_callB call_isi (by rfl) mI (by decide +kernel) (pa_cons (pv 3) (pa_cons (pe_bltn (v := .ty "list") (by rfl) mList (by decide +kernel) rfl) pa_nil))))) (pss_one (ps_ret pe_bl)) pss_nil)
    (pss_cons (ps_set (i := 4) nd rfl (.inr rfl) (pe_dc (own := [("item", 5)]) (g := gName 5) (tt := tYes) rfl nd (pi_list (pv 2)) (blkOk_by (own := [("item", 5)]) (N := NFs) (sc := defScope sFacts) (by decide +kernel)) (fun _ _ _ _ _ => pg_name (i := 5) nd rfl (Or.inl rfl)) (fun _ _ _ _ _ => pts_nil) (fun _ _ _ _ _ => pv 5) (fun _ _ _ _ _ => pe_bl)))
    (pss_cons (ps_if (pt_not (pt_val (pe_callB (cr_all rfl) (by rfl) mAll (by decide +kernel) (pa_cons (pe_lc (own := [("fact", 6)]) (g := gName 6) (tt := tYes) rfl nd (pi_list (pv 3)) (blkOk_by (own := [("fact", 6)]) (N := NFs) (sc := defScope sFacts) (by decide +kernel)) (fun _ _ _ _ _ => pg_name (i := 6) nd rfl (Or.inl rfl)) (fun _ _ _ _ _ => pts_nil)
      (fun _ _ _ _ _ => pe_call GF (hr.mono (by decide)) rfl mF kF' bF .nil pass0 (pa_cons (pv 0) (pa_cons (pv 1) (pa_cons (pv 4) (pa_cons (pv 6) pa_nil)))))) pa_nil)))) (pss_one (ps_ret pe_bl)) pss_nil)
    (pss_one (ps_ret (pe_and (pe_call GA (hr.mono (by decide)) rfl mA kA bA .nil pass0 (pa_cons (pv 3) pa_nil)) (pe_one (pe_cmpR op_isN (pe_call GC (hr.mono (by decide)) rfl mC kC bC .nil pass0 (pa_cons (pv 3) pa_nil)) pe_non (nomark _))))))))), ?_⟩
  rcases hv with ⟨a, xs, ds, rfl, rfl, hs, ha, fewd, parts, tups⟩ | ⟨hd, no⟩
  · have len := dpAll_len ha
    have ty := dp_ty (Dp.lst hs ha)
    refine ⟨_, rfl, .ref a, .ty "list", _, _, _, rfl, .ty "list", ty, kit_data (by simp) _, _, rfl, ?_⟩
    have il : isT "list" (.list ds) = true := by simp only [isT, tyN]; decide
    rw [il]
    refine ⟨_, rfl, ia, rfl, ⟨_, hia⟩, fun D nD => dc_known hia few nD (fun _ => rfl) (fun _ _ _ q => ⟨_, rfl, q⟩) fun H1 s1 kn => ?_⟩
    refine ⟨_, rfl, a, rfl, ⟨_, L2.Same.seq s1 hs⟩, fun D2 nD2 => lc_bools (walk_list (K := K) (a := a) (xs := xs)) (ds.map (isFactD ms cs ns)) (by rw [List.length_map, len]) (Nat.lt_of_le_of_lt (show xs.length ≤ 10000 by rw [len]; exact fewd) (by decide)) nD2 (fun _ s2 => L2.Same.seq (s1.trans s2) hs) (fun _ _ _ _ y => by rw [y.1]; exact fun _ _ h => h)
        (fun i v H2 H3 b hi hb s2 y R hR => ?_) (fun H2 s2 e2 => ?_) (fun _ _ _ _ _ m h => m _ _ h)⟩
    · obtain ⟨rfl, hv⟩ := y
      obtain ⟨e, he, rfl⟩ := all_at hb
      have s12 : L2.Same H H3 := s1.trans s2
      refine ⟨rfl, _, rfl, _, rfl, _, rfl, _, rfl, ma, ca, D, ms, cs, ns, v, e, rfl, L2.Same.seq s12 hma, L2.Same.seq s12 hca, lm, lc, ?_, dp_same s12 _ _ (dpAll_get ha hv he), parts e (List.mem_of_getElem? he), fun H' sm => hR H' sm⟩
      obtain ⟨kvs, ek, iff⟩ := kn
      exact ⟨kvs, s2 _ _ ek, iff⟩
    have s12 : L2.Same H H2 := s1.trans s2
    have yes : areFactsD ms cs ns (.list ds) = (ds.all (isFactD ms cs ns) && (ascB ds && noClashB (factsD ds))) := rfl
    rw [yes] at q
    refine ⟨D2, _, rfl, SqL.of e2, _, rfl, ?_⟩
    rw [List.all_map]
    refine ite2 (fun c1 => ?_) fun c1 => ?_
    · have c1 : (!ds.all (isFactD ms cs ns)) = true := c1
      have q := q H2 s12
      rw [show ds.all (isFactD ms cs ns) = false by simpa using c1, Bool.false_and] at q
      exact q
    have c1 : ds.all (isFactD ms cs ns) = true := by
      have c1 : ¬ (!ds.all (isFactD ms cs ns)) = true := c1
      simpa using c1
    rw [c1, Bool.true_and] at q
    obtain ⟨ed, hof⟩ := all_facts c1
    generalize factsD ds = fs at ed hof q
    have tp := tups fs ed
    have lfs : fs.length = ds.length := by rw [ed, List.length_map]
    refine ⟨_, rfl, a, xs, ds, rfl, L2.Same.seq s12 hs, dpAll_same s12 _ _ ha, ?_, ?_, fewd, fun H3 s3 => ⟨_, rfl, ite2 (fun c2 => ?_) fun c2 => ?_⟩⟩
    · intro d1 h1 d2 h2
      rw [ed] at h1 h2
      obtain ⟨x, _, rfl⟩ := List.mem_map.mp h1
      obtain ⟨y, _, rfl⟩ := List.mem_map.mp h2
      exact fact_alike x y
    · intro d1 h1
      rw [ed] at h1
      obtain ⟨x, _, rfl⟩ := List.mem_map.mp h1
      exact ⟨(fun e => by cases x <;> exact nomatch e), fact_depth x⟩
    · have s13 : L2.Same H H3 := s12.trans s3
      refine ⟨_, rfl, a, xs, fs, rfl, L2.Same.seq s13 hs, tp.keep (tk_same s13), fun x hx => lay _ (hof x hx).1, by omega, fun H4 s4 nc => ⟨rfl, ?_⟩, fun i y v H4 s4 hy hv _ cl => ⟨rfl, ?_⟩⟩
      · have q := q H4 (s13.trans s4)
        rw [c2, Bool.true_and, noClashB_iff.mpr nc] at q
        exact q
      · obtain ⟨x, hx, cl⟩ := cl
        have q := q H4 (s13.trans s4)
        obtain ⟨t, tt, rfl, _⟩ := tp.get hv
        have nb : noClashB fs = false := Bool.eq_false_iff.mpr fun e => by
          have := noClashB_iff.mp e x (List.mem_of_mem_take hx) y (List.mem_of_getElem? hy)
          rw [cl] at this
          exact nomatch this
        rw [c2, Bool.true_and, nb] at q
        exact q
    · have q := q H3 (s12.trans s3)
      rw [Bool.eq_false_iff.mpr c2, Bool.false_and] at q
      exact q
  · have ty := dp_ty hd
    refine ⟨_, rfl, v, .ty "list", _, _, _, rfl, .ty "list", ty, kit_data (by simp) _, _, rfl, ?_⟩
    rw [no]
    have e : areFactsD ms cs ns d = false := by
      cases d with
      | list ds => exact absurd no (by simp only [isT, tyN]; decide)
      | _ => rfl
    have q := q H fun _ _ h => h
    rw [e] at q
    exact q
end
end DQ

set_option Elab.async false
set_option linter.all false
set_option maxRecDepth 100000
set_option maxHeartbeats 400000
namespace DQ
open PySem PySem.Spec PyProof.Rows L2
abbrev sStoreP : Stmt := topS 31
abbrev NSt : List Str := ["value", "_", "marks", "columns", "items", "facts"]
theorem scStoreP : FnScope NSt ["value"] (defScope sStoreP) := ⟨rfl, rfl, rfl, by decide +kernel, rfl, by decide +kernel, by decide +kernel⟩
theorem factsAt_same {K : PySem.W.Frag} {H H' : Hp} {v : V} {d : PyData} (s : Same H H') (h : FactsAt K H v d) : FactsAt K H' v d := by
  rcases h with ⟨a, xs, ds, e1, e2, hs, ha, few, p, t⟩ | ⟨h, n⟩
  · exact .inl ⟨a, xs, ds, e1, e2, L2.Same.seq s hs, dpAll_same s _ _ ha, few, p, fun fs e => (t fs e).keep (tk_same s)⟩
  · exact .inr ⟨dp_same s _ _ h, n⟩
section
variable {P : Program} {w : World} {K : PySem.W.Frag} {mg : Str → Option Value} {base : Heap}
def spIsStore (K : PySem.W.Frag) : Sp := fun vs H Q _ => ∃ v : V, vs = [v] ∧
  ((∃ (d : PyData), Dp K H v d ∧ (∀ ds, d = .tuple ds → ds.length ≠ 5) ∧ ∀ H', Same H H' → Q (.bl false) H') ∨
   ∃ (t : Addr) (s m c i f : V) (ds dm dc di df : PyData), v = .ref t ∧ SqT K H t [s, m, c, i, f] ∧ Dp K H s ds ∧ SeqAt.shaped ds = true ∧ Dp K H m dm ∧ Fits dm ∧ Lays dm ∧ Dp K H c dc ∧ Fits dc ∧ Lays dc ∧ Dp K H i di ∧ Fits di ∧ FactsAt K H f df ∧
     ∀ H', Same H H' → Q (.bl (isStoreD ds dm dc di df)) H')
theorem ok_isStore {f f1 f2 f3 f4 f5 : Addr} {fd d1 d2 d3 d4 d5 : FuncData} {t1 : Tok} (F : Fun K "is_store" "is_store" sStoreP f fd)
    (G1 : FnOk P w K mg base CX0 4 f1 d1 ["value"] (spMarks K 4)) (b1 : Binds K d1 ["value"] []) (k1 : PySem.W.keepIn K (.ref f1) = true) (m1 : mg "are_marks" = some (.ref f1))
    (G2 : FnOk P w K mg base CX0 4 f2 d2 ["marks", "value"] (spColumns K)) (b2 : Binds K d2 ["marks", "value"] []) (k2 : PySem.W.keepIn K (.ref f2) = true) (m2 : mg "are_columns" = some (.ref f2))
    (G3 : FnOk P w K mg base CX0 4 f3 d3 ["value"] (spNumbers K)) (b3 : Binds K d3 ["value"] []) (k3 : PySem.W.keepIn K (.ref f3) = true) (m3 : mg "are_numbers" = some (.ref f3))
    (G4 : FnOk P w K mg base CX0 1 f4 d4 ["rows"] (spAscending K)) (b4 : Binds K d4 ["rows"] []) (k4 : PySem.W.keepIn K (.ref f4) = true) (m4 : mg "is_ascending" = some (.ref f4))
    (G5 : FnOk P w K mg base CX0 5 f5 d5 ["marks", "columns", "items", "value"] (spFacts K)) (b5 : Binds K d5 ["marks", "columns", "items", "value"] []) (k5 : PySem.W.keepIn K (.ref f5) = true) (m5 : mg "are_facts" = some (.ref f5))
    (mI : mg "isinstance" = none) (mTuple : mg "tuple" = none) (mLen : mg "len" = none) (mM : mg "MOST_ITEMS" = some (.int 2000 t1)) : FnOk P w K mg base CX0 6 f fd ["value"] (spIsStore K) := by
  refine F.ok scStoreP (fun vs H Q E h => ?_) (fun cdv A outer s H vs Q E hr h => ?_)
  · obtain ⟨_, rfl, _⟩ := h
    rfl
  obtain ⟨v, rfl, h⟩ := h
  have nd := scStoreP.nd
  refine ⟨_, (pss_cons (ps_if (PW.pt (pw_or (pt_not (pt_val (pe_callB call_isi (by rfl) mI (by decide +kernel) (pa_cons (pv 0) (pa_cons (pe_bltn (v := .ty "tuple") (by rfl) mTuple (by decide +kernel) rfl) pa_nil)))))
      (pw_or (pt_cmpR op_ne (pe_callB call_len_seq (by rfl) mLen PySem.boot_len (pa_cons (pv 0) pa_nil)) pe_int (nomark _)) (pw_or1 (pt_cmpR (op_neD hr.units) (pe_ix (r := rIxT K) ix_tup (pv 0) pe_int (fun _ _ => rfl)) pe_str (nomark _)))))) (pss_one (ps_ret pe_bl)) pss_nil)
    (pss_cons (ps_asg (pv 0) (pg_tup rfl (pgs_cons (pg_name (i := 1) nd rfl (.inl rfl)) (pgs_cons (pg_name (i := 2) nd rfl (.inl rfl)) (pgs_cons (pg_name (i := 3) nd rfl (.inl rfl)) (pgs_cons (pg_name (i := 4) nd rfl (.inl rfl)) (pgs_cons (pg_name (i := 5) nd rfl (.inl rfl)) pgs_nil)))))))
    (pss_cons (ps_if (PW.pt (pw_or (pt_not (pt_val (pe_call G1 (hr.mono (by decide)) rfl m1 k1 b1 .nil pass0 (pa_cons (pv 2) pa_nil)))) (pw_or1 (pt_not (pt_val (pe_call G2 (hr.mono (by decide)) rfl m2 k2 b2 .nil pass0 (pa_cons (pv 2) (pa_cons (pv 3) pa_nil)))))))) (pss_one (ps_ret pe_bl)) pss_nil)
    (pss_cons (ps_if (PW.pt (pw_or (pt_not (pt_val (pe_call G3 (hr.mono (by decide)) rfl m3 k3 b3 .nil pass0 (pa_cons (pv 4) pa_nil)))) (pw_or (pt_cmpR op_gt (pe_callB call_len_seq (by rfl) mLen PySem.boot_len (pa_cons (pv 4) pa_nil)) (pe_glob (v := .int 2000) (by rfl) mM ⟨_, rfl⟩) (nomark _)) (pw_or1 (pt_not (pt_val (pe_call G4 (hr.mono (by decide)) rfl m4 k4 b4 .nil pass0 (pa_cons (pv 4) pa_nil)))))))) (pss_one (ps_ret pe_bl)) pss_nil)
    (pss_one (ps_ret (pe_call G5 (hr.mono (by decide)) rfl m5 k5 b5 .nil pass0 (pa_cons (pv 2) (pa_cons (pv 3) (pa_cons (pv 4) (pa_cons (pv 5) pa_nil)))))))))) ), ?_⟩
  rcases h with ⟨d, hd, n5, q⟩ | ⟨t, s, m, c, i, fv, ds, dm, dc, di, df, rfl, ht, hs, shs, hm, fm, lm, hc, fc, lc, hi, fi, hf, q⟩
  · have q := q H fun _ _ h => h
    have ty := dp_ty hd
    refine ⟨_, rfl, v, .ty "tuple", _, _, _, rfl, .ty "tuple", ty, kit_data (by simp) d, _, rfl, ite2 (fun c1 => q) fun c1 => ?_⟩
    cases hd with
    | @tup a xs ds hs ha =>
      have ne := ne_int (show xs.length ≠ 5 by rw [dpAll_len ha]; exact n5 ds rfl)
      refine ⟨_, rfl, a, xs, rfl, .inr hs, rfl, _, rfl, ?_⟩
      rw [show decide (V.int ((xs.length : Nat) : Int) = V.int 5) = false from ne]
      exact q
    | _ => exact absurd rfl c1
  have tyT : TyX K H (.ref t) (.type "tuple") := by
    rcases ht with (h | ⟨o, h⟩) | ⟨o, _, _, h, cl, _⟩
    · exact .base (.tup h)
    · exact .fTuple h
    · exact .kTuple h cl
  refine ⟨_, rfl, .ref t, .ty "tuple", _, _, true, rfl, .ty "tuple", tyT, kit_ty (by decide +kernel), _, rfl, ?_⟩
  refine ⟨_, rfl, t, _, rfl, .inr ht, rfl, _, rfl, ?_⟩
  refine ⟨_, rfl, t, _, 0, s, rfl, rfl, ht, atI_nat (j := 0) rfl, ds, .str "store", hs, .str _, shs, by decide +kernel, _, rfl, ite2 (fun c1 => ?_) fun c1 => ?_⟩
  · have q := q H fun _ _ h => h
    unfold isStoreD at q
    rw [show PyData.eqv ds (.str "store") = false by simpa using c1, Bool.false_and] at q
    exact q
  have c1 : PyData.eqv ds (.str "store") = true := by simpa using c1
  unfold isStoreD at q
  rw [c1, Bool.true_and] at q
  refine ⟨_, rfl, t, _, rfl, ht, rfl, s, _, rfl, m, _, rfl, c, _, rfl, i, _, rfl, fv, _, rfl, rfl, ?_⟩
  refine ⟨_, rfl, m, dm, rfl, hm, fm, fun H1 s1 => ⟨_, rfl, ite2 (fun c2 => ?_) fun c2 => ?_⟩⟩
  · have q := q H1 s1
    rw [show wordsD 4 dm = false by simpa using c2, Bool.false_and, Bool.false_and] at q
    exact q
  have c2 : wordsD 4 dm = true := by simpa using c2
  obtain ⟨l1, rfl, w1⟩ := wordsD_list c2
  rw [c2, Bool.true_and] at q
  cases hm with
  | @lst ma x1 _ hma a1 =>
  obtain ⟨e1, n1⟩ := texts_all a1 w1
  rw [e1] at hma
  refine ⟨_, rfl, _, rfl, ma, texts l1, c, dc, rfl, L2.Same.seq s1 hma, dp_same s1 _ _ hc, fc, fun H2 s2 => ⟨_, rfl, ite2 (fun c3 => ?_) fun c3 => ?_⟩⟩
  · have q := q H2 (s1.trans s2)
    rw [show columnsD (texts (listD (.list l1))) dc = false by simpa [listD] using c3, Bool.false_and] at q
    exact q
  have c3 : columnsD (texts l1) dc = true := by simpa using c3
  have c3' : wordsD 2 dc = true := by
    cases e : wordsD 2 dc with
    | true => rfl
    | false =>
      rw [columns_no e] at c3
      exact nomatch c3
  obtain ⟨l2, rfl, w2⟩ := wordsD_list c3'
  rw [show columnsD (texts (listD (.list l1))) (.list l2) = true from c3, Bool.true_and] at q
  cases hc with
  | @lst ca x2 _ hca a2 =>
  obtain ⟨e2, n2⟩ := texts_all a2 w2
  rw [e2] at hca
  have s02 : L2.Same H H2 := s1.trans s2
  refine ⟨_, rfl, i, di, rfl, dp_same s02 _ _ hi, fi, fun H3 s3 => ⟨_, rfl, ite2 (fun c4 => ?_) fun c4 => ?_⟩⟩
  · have q := q H3 (s02.trans s3)
    rw [show numsD di = false by simpa using c4, Bool.false_and, Bool.false_and, Bool.false_and] at q
    exact q
  have c4 : numsD di = true := by simpa using c4
  rw [c4, Bool.true_and] at q
  have s03 : L2.Same H H3 := s02.trans s3
  cases hi with
  | @lst ia x3 l3 hia a3 =>
    obtain ⟨few3, _⟩ := fi l3 rfl
    obtain ⟨e3, n3, m3⟩ := ints_all a3 c4
    have len3 := dpAll_len a3
    have hia3 := L2.Same.seq s03 hia
    refine ⟨_, rfl, ia, _, rfl, .inl hia3, _, _, rfl, rfl, _, rfl, ite2 (fun c5 => ?_) fun c5 => ?_⟩
    · have c5 := of_decide_eq_true c5
      have q := q H3 s03
      rw [show decide ((listD (.list l3)).length ≤ 2000) = false from decide_eq_false (by show ¬ l3.length ≤ 2000; omega), Bool.false_and, Bool.false_and] at q
      exact q
    have c5 := of_decide_eq_false (Bool.eq_false_iff.mpr c5)
    rw [show decide ((listD (.list l3)).length ≤ 2000) = true from decide_eq_true (by show l3.length ≤ 2000; omega), Bool.true_and] at q
    refine ⟨_, rfl, ia, x3, l3, rfl, hia3, dpAll_same s03 _ _ a3, ?_, ?_, few3, fun H4 s4 => ⟨_, rfl, ite2 (fun c6 => ?_) fun c6 => ?_⟩⟩
    · intro d1 h1 d2 h2
      rw [m3] at h1 h2
      obtain ⟨x, _, rfl⟩ := List.mem_map.mp h1
      obtain ⟨y, _, rfl⟩ := List.mem_map.mp h2
      rfl
    · intro d1 h1
      rw [m3] at h1
      obtain ⟨x, _, rfl⟩ := List.mem_map.mp h1
      exact ⟨(fun e => nomatch e), Nat.zero_le _⟩
    · have q := q H4 (s03.trans s4)
      rw [show ascB (listD (.list l3)) = false by simpa [listD] using c6, Bool.false_and] at q
      exact q
    have c6 : ascB l3 = true := by simpa using c6
    rw [show ascB (listD (.list l3)) = true from c6, Bool.true_and] at q
    have s04 : L2.Same H H4 := s03.trans s4
    rw [e3] at hia
    refine ⟨_, rfl, _, rfl, _, rfl, _, rfl, ma, ca, ia, texts l1, texts l2, intsD l3, fv, df, rfl, L2.Same.seq s04 hma, L2.Same.seq s04 hca, shaped_texts w1 (lm _ rfl), shaped_texts w2 (lc _ rfl), L2.Same.seq s04 hia, by omega, factsAt_same s04 hf, fun x hx => ?_, fun H5 s5 => q H5 (s04.trans s5)⟩
    have md : ∀ {l : List PyData}, l.all wordD = true → x ∈ texts l → (PyData.str x) ∈ l := fun {l} h z => by
      rw [texts_data h]
      exact List.mem_map.mpr ⟨x, z, rfl⟩
    rcases hx with hx | hx
    · exact lm _ rfl _ (md w1 hx)
    · exact lc _ rfl _ (md w2 hx)
  | _ => exact nomatch c4
end
end DQ

set_option Elab.async false
set_option linter.all false
set_option maxRecDepth 100000
set_option maxHeartbeats 400000
namespace DQ
open PySem PySem.Spec PyProof.Rows L2
theorem intsD_ints : ∀ ns : List Int, intsD (ns.map PyData.int) = ns
  | [] => rfl
  | x :: r => by
    have ih := intsD_ints r
    unfold intsD at ih ⊢
    rw [List.map_cons, List.filterMap_cons_some (f := intD) (a := .int x) (b := x) rfl, ih]
theorem isStore_of {m : Nat} (hm : m ≤ 2000) {S : Store} (D : Drawn m S) : isStoreD (.str "store") (.list (S.marks.map PyData.str)) (.list (S.columns.map PyData.str)) (.list (S.items.map PyData.int)) (.list (S.facts.map Fact.d)) = true := by
  obtain ⟨k, hk, ek⟩ := D.marks
  obtain ⟨j, h1, h2, ej⟩ := D.columns
  unfold isStoreD
  show (PyData.eqv (.str "store") (.str "store") && ((wordsD 4 (.list (S.marks.map PyData.str)) && columnsD (texts (S.marks.map PyData.str)) (.list (S.columns.map PyData.str))) && ((numsD (.list (S.items.map PyData.int)) && decide ((S.items.map PyData.int).length ≤ 2000) && ascB (S.items.map PyData.int)) && areFactsD (texts (S.marks.map PyData.str)) (texts (S.columns.map PyData.str)) (intsD (S.items.map PyData.int)) (.list (S.facts.map Fact.d))))) = true
  rw [texts_strs, texts_strs, intsD_ints, nums_of D.items.2, asc_ints D.items.1, areFacts_of D, List.length_map, decide_eq_true (show S.items.length ≤ 2000 by have := D.few; omega)]
  rw [ek, ej, marks_ok hk, columns_ok hk h1 h2]
  decide +kernel
end DQ

set_option Elab.async false
set_option linter.all false
set_option maxRecDepth 100000
set_option maxHeartbeats 400000
namespace DQ
open PySem PySem.Spec PyProof.Rows L2
/-- the store at v, part by part -/
theorem store_asks {K : PySem.W.Frag} {H : Hp} {v : V} {m : Nat} {S : Store} (hm : m ≤ 2000) (D : Drawn m S) (A : StoAt H v S) {Q : VK} {E : XK} (q : ∀ H', Same H H' → Q (.bl true) H') : spIsStore K [v] H Q E := by
  obtain ⟨t, ma, ca, ia, fa, rs, rfl, ht, hma, hca, hia, hfa, tp⟩ := A
  have fitsS : ∀ ms : List Str, ms.length ≤ 10000 → (∀ x ∈ ms, x ∈ drawnWords) → Fits (.list (ms.map PyData.str)) ∧ Lays (.list (ms.map PyData.str)) := fun ms l h => by
    refine ⟨fun ds e => ?_, fun ds e d hd => ?_⟩
    · injection e with e
      subst e
      refine ⟨by rw [List.length_map]; exact l, fun d hd x ex => ?_⟩
      obtain ⟨y, hy, e⟩ := List.mem_map.mp hd
      rw [ex] at e
      injection e with e
      rw [← e]
      exact (lay_words y (h y hy)).2
    · injection e with e
      subst e
      obtain ⟨y, hy, rfl⟩ := List.mem_map.mp hd
      exact (lay_words y (h y hy)).1
  obtain ⟨k, hk, ek⟩ := D.marks
  obtain ⟨j, _, hj, ej⟩ := D.columns
  have lm : S.marks.length ≤ 10000 := by rw [ek, List.length_take]; omega
  have lc : S.columns.length ≤ 10000 := by rw [ej, List.length_take]; omega
  obtain ⟨f1, l1⟩ := fitsS S.marks lm fun x h => D.word (.inl h)
  obtain ⟨f2, l2⟩ := fitsS S.columns lc fun x h => D.word (.inr h)
  have f3 : Fits (.list (S.items.map PyData.int)) := fun ds e => by
    injection e with e
    subst e
    refine ⟨by rw [List.length_map]; have := D.few; omega, fun d hd x ex => ?_⟩
    obtain ⟨y, hy, e⟩ := List.mem_map.mp hd
    rw [ex] at e
    exact nomatch e
  refine ⟨_, rfl, .inr ⟨t, .str "store", .ref ma, .ref ca, .ref ia, .ref fa, .str "store", _, _, _, .list (S.facts.map Fact.d), rfl, .inl (.inl ht), .str _, by decide +kernel, .lst (SqL.of hma) (dp_texts S.marks), f1, l1, .lst (SqL.of hca) (dp_texts S.columns), f2, l2, .lst (SqL.of hia) (dp_intsL S.items), f3, ?_, fun H' sm => by rw [isStore_of hm D]; exact q H' sm⟩⟩
  refine .inl ⟨fa, rs, S.facts.map Fact.d, rfl, rfl, SqL.of hfa, dp_facts tp, by rw [List.length_map]; have := D.short; omega, fun e he => ?_, fun fs e => by rw [← facts_inj e]; exact tp⟩
  obtain ⟨x, hx, rfl⟩ := List.mem_map.mp he
  exact fact_parts x (lay_words _ (D.factWord hx)).1
end DQ

set_option Elab.async false
set_option linter.all false
set_option maxRecDepth 100000
set_option maxHeartbeats 400000
namespace DQ
open PySem PySem.Spec PyProof.Rows L2
/-- an error of the class at C goes out, v its value, all else as it was -/
def Throws (E : XK) (C : Addr) (v : V) (H : Hp) : Prop := ∀ (d : Addr) (H' : Hp), Same H H' → H d = none → H' d = some (.xd [("value", v)]) → E (.ref C) (some d) H'
theorem throw_read {K : PySem.W.Frag} {C : Addr} {H1 : Hp} {v : V} {Q : XK} (T : OexC K C) (noV : PySem.W.findIn K (.ref C) "value" = some none) (h : Throws Q C v H1) :
    ∀ a, H1 a = none → spInit K [.ref a, v] (upd H1 a (exo a C none)) (fun v H2 => v = .non ∧ ∃ (d : Addr) (fs : List (Str × V)), H2 a = some (exo a C (some d)) ∧ H2 d = some (exd d fs) ∧ H1 d = none ∧ Q (.ref C) (some d) (upd (del H2 a) d (.xd fs))) (fun _ _ _ => False) := fun a ha =>
  ⟨a, C, v, rfl, T, noV, upd_same, fun d hd ne => by
    have hd1 : H1 d = none := by
      rw [upd_ne ne] at hd
      exact hd
    refine ⟨rfl, d, _, upd_same, by rw [upd_ne ne, upd_same], hd1, h d _ (fun b o q => ?_) hd1 upd_same⟩
    have nb : b ≠ a := ne_of_none q ha
    have nd : b ≠ d := ne_of_none q hd1
    rw [upd_ne nd, del_ne nb, upd_ne nb, upd_ne nd, upd_ne nb]
    exact q⟩
end DQ

set_option Elab.async false
set_option linter.all false
set_option maxRecDepth 100000
set_option maxHeartbeats 400000
namespace DQ
open PySem PySem.Spec PyProof.Rows L2
abbrev sCheck : Stmt := topS 32
abbrev sIsItem : Stmt := topS 33
theorem scCheck : FnScope ["store"] ["store"] (defScope sCheck) := ⟨rfl, rfl, rfl, by decide +kernel, rfl, by decide +kernel, by decide +kernel⟩
theorem scIsItem : FnScope ["store", "value"] ["store", "value"] (defScope sIsItem) := ⟨rfl, rfl, rfl, by decide +kernel, rfl, by decide +kernel, by decide +kernel⟩
theorem flat_intsV (ns : List Int) : (ns.map V.int).all flatV = true := List.all_eq_true.mpr fun v hv => by
  obtain ⟨x, _, rfl⟩ := List.mem_map.mp hv
  rfl
theorem inV_int (i : Int) : ∀ ns : List Int, inV (.int i) (ns.map V.int) = decide (i ∈ ns)
  | [] => rfl
  | x :: r => by
    have ih := inV_int i r
    show ((x == i) || inV (.int i) (r.map V.int)) = _
    rw [ih]
    by_cases h : x = i
    · rw [h]; simp
    · rw [beq_eq_false_iff_ne.mpr h, Bool.false_or]
      exact decide_eq_decide.mpr ⟨fun z => List.mem_cons_of_mem _ z, fun z => by
        rcases List.mem_cons.mp z with z | z
        · exact absurd z.symm h
        · exact z⟩
theorem isStore_mono {K : PySem.W.Frag} {vs : List V} {H : Hp} {Q Q2 : VK} {E E2 : XK} (h : spIsStore K vs H Q E) (m : ∀ x H1, Q x H1 → Q2 x H1) : spIsStore K vs H Q2 E2 := by
  obtain ⟨v, e, h⟩ := h
  refine ⟨v, e, ?_⟩
  rcases h with ⟨d, hd, n5, q⟩ | ⟨t, s, m', c, i, f, ds, dm, dc, di, df, e1, e2, e3, e4, e5, e6, e7, e8, e9, e10, e11, e12, e13, q⟩
  · exact .inl ⟨d, hd, n5, fun H' s => m _ _ (q H' s)⟩
  · exact .inr ⟨t, s, m', c, i, f, ds, dm, dc, di, df, e1, e2, e3, e4, e5, e6, e7, e8, e9, e10, e11, e12, e13, fun H' s => m _ _ (q H' s)⟩
section
variable {P : Program} {w : World} {K : PySem.W.Frag} {mg : Str → Option Value} {base : Heap}
def spCheck (K : PySem.W.Frag) (C : Addr) : Sp := fun vs H Q E => ∃ (v : V) (b : Bool), vs = [v] ∧ spIsStore K [v] H (fun x H1 => x = .bl b ∧ (b = true → Q .non H1) ∧ (b = false → Throws E C v H1)) (fun _ _ _ => False)
theorem ok_check {f fs C : Addr} {fd fds : FuncData} (F : Fun K "check_store" "check_store" sCheck f fd) (GS : FnOk P w K mg base CX0 6 fs fds ["value"] (spIsStore K)) (bS : Binds K fds ["value"] []) (kS : PySem.W.keepIn K (.ref fs) = true) (mS : mg "is_store" = some (.ref fs))
    (U : ErrUse P w K mg base "InvalidStore" C) : FnOk P w K mg base (L2.CX P w) 7 f fd ["store"] (spCheck K C) := by
  obtain ⟨fI, fdI, ds, iC, tI, oI, bI, _, _, _⟩ := U.ok
  refine F.okX scCheck (fun vs H Q E h => ?_) (fun cdv A outer s H vs Q E hr h => ?_)
  · obtain ⟨_, _, rfl, _⟩ := h
    rfl
  obtain ⟨v, b, rfl, h⟩ := h
  refine ⟨_, pss_one (ps_if (pt_not (pt_val (pe_call GS (hr.mono (by decide)) rfl mS kS bS .nil pass0 (pa_cons (pv 0) pa_nil)))) (pss_one (ps_raise rfl (takes_of rfl rfl rfl rfl) (pmk_oex U.T iC tI oI (hr.mono (by decide)) bI .nil pass0 (by rfl) U.g (pa_cons (pv 0) pa_nil)))) pss_nil), ?_⟩
  obtain ⟨_, e, h⟩ := h
  cases e
  refine ⟨_, rfl, v, rfl, ?_⟩
  rcases h with ⟨d, hd, n5, q⟩ | ⟨t, s, m', c, i, f, ds, dm, dc, di, df, e1, e2, e3, e4, e5, e6, e7, e8, e9, e10, e11, e12, e13, q⟩
  · refine .inl ⟨d, hd, n5, fun H1 sm => ?_⟩
    obtain ⟨e, h1, h2⟩ := q H1 sm
    injection e with e
    exact ⟨_, rfl, _, rfl, (show 1 ≤ 1000 by decide), throw_read U.T U.noV (h2 e.symm)⟩
  · refine .inr ⟨t, s, m', c, i, f, ds, dm, dc, di, df, e1, e2, e3, e4, e5, e6, e7, e8, e9, e10, e11, e12, e13, fun H1 sm => ?_⟩
    obtain ⟨e, h1, h2⟩ := q H1 sm
    injection e with e
    rw [e]
    refine ⟨b, rfl, ite2 (fun c => ?_) fun c => ?_⟩
    · have c : b = false := by simpa using c
      exact ⟨_, rfl, (show 1 ≤ 1000 by decide), throw_read U.T U.noV (h2 c)⟩
    · have c : b = true := by simpa using c
      exact h1 c
/-- value in store[3], a number -/
def spIsItem (K : PySem.W.Frag) : Sp := fun vs H Q _ => ∃ (t ia : Addr) (a b c e : V) (ns : List Int) (v : V) (d : PyData), vs = [.ref t, v] ∧ SqT K H t [a, b, c, .ref ia, e] ∧ SqL K H ia (ns.map V.int) ∧ Dp K H v d ∧ Q (.bl (okItem ns d)) H
theorem ok_isItem {f fn : Addr} {fd fdn : FuncData} (F : Fun K "is_item" "is_item" sIsItem f fd) (GN : FnOk P w K mg base CX0 3 fn fdn ["value"] (spNumber K)) (bN : Binds K fdn ["value"] []) (kN : PySem.W.keepIn K (.ref fn) = true) (mN : mg "is_number" = some (.ref fn)) :
    FnOk P w K mg base CX0 4 f fd ["store", "value"] (spIsItem K) := by
  refine F.ok scIsItem (fun vs H Q E h => ?_) (fun cdv A outer s H vs Q E hr h => ?_)
  · obtain ⟨_, _, _, _, _, _, _, _, _, rfl, _⟩ := h
    rfl
  obtain ⟨t, ia, a, b, c, e, ns, v, d, rfl, ht, hi, hd, q⟩ := h
  refine ⟨_, pss_one (ps_ret (pe_and (pe_call GN (hr.mono (by decide)) rfl mN kN bN .nil pass0 (pa_cons (pv 1) pa_nil)) (pe_one (pe_cmpR op_in_seq (pv 1) (pe_ix (r := rIxT K) ix_tup (pv 0) pe_int (fun _ _ => rfl)) (by rfl))))), ?_⟩
  refine ⟨_, rfl, v, d, rfl, hd, _, rfl, ite2 (fun c1 => ?_) fun c1 => ?_⟩
  · cases hd with
    | int i =>
      refine ⟨_, rfl, _, rfl, t, _, 3, .ref ia, rfl, rfl, ht, atI_nat (j := 3) rfl, ia, _, rfl, .inl hi, rfl, flat_intsV ns, ?_⟩
      have e1 : inV (.int i) (ns.map V.int) = decide (i ∈ ns) := inV_int i ns
      have e2 : okItem ns (.int i) = decide (i ∈ ns) := by
        show (numD (.int i) && decide (i ∈ ns)) = _
        rw [c1, Bool.true_and]
      rw [e2] at q
      show Q (.bl (inV (.int i) (ns.map V.int))) H
      rw [e1]
      exact q
    | _ => exact absurd c1 (by simp [numD])
  · have e2 : okItem ns d = false := by
      unfold okItem
      rw [Bool.eq_false_iff.mpr c1, Bool.false_and]
    rw [e2] at q
    exact q
end
end DQ

set_option Elab.async false
set_option linter.all false
set_option maxRecDepth 100000
set_option maxHeartbeats 4000000
namespace DQ
open PySem PySem.Spec PyProof.Rows L2
abbrev sBtw : Stmt := topS 21
abbrev sRow : Stmt := topS 34
abbrev sSecond : Stmt := topS 35
theorem scBtw : FnScope ["value", "least", "most"] ["value", "least", "most"] (defScope sBtw) := ⟨rfl, rfl, rfl, by decide +kernel, rfl, by decide +kernel, by decide +kernel⟩
abbrev NRw : List Str := ["store", "row", "fits", "item"]
theorem scRow : FnScope NRw ["store", "row"] (defScope sRow) := ⟨rfl, rfl, rfl, by decide +kernel, rfl, by decide +kernel, by decide +kernel⟩
theorem scSecond : FnScope ["one", "other"] ["one", "other"] (defScope sSecond) := ⟨rfl, rfl, rfl, by decide +kernel, rfl, by decide +kernel, by decide +kernel⟩
theorem okItem_in {m : Nat} {S : Store} (D : Drawn m S) {i : Int} (h : i ∈ S.items) : okItem S.items (.int i) = true := by
  have b := D.items.2 i h
  show (numD (.int i) && decide (i ∈ S.items)) = true
  rw [decide_eq_true h, Bool.and_true]
  show betweenD 0 1000000000 (.int i) = true
  show (decide ((0 : Int) ≤ i) && decide (i ≤ 1000000000)) = true
  rw [decide_eq_true b.1, decide_eq_true (by omega)]
  rfl
/-- a store and a row of its items -/
structure RowOf (K : PySem.W.Frag) (H : Hp) (m : Nat) (S : Store) (v : V) (r : Addr) (row : List Int) : Prop where
  drawn : Drawn m S
  sto : StoAt H v S
  at_ : RowAt K H r row
  few : row.length ≤ 4
  mem : ∀ i ∈ row, i ∈ S.items
section
variable {P : Program} {w : World} {K : PySem.W.Frag} {mg : Str → Option Value} {base : Heap}
theorem RowOf.same {H H' : Hp} {m : Nat} {S : Store} {v : V} {r : Addr} {row : List Int} (h : RowOf K H m S v r row) (s : Same H H') : RowOf K H' m S v r row := ⟨h.drawn, stoAt_same s h.sto, h.at_.same s, h.few, h.mem⟩
def spBtw : Sp := fun vs H Q _ => ∃ n a b : Int, vs = [.int n, .int a, .int b] ∧ a ≤ n ∧ n ≤ b ∧ Q .non H
theorem ok_btw {f fB C : Addr} {fd dB : FuncData} (F : Fun K "check_between" "check_between" sBtw f fd) (GB : FnOk P w K mg base CX0 2 fB dB ["value", "least", "most"] (spBetween K)) (bB : Binds K dB ["value", "least", "most"] []) (kB : PySem.W.keepIn K (.ref fB) = true) (mB : mg "is_between" = some (.ref fB))
    (U : ErrUse P w K mg base "InvalidNumber" C) : FnOk P w K mg base (L2.CX P w) 3 f fd ["value", "least", "most"] spBtw := by
  obtain ⟨fI, fdI, ds, iC, tI, oI, bI, _, _, _⟩ := U.ok
  refine F.okX scBtw (fun vs H Q E h => ?_) (fun cdv A outer s H vs Q E hr h => ?_)
  · obtain ⟨_, _, _, rfl, _⟩ := h
    rfl
  obtain ⟨n, a, b, rfl, h1, h2, q⟩ := h
  refine ⟨_, pss_one (ps_if (pt_not (pt_val (pe_call GB (hr.mono (by decide)) rfl mB kB bB .nil pass0 (pa_cons (pv 0) (pa_cons (pv 1) (pa_cons (pv 2) pa_nil)))))) (pss_one (ps_raise rfl (takes_of rfl rfl rfl rfl) (pmk_oex U.T iC tI oI (hr.mono (by decide)) bI .nil pass0 (by rfl) U.g (pa_cons (pv 0) pa_nil)))) pss_nil), ?_⟩
  refine ⟨_, rfl, _, rfl, _, rfl, .int n, .int n, a, b, rfl, .int n, ?_⟩
  have e : betweenD a b (.int n) = true := by
    show (decide (a ≤ n) && decide (n ≤ b)) = true
    rw [decide_eq_true h1, decide_eq_true h2]
    rfl
  rw [e]
  exact ⟨true, rfl, q⟩
def spRow (K : PySem.W.Frag) : Sp := fun vs H Q _ => ∃ (v : V) (r : Addr) (m : Nat) (S : Store) (row : List Int), vs = [v, .ref r] ∧ RowOf K H m S v r row ∧ ∀ H', Same H H' → Q .non H'
theorem ok_row {f fI0 C : Addr} {fd dI0 : FuncData} {t1 : Tok} (F : Fun K "check_row" "check_row" sRow f fd) (GI : FnOk P w K mg base CX0 4 fI0 dI0 ["store", "value"] (spIsItem K)) (bI0 : Binds K dI0 ["store", "value"] []) (kI0 : PySem.W.keepIn K (.ref fI0) = true) (mI0 : mg "is_item" = some (.ref fI0))
    (U : ErrUse P w K mg base "InvalidList" C) (mI : mg "isinstance" = none) (mTuple : mg "tuple" = none) (mLen : mg "len" = none) (mAll : mg "all" = none) (mM : mg "MOST_IN_ROW" = some (.int 4 t1)) : FnOk P w K mg base (L2.CX P w) 5 f fd ["store", "row"] (spRow K) := by
  obtain ⟨fI, fdI, ds, iC, tI, oI, bI, _, _, _⟩ := U.ok
  refine F.okX scRow (fun vs H Q E h => ?_) (fun cdv A outer s H vs Q E hr h => ?_)
  · obtain ⟨_, _, _, _, _, rfl, _⟩ := h
    rfl
  obtain ⟨v, r, m, S, row, rfl, R, q⟩ := h
  have nd := scRow.nd
  refine ⟨_, pss_cons (ps_set (i := 2) nd rfl (.inl rfl) (pe_and (pe_callB call_isi (by rfl) mI (by decide +kernel) (pa_cons (pv 1) (pa_cons (pe_bltn (v := .ty "tuple") (by rfl) mTuple (by decide +kernel) rfl) pa_nil)))
      (pe_one (pe_cmpR op_le (pe_callB call_len_seq (by rfl) mLen PySem.boot_len (pa_cons (pv 1) pa_nil)) (pe_glob (v := .int 4) (by rfl) mM ⟨_, rfl⟩) (by rfl)))))
    (pss_one (ps_if (PW.pt (pw_or (pt_not (pt_val (pv 2))) (pw_or1 (pt_not (pt_val (pe_callB (cr_all rfl) (by rfl) mAll (by decide +kernel) (pa_cons (pe_lc (own := [("item", 3)]) (g := gName 3) (tt := tYes) rfl nd (pi_tup (pv 1)) (blkOk_by (own := [("item", 3)]) (N := NRw) (sc := defScope sRow) (by decide +kernel)) (fun _ _ _ _ _ => pg_name (i := 3) nd rfl (Or.inl rfl)) (fun _ _ _ _ _ => pts_nil)
      (fun _ _ _ _ _ => pe_call GI (hr.mono (by decide)) rfl mI0 kI0 bI0 .nil pass0 (pa_cons (pv 0) (pa_cons (pv 3) pa_nil)))) pa_nil))))))) (pss_one (ps_raise rfl (takes_of rfl rfl rfl rfl) (pmk_oex U.T iC tI oI (hr.mono (by decide)) bI .nil pass0 (by rfl) U.g (pa_cons (pv 1) pa_nil)))) pss_nil)), ?_⟩
  have sq := R.at_.sq
  have few := R.few
  have tyT : TyX K H (.ref r) (.type "tuple") := dp_ty (dp_rowI sq)
  refine ⟨_, rfl, .ref r, .ty "tuple", _, _, true, rfl, .ty "tuple", tyT, kit_ty (by decide +kernel), _, rfl, ?_⟩
  refine ⟨_, rfl, r, _, rfl, .inr sq, _, _, rfl, rfl, ?_⟩
  have e1 : decide ((((row.map V.int).length : Nat) : Int) ≤ 4) = true := by
    rw [List.length_map]
    exact decide_eq_true (by omega)
  refine ⟨_, rfl, true, congrArg V.bl e1, ?_⟩
  refine ⟨_, rfl, r, rfl, ⟨_, sq⟩, fun D1 nD1 => lc_bools (walk_tup (K := K) (a := r) (xs := row.map V.int)) (row.map fun _ => true) (by rw [List.length_map, List.length_map]) (Nat.lt_of_le_of_lt (show (row.map V.int).length ≤ 100 by rw [List.length_map]; omega) (by decide)) nD1 (fun _ s1 => DQ.Same.seqT s1 sq) (fun _ _ _ _ y => by rw [y.1]; exact fun _ _ h => h)
        (fun i v' H2 H3 b' hi hb s1 y R' hR => ?_) (fun H2 s2 e2 => ?_) (fun _ _ _ _ _ m h => m _ _ h)⟩
  · obtain ⟨rfl, hv⟩ := y
    obtain ⟨c, hc, rfl⟩ := at_map hv
    obtain rfl : b' = true := by
      rw [List.getElem?_map, hc] at hb
      injection hb with hb
      exact hb.symm
    obtain ⟨t, ma, ca, ia, fa, rs, rfl, ht, hma, hca, hia, hfa, tp⟩ := R.sto
    refine ⟨rfl, _, rfl, _, rfl, t, ia, .str "store", .ref ma, .ref ca, .ref fa, S.items, .int c, .int c, rfl, .inl (.inl (s1 _ _ ht)), SqL.of (s1 _ _ hia), .int c, ?_⟩
    rw [okItem_in R.drawn (R.mem c (List.mem_of_getElem? hc))]
    exact hR _ fun _ _ h => h
  refine ⟨D1, _, rfl, SqL.of e2, _, rfl, ?_⟩
  have allT : (row.map fun _ => true).all _root_.id = true := List.all_eq_true.mpr fun b hb => by
    obtain ⟨_, _, rfl⟩ := List.mem_map.mp hb
    rfl
  rw [allT]
  exact q H2 s2
/-- marks and columns as data -/
def nameD (S : Store) : PyData := .tuple [.list (S.marks.map PyData.str), .list (S.columns.map PyData.str)]
theorem name_shaped {m : Nat} {S : Store} (D : Drawn m S) : SeqAt.shaped (nameD S) = true ∧ PyData.eqv (nameD S) (nameD S) = true := by
  obtain ⟨k, hk, ek⟩ := D.marks
  obtain ⟨j, h1, h2, ej⟩ := D.columns
  unfold nameD
  rw [ek, ej]
  have c : j = 1 ∨ j = 2 := by omega
  have d : k = 0 ∨ k = 1 ∨ k = 2 ∨ k = 3 := by omega
  rcases c with rfl | rfl <;> rcases d with rfl | rfl | rfl | rfl <;> exact ⟨by decide +kernel, by decide +kernel⟩
def spSecond : Sp := fun vs H Q _ => ∃ (v u : V) (m : Nat) (S S' : Store), vs = [v, u] ∧ m ≤ 2000 ∧ Drawn m S ∧ Drawn m S' ∧ StoAt H v S ∧ StoAt H u S' ∧ S'.marks = S.marks ∧ S'.columns = S.columns ∧ ∀ H', Same H H' → Q .non H'
theorem ok_second {f fc C C0 : Addr} {fd fdc : FuncData} (F : Fun K "check_second_store" "check_second_store" sSecond f fd)
    (GC : FnOk P w K mg base (L2.CX P w) 7 fc fdc ["store"] (spCheck K C0)) (bC : Binds K fdc ["store"] []) (kC : PySem.W.keepIn K (.ref fc) = true) (mC : mg "check_store" = some (.ref fc))
    (U : ErrUse P w K mg base "Unlike" C) : FnOk P w K mg base (L2.CX P w) 8 f fd ["one", "other"] spSecond := by
  obtain ⟨fI, fdI, ds, iC, tI, oI, bI, _, _, _⟩ := U.ok
  refine F.okX scSecond (fun vs H Q E h => ?_) (fun cdv A outer s H vs Q E hr h => ?_)
  · obtain ⟨_, _, _, _, _, rfl, _⟩ := h
    rfl
  obtain ⟨v, u, m, S, S', rfl, hm, D, D', A1, A2, em, ec, q⟩ := h
  refine ⟨_, pss_cons (ps_expr (pe_callS GC hr rfl mC kC bC (fun σ => passAt (takes_of rfl rfl rfl rfl) σ) (pa_cons (pv 1) pa_nil)))
    (pss_one (ps_if (pt_cmpR (op_neD hr.units) (pe_slice (r := rSlT K) sl_tup (pv 0) (po_some pe_int) (po_some pe_int)) (pe_slice (r := rSlT K) sl_tup (pv 1) (po_some pe_int) (po_some pe_int)) (nomark _)) (pss_one (ps_raise rfl (takes_of rfl rfl rfl rfl) (pmk_oex U.T iC tI oI (hr.mono (by decide)) bI .nil pass0 (by rfl) U.g (pa_cons (pv 1) pa_nil)))) pss_nil)), ?_⟩
  refine ⟨_, rfl, u, true, rfl, store_asks hm D' A2 fun H1 sm => ⟨rfl, fun _ => ?_, (fun e => nomatch e)⟩⟩
  obtain ⟨t, ma, ca, ia, fa, rs, rfl, ht, hma, hca, hia, hfa, tp⟩ := stoAt_same sm A1
  obtain ⟨t', ma', ca', ia', fa', rs', rfl, ht', hma', hca', hia', hfa', tp'⟩ := stoAt_same sm A2
  refine ⟨_, rfl, _, rfl, _, rfl, t, _, rfl, .inl (.inl ht), (fun z => absurd (show (1 : Nat) = 0 from z.1) (by decide)), fun p1 n1 => ?_⟩
  have g1 := same_new n1 (o := .tup (cutV [.str "store", .ref ma, .ref ca, .ref ia, .ref fa] (some 1) (some 3)))
  refine ⟨_, rfl, _, rfl, _, rfl, t', _, rfl, .inl (.inl (g1 _ _ ht')), (fun z => absurd (show (1 : Nat) = 0 from z.1) (by decide)), fun p2 n2 => ?_⟩
  have g2 := same_new n2 (o := .tup (cutV [.str "store", .ref ma', .ref ca', .ref ia', .ref fa'] (some 1) (some 3)))
  obtain ⟨sh, eq⟩ := name_shaped D
  have g := g1.trans g2
  have d1 : Dp K (L2.upd (L2.upd H1 p1 (.tup (cutV [.str "store", .ref ma, .ref ca, .ref ia, .ref fa] (some 1) (some 3)))) p2 (.tup (cutV [.str "store", .ref ma', .ref ca', .ref ia', .ref fa'] (some 1) (some 3)))) (.ref p1) (nameD S) :=
    .tup (.inl (.inl (g2 _ _ upd_same))) (.cons (.lst (SqL.of (g _ _ hma)) (dp_texts _)) (.cons (.lst (SqL.of (g _ _ hca)) (dp_texts _)) .nil))
  have d2 : Dp K (L2.upd (L2.upd H1 p1 (.tup (cutV [.str "store", .ref ma, .ref ca, .ref ia, .ref fa] (some 1) (some 3)))) p2 (.tup (cutV [.str "store", .ref ma', .ref ca', .ref ia', .ref fa'] (some 1) (some 3)))) (.ref p2) (nameD S) := by
    refine .tup (.inl (.inl upd_same)) (.cons (.lst (SqL.of (g _ _ hma')) ?_) (.cons (.lst (SqL.of (g _ _ hca')) ?_) .nil))
    · rw [em]; exact dp_texts _
    · rw [ec]; exact dp_texts _
  refine ⟨nameD S, nameD S, d1, d2, sh, sh, false, by rw [eq]; rfl, ?_⟩
  exact q _ (sm.trans g)
end
end DQ

set_option Elab.async false
set_option linter.all false
set_option maxRecDepth 100000
set_option maxHeartbeats 4000000
namespace DQ
open PySem PySem.Spec PyProof.Rows L2
/-! ### the checks of any data -/
def rowD (ns : List Int) : PyData → Bool
  | .tuple ds => decide (ds.length ≤ 4) && ds.all (okItem ns)
  | _ => false
section
variable {P : Program} {w : World} {K : PySem.W.Frag} {mg : Str → Option Value} {base : Heap}
def spBtwG (K : PySem.W.Frag) (C : Addr) : Sp := fun vs H Q E => ∃ (v : V) (d : PyData) (a b : Int), vs = [v, .int a, .int b] ∧ Dp K H v d ∧ (betweenD a b d = false → Throws E C v H) ∧ (betweenD a b d = true → Q .non H)
theorem ok_btwG {f fB C : Addr} {fd dB : FuncData} (F : Fun K "check_between" "check_between" sBtw f fd) (GB : FnOk P w K mg base CX0 2 fB dB ["value", "least", "most"] (spBetween K)) (bB : Binds K dB ["value", "least", "most"] []) (kB : PySem.W.keepIn K (.ref fB) = true) (mB : mg "is_between" = some (.ref fB))
    (U : ErrUse P w K mg base "InvalidNumber" C) : FnOk P w K mg base (L2.CX P w) 3 f fd ["value", "least", "most"] (spBtwG K C) := by
  obtain ⟨fI, fdI, ds, iC, tI, oI, bI, _, _, _⟩ := U.ok
  refine F.okX scBtw (fun vs H Q E h => ?_) (fun cdv A outer s H vs Q E hr h => ?_)
  · obtain ⟨_, _, _, _, rfl, _⟩ := h
    rfl
  obtain ⟨v, d, a, b, rfl, hd, bad, good⟩ := h
  refine ⟨_, pss_one (ps_if (pt_not (pt_val (pe_call GB (hr.mono (by decide)) rfl mB kB bB .nil pass0 (pa_cons (pv 0) (pa_cons (pv 1) (pa_cons (pv 2) pa_nil)))))) (pss_one (ps_raise rfl (takes_of rfl rfl rfl rfl) (pmk_oex U.T iC tI oI (hr.mono (by decide)) bI .nil pass0 (by rfl) U.g (pa_cons (pv 0) pa_nil)))) pss_nil), ?_⟩
  refine ⟨_, rfl, _, rfl, _, rfl, v, d, a, b, rfl, hd, _, rfl, ite2 (fun c => ?_) fun c => ?_⟩
  · have c : betweenD a b d = false := by simpa using c
    exact ⟨_, rfl, (show 1 ≤ 1000 by decide), throw_read U.T U.noV (bad c)⟩
  · have c : betweenD a b d = true := by simpa using c
    exact good c
def spRowG (K : PySem.W.Frag) (C : Addr) : Sp := fun vs H Q E => ∃ (v x : V) (S : Store) (d : PyData), vs = [v, x] ∧ StoAt H v S ∧ Dp K H x d ∧ (rowD S.items d = false → ∀ H', Same H H' → Throws E C x H') ∧ (rowD S.items d = true → ∀ H', Same H H' → Q .non H')
theorem ok_rowG {f fI0 C : Addr} {fd dI0 : FuncData} {t1 : Tok} (F : Fun K "check_row" "check_row" sRow f fd) (GI : FnOk P w K mg base CX0 4 fI0 dI0 ["store", "value"] (spIsItem K)) (bI0 : Binds K dI0 ["store", "value"] []) (kI0 : PySem.W.keepIn K (.ref fI0) = true) (mI0 : mg "is_item" = some (.ref fI0))
    (U : ErrUse P w K mg base "InvalidList" C) (mI : mg "isinstance" = none) (mTuple : mg "tuple" = none) (mLen : mg "len" = none) (mAll : mg "all" = none) (mM : mg "MOST_IN_ROW" = some (.int 4 t1)) : FnOk P w K mg base (L2.CX P w) 5 f fd ["store", "row"] (spRowG K C) := by
  obtain ⟨fI, fdI, ds, iC, tI, oI, bI, _, _, _⟩ := U.ok
  refine F.okX scRow (fun vs H Q E h => ?_) (fun cdv A outer s H vs Q E hr h => ?_)
  · obtain ⟨_, _, _, _, rfl, _⟩ := h
    rfl
  obtain ⟨v, x, S, d, rfl, A0, hd, bad, good⟩ := h
  have nd := scRow.nd
  refine ⟨_, pss_cons (ps_set (i := 2) nd rfl (.inl rfl) (pe_and (pe_callB call_isi (by rfl) mI (by decide +kernel) (pa_cons (pv 1) (pa_cons (pe_bltn (v := .ty "tuple") (by rfl) mTuple (by decide +kernel) rfl) pa_nil)))
      (pe_one (pe_cmpR op_le (pe_callB call_len_seq (by rfl) mLen PySem.boot_len (pa_cons (pv 1) pa_nil)) (pe_glob (v := .int 4) (by rfl) mM ⟨_, rfl⟩) (by rfl)))))
    (pss_one (ps_if (PW.pt (pw_or (pt_not (pt_val (pv 2))) (pw_or1 (pt_not (pt_val (pe_callB (cr_all rfl) (by rfl) mAll (by decide +kernel) (pa_cons (pe_lc (own := [("item", 3)]) (g := gName 3) (tt := tYes) rfl nd (pi_tup (pv 1)) (blkOk_by (own := [("item", 3)]) (N := NRw) (sc := defScope sRow) (by decide +kernel)) (fun _ _ _ _ _ => pg_name (i := 3) nd rfl (Or.inl rfl)) (fun _ _ _ _ _ => pts_nil)
      (fun _ _ _ _ _ => pe_call GI (hr.mono (by decide)) rfl mI0 kI0 bI0 .nil pass0 (pa_cons (pv 0) (pa_cons (pv 3) pa_nil)))) pa_nil))))))) (pss_one (ps_raise rfl (takes_of rfl rfl rfl rfl) (pmk_oex U.T iC tI oI (hr.mono (by decide)) bI .nil pass0 (by rfl) U.g (pa_cons (pv 1) pa_nil)))) pss_nil)), ?_⟩
  have ty := dp_ty hd
  refine ⟨_, rfl, x, .ty "tuple", _, _, _, rfl, .ty "tuple", ty, kit_data (by simp) d, _, rfl, ite2 (fun c1 => ?_) fun c1 => ?_⟩
  · cases hd with
    | @tup a xs ds' hs ha =>
      have len := dpAll_len ha
      refine ⟨_, rfl, a, xs, rfl, .inr hs, _, _, rfl, rfl, ?_⟩
      by_cases few : ds'.length ≤ 4
      · have e1 : decide (((xs.length : Nat) : Int) ≤ 4) = true := decide_eq_true (by omega)
        refine ⟨_, rfl, true, congrArg V.bl e1, ?_⟩
        refine ⟨_, rfl, a, rfl, ⟨_, hs⟩, fun D1 nD1 => lc_bools (walk_tup (K := K) (a := a) (xs := xs)) (ds'.map (okItem S.items)) (by rw [List.length_map, len]) (Nat.lt_of_le_of_lt (show xs.length ≤ 100 by omega) (by decide)) nD1 (fun _ s1 => DQ.Same.seqT s1 hs) (fun _ _ _ _ y => by rw [y.1]; exact fun _ _ h => h)
              (fun i v' H2 H3 b' hi hb s1 y R' hR => ?_) (fun H2 s2 e2 => ?_) (fun _ _ _ _ _ m h => m _ _ h)⟩
        · obtain ⟨rfl, hv⟩ := y
          obtain ⟨t, ma, ca, ia, fa, rs, rfl, ht, hma, hca, hia, hfa, tp⟩ := A0
          obtain ⟨di, hdi, rfl⟩ := at_map hb
          obtain ⟨di', hdi', dpi⟩ := dp_at ha hv
          rw [hdi] at hdi'
          injection hdi' with hdi'
          subst hdi'
          refine ⟨rfl, _, rfl, _, rfl, t, ia, .str "store", .ref ma, .ref ca, .ref fa, S.items, _, di, rfl, .inl (.inl (s1 _ _ ht)), SqL.of (s1 _ _ hia), dp_same s1 _ _ dpi, ?_⟩
          exact hR _ fun _ _ h => h
        refine ⟨D1, _, rfl, SqL.of e2, _, rfl, ?_⟩
        have er : rowD S.items (.tuple ds') = (ds'.map (okItem S.items)).all _root_.id := by
          show (decide (ds'.length ≤ 4) && ds'.all (okItem S.items)) = _
          rw [decide_eq_true few, Bool.true_and, List.all_map]
          rfl
        rw [er] at bad good
        refine ite2 (fun c => ?_) fun c => ?_
        · exact ⟨_, rfl, (show 1 ≤ 1000 by decide), throw_read U.T U.noV (bad (by simpa using c) H2 s2)⟩
        · exact good (by simpa using c) H2 s2
      · have e1 : decide (((xs.length : Nat) : Int) ≤ 4) = false := decide_eq_false (by omega)
        have er : rowD S.items (.tuple ds') = false := by
          show (decide (ds'.length ≤ 4) && ds'.all (okItem S.items)) = _
          rw [decide_eq_false few, Bool.false_and]
        refine ⟨_, rfl, false, congrArg V.bl e1, ?_⟩
        exact ⟨_, rfl, (show 1 ≤ 1000 by decide), throw_read U.T U.noV (bad er H fun _ _ h => h)⟩
    | _ => exact absurd c1 (by simp only [isT, tyN]; decide)
  · have er : rowD S.items d = false := by
      cases hd with
      | tup hs ha => exact absurd rfl c1
      | _ => rfl
    refine ⟨_, rfl, false, by simpa using c1, ?_⟩
    exact ⟨_, rfl, (show 1 ≤ 1000 by decide), throw_read U.T U.noV (bad er H fun _ _ h => h)⟩
end
end DQ

set_option Elab.async false
set_option linter.all false
set_option maxRecDepth 100000
set_option maxHeartbeats 4000000
namespace DQ
open PySem PySem.Spec PyProof.Rows L2
/-- at v stands no store -/
def NoStoG (K : PySem.W.Frag) (H : Hp) (v : V) : Prop := ∀ (H' : Hp) (Q : VK) (E : XK), Same H H' → (∀ H'', Same H' H'' → Q (.bl false) H'') → spIsStore K [v] H' Q E
theorem NoStoG.same {K : PySem.W.Frag} {H H1 : Hp} {v : V} (h : NoStoG K H v) (s : Same H H1) : NoStoG K H1 v := fun H' Q E s' q => h H' Q E (s.trans s') q
/-- at v stands a store, its marks and columns such data -/
structure StoG (K : PySem.W.Frag) (H : Hp) (v : V) (dn : PyData) : Prop where
  yes : ∀ (H' : Hp) (Q : VK) (E : XK), Same H H' → (∀ H'', Same H' H'' → Q (.bl true) H'') → spIsStore K [v] H' Q E
  at_ : ∃ (t : Addr) (x0 vm vc vi vf : V) (dm dc : PyData), v = .ref t ∧ SqT K H t [x0, vm, vc, vi, vf] ∧ Dp K H vm dm ∧ Dp K H vc dc ∧ dn = .tuple [dm, dc]
  sh : SeqAt.shaped dn = true
theorem StoG.same {K : PySem.W.Frag} {H H1 : Hp} {v : V} {dn : PyData} (h : StoG K H v dn) (s : Same H H1) : StoG K H1 v dn := by
  refine ⟨fun H' Q E s' q => h.yes H' Q E (s.trans s') q, ?_, h.sh⟩
  obtain ⟨t, x0, vm, vc, vi, vf, dm, dc, e, sq, h1, h2, en⟩ := h.at_
  exact ⟨t, x0, vm, vc, vi, vf, dm, dc, e, DQ.Same.seqT s sq, dp_same s _ _ h1, dp_same s _ _ h2, en⟩
theorem stoG_of {K : PySem.W.Frag} {H : Hp} {v : V} {m : Nat} {S : Store} (hm : m ≤ 2000) (D : Drawn m S) (A : StoAt H v S) : StoG K H v (nameD S) := by
  refine ⟨fun H' Q E s q => store_asks hm D (stoAt_same s A) q, ?_, (name_shaped D).1⟩
  obtain ⟨t, ma, ca, ia, fa, rs, rfl, ht, hma, hca, hia, hfa, tp⟩ := A
  exact ⟨t, _, _, _, _, _, _, _, rfl, .inl (.inl ht), .lst (SqL.of hma) (dp_texts _), .lst (SqL.of hca) (dp_texts _), rfl⟩
section
variable {P : Program} {w : World} {K : PySem.W.Frag} {mg : Str → Option Value} {base : Heap}
def spSecondG (K : PySem.W.Frag) (C0 CU : Addr) : Sp := fun vs H Q E => ∃ (v u : V) (S : Store) (m : Nat), vs = [v, u] ∧ m ≤ 2000 ∧ Drawn m S ∧ StoAt H v S ∧
  ((NoStoG K H u ∧ ∀ H', Same H H' → Throws E C0 u H') ∨
   ∃ dn, StoG K H u dn ∧ (PyData.eqv (nameD S) dn = false → ∀ H', Same H H' → Throws E CU u H') ∧ (PyData.eqv (nameD S) dn = true → ∀ H', Same H H' → Q .non H'))
theorem ok_secondG {f fc C C0 : Addr} {fd fdc : FuncData} (F : Fun K "check_second_store" "check_second_store" sSecond f fd)
    (GC : FnOk P w K mg base (L2.CX P w) 7 fc fdc ["store"] (spCheck K C0)) (bC : Binds K fdc ["store"] []) (kC : PySem.W.keepIn K (.ref fc) = true) (mC : mg "check_store" = some (.ref fc))
    (U : ErrUse P w K mg base "Unlike" C) : FnOk P w K mg base (L2.CX P w) 8 f fd ["one", "other"] (spSecondG K C0 C) := by
  obtain ⟨fI, fdI, ds, iC, tI, oI, bI, _, _, _⟩ := U.ok
  refine F.okX scSecond (fun vs H Q E h => ?_) (fun cdv A outer s H vs Q E hr h => ?_)
  · obtain ⟨_, _, _, _, rfl, _⟩ := h
    rfl
  obtain ⟨v, u, S, m, rfl, hm, D, A1, h⟩ := h
  refine ⟨_, pss_cons (ps_expr (pe_callS GC hr rfl mC kC bC (fun σ => passAt (takes_of rfl rfl rfl rfl) σ) (pa_cons (pv 1) pa_nil)))
    (pss_one (ps_if (pt_cmpR (op_neD hr.units) (pe_slice (r := rSlT K) sl_tup (pv 0) (po_some pe_int) (po_some pe_int)) (pe_slice (r := rSlT K) sl_tup (pv 1) (po_some pe_int) (po_some pe_int)) (nomark _)) (pss_one (ps_raise rfl (takes_of rfl rfl rfl rfl) (pmk_oex U.T iC tI oI (hr.mono (by decide)) bI .nil pass0 (by rfl) U.g (pa_cons (pv 1) pa_nil)))) pss_nil)), ?_⟩
  rcases h with ⟨no, th⟩ | ⟨dn, G, bad, good⟩
  · exact ⟨_, rfl, u, false, rfl, no H _ _ (fun _ _ h => h) fun H1 s1 => ⟨rfl, (fun e => nomatch e), fun _ => th H1 s1⟩⟩
  refine ⟨_, rfl, u, true, rfl, G.yes H _ _ (fun _ _ h => h) fun H1 sm => ⟨rfl, fun _ => ?_, (fun e => nomatch e)⟩⟩
  obtain ⟨t, ma, ca, ia, fa, rs, rfl, ht, hma, hca, hia, hfa, tp⟩ := stoAt_same sm A1
  obtain ⟨t', x0, vm, vc, vi, vf, dm, dc, rfl, sq, h1, h2, rfl⟩ := (G.same sm).at_
  refine ⟨_, rfl, _, rfl, _, rfl, t, _, rfl, .inl (.inl ht), (fun z => absurd (show (1 : Nat) = 0 from z.1) (by decide)), fun p1 n1 => ?_⟩
  have g1 := same_new n1 (o := .tup (cutV [.str "store", .ref ma, .ref ca, .ref ia, .ref fa] (some 1) (some 3)))
  refine ⟨_, rfl, _, rfl, _, rfl, t', _, rfl, DQ.Same.seqT g1 sq, (fun z => absurd (show (1 : Nat) = 0 from z.1) (by decide)), fun p2 n2 => ?_⟩
  have g2 := same_new n2 (o := .tup (cutV [x0, vm, vc, vi, vf] (some 1) (some 3)))
  obtain ⟨sh, _⟩ := name_shaped D
  have g := g1.trans g2
  have d1 : Dp K (L2.upd (L2.upd H1 p1 (.tup (cutV [.str "store", .ref ma, .ref ca, .ref ia, .ref fa] (some 1) (some 3)))) p2 (.tup (cutV [x0, vm, vc, vi, vf] (some 1) (some 3)))) (.ref p1) (nameD S) :=
    .tup (.inl (.inl (g2 _ _ upd_same))) (.cons (.lst (SqL.of (g _ _ hma)) (dp_texts _)) (.cons (.lst (SqL.of (g _ _ hca)) (dp_texts _)) .nil))
  have d2 : Dp K (L2.upd (L2.upd H1 p1 (.tup (cutV [.str "store", .ref ma, .ref ca, .ref ia, .ref fa] (some 1) (some 3)))) p2 (.tup (cutV [x0, vm, vc, vi, vf] (some 1) (some 3)))) (.ref p2) (.tuple [dm, dc]) :=
    .tup (.inl (.inl upd_same)) (.cons (dp_same g _ _ h1) (.cons (dp_same g _ _ h2) .nil))
  refine ⟨nameD S, .tuple [dm, dc], d1, d2, sh, G.sh, _, rfl, ite2 (fun c => ?_) fun c => ?_⟩
  · exact ⟨_, rfl, (show 1 ≤ 1000 by decide), throw_read U.T U.noV (bad (by simpa using c) _ (sm.trans g))⟩
  · exact good (by simpa using c) _ (sm.trans g)
end
end DQ

set_option Elab.async false
set_option linter.all false
set_option maxRecDepth 100000
set_option maxHeartbeats 4000000
namespace DQ
open PySem PySem.Spec PyProof.Rows L2
abbrev sAtomsP : Stmt := topS 44
abbrev sKindP : Stmt := topS 45
abbrev sBoth : Stmt := topS 46
abbrev sOne : Stmt := topS 47
abbrev sAlike : Stmt := topS 48
abbrev sLeast : Stmt := topS 49
theorem scAtomsP : FnScope ["store", "row"] ["store", "row"] (defScope sAtomsP) := ⟨rfl, rfl, rfl, by decide +kernel, rfl, by decide +kernel, by decide +kernel⟩
theorem scKindP : FnScope ["store", "row", "depth"] ["store", "row", "depth"] (defScope sKindP) := ⟨rfl, rfl, rfl, by decide +kernel, rfl, by decide +kernel, by decide +kernel⟩
abbrev P4 : List Str := ["one", "row", "other", "second"]
abbrev P5 : List Str := ["one", "row", "other", "second", "depth"]
abbrev N6c : List Str := ["one", "row", "other", "second", "depth", "columns"]
theorem scBoth : FnScope P4 P4 (defScope sBoth) := ⟨rfl, rfl, rfl, by decide +kernel, rfl, by decide +kernel, by decide +kernel⟩
theorem scOne : FnScope N6c P5 (defScope sOne) := ⟨rfl, rfl, rfl, by decide +kernel, rfl, by decide +kernel, by decide +kernel⟩
theorem scAlike : FnScope P5 P5 (defScope sAlike) := ⟨rfl, rfl, rfl, by decide +kernel, rfl, by decide +kernel, by decide +kernel⟩
theorem scLeast : FnScope P5 P4 (defScope sLeast) := ⟨rfl, rfl, rfl, by decide +kernel, rfl, by decide +kernel, by decide +kernel⟩
/-- two rows of two stores with the same names -/
structure Two (K : PySem.W.Frag) (H : Hp) (m : Nat) (S S' : Store) (v u : V) (r z : Addr) (row sec : List Int) : Prop where
  one : RowOf K H m S v r row
  two : RowOf K H m S' u z sec
  small : m ≤ 100
  marks : S'.marks = S.marks
  cols : S'.columns = S.columns
  len : sec.length = row.length
theorem Two.same {K : PySem.W.Frag} {H H' : Hp} {m : Nat} {S S' : Store} {v u : V} {r z : Addr} {row sec : List Int} (h : Two K H m S S' v u r z row sec) (s : Same H H') : Two K H' m S S' v u r z row sec := ⟨h.one.same s, h.two.same s, h.small, h.marks, h.cols, h.len⟩
abbrev kindOf (S : Store) (n : Nat) (row : List Int) : PyData := kindD (tabOf S) S.columns.length n row
def eqK (S S' : Store) (n : Nat) (row sec : List Int) : Bool := PyData.eqv (kindOf S n row) (kindOf S' n sec)
theorem cols_few {m : Nat} {S : Store} (D : Drawn m S) : S.columns.length ≤ 10 := by
  obtain ⟨j, _, hj, ej⟩ := D.columns
  rw [ej, List.length_take]
  omega
theorem tab_ends (S : Store) : ∀ i ∈ (tabOf S).items, ((tabOf S).ends i).length = 2 * S.columns.length := fun i _ => ends_len _ _ _
section
variable {P : Program} {w : World} {K : PySem.W.Frag} {mg : Str → Option Value} {base : Heap}
def spAtomsP (K : PySem.W.Frag) : Sp := fun vs H Q _ => ∃ (v : V) (r : Addr) (m : Nat) (S : Store) (row : List Int), vs = [v, .ref r] ∧ m ≤ 100 ∧ RowOf K H m S v r row ∧ ∀ p H', Same H H' → Dp K H' (.ref p) (atomsD (tabOf S) S.columns.length row) → Q (.ref p) H'
def spKindP (K : PySem.W.Frag) : Sp := fun vs H Q _ => ∃ (v : V) (r : Addr) (m n : Nat) (S : Store) (row : List Int), vs = [v, .ref r, .int (n : Nat)] ∧ m ≤ 100 ∧ n ≤ 4 ∧ RowOf K H m S v r row ∧ ∀ p H', Same H H' → Dp K H' (.ref p) (kindOf S n row) → Q (.ref p) H'
def spBoth (K : PySem.W.Frag) : Sp := fun vs H Q _ => ∃ (v u : V) (r z : Addr) (m : Nat) (S S' : Store) (row sec : List Int), vs = [v, .ref r, u, .ref z] ∧ Two K H m S S' v u r z row sec ∧ ∀ H', Same H H' → Q .non H'
def spOne (K : PySem.W.Frag) : Sp := fun vs H Q _ => ∃ (v u : V) (r z : Addr) (m n : Nat) (S S' : Store) (row sec : List Int), vs = [v, .ref r, u, .ref z, .int (n : Nat)] ∧ n ≤ 4 ∧ Two K H m S S' v u r z row sec ∧ ∀ H', Same H H' → Q (.bl (eqK S S' n row sec)) H'
def spLeast (K : PySem.W.Frag) : Sp := fun vs H Q _ => ∃ (v u : V) (r z : Addr) (m : Nat) (S S' : Store) (row sec : List Int), vs = [v, .ref r, u, .ref z] ∧ Two K H m S S' v u r z row sec ∧
  (((∀ n, n ≤ 4 → eqK S S' n row sec = true) ∧ ∀ H', Same H H' → Q .non H') ∨ (eqK S S' 0 row sec = false ∧ ∀ H', Same H H' → Q (.int 0) H'))
section
variable {fC fR fT fA fK fS fB fO fBt C0 : Addr} {dC dR dT dA dK dS dB dO dBt : FuncData}
theorem ok_atomsP {f : Addr} {fd : FuncData} (F : Fun K "atoms" "atoms" sAtomsP f fd)
    (GC : FnOk P w K mg base (L2.CX P w) 7 fC dC ["store"] (spCheck K C0)) (bC : Binds K dC ["store"] []) (kC : PySem.W.keepIn K (.ref fC) = true) (mC : mg "check_store" = some (.ref fC))
    (GR : FnOk P w K mg base (L2.CX P w) 5 fR dR ["store", "row"] (spRow K)) (bR : Binds K dR ["store", "row"] []) (kR : PySem.W.keepIn K (.ref fR) = true) (mR : mg "check_row" = some (.ref fR))
    (GT : FnOk P w K mg base CX0 1 fT dT ["store"] spTable) (bT : Binds K dT ["store"] []) (kT : PySem.W.keepIn K (.ref fT) = true) (mT : mg "table_of" = some (.ref fT))
    (GA : FnOk P w K mg base CX0 2 fA dA ["table", "columns", "row"] (spAtoms K)) (bA : Binds K dA ["table", "columns", "row"] []) (kA : PySem.W.keepIn K (.ref fA) = true) (mA : mg "atoms_at" = some (.ref fA))
    (mLen : mg "len" = none) : FnOk P w K mg base (L2.CX P w) 8 f fd ["store", "row"] (spAtomsP K) := by
  refine F.okX scAtomsP (fun vs H Q E h => ?_) (fun cdv A outer s H vs Q E hr h => ?_)
  · obtain ⟨_, _, _, _, _, rfl, _⟩ := h
    rfl
  obtain ⟨v, r, m, S, row, rfl, hm, R, q⟩ := h
  refine ⟨_, pss_cons (ps_expr (pe_callS GC hr rfl mC kC bC (fun σ => passAt (takes_of rfl rfl rfl rfl) σ) (pa_cons (pv 0) pa_nil)))
    (pss_cons (ps_expr (pe_callS GR (hr.mono (by decide)) rfl mR kR bR (fun σ => passAt (takes_of rfl rfl rfl rfl) σ) (pa_cons (pv 0) (pa_cons (pv 1) pa_nil))))
    (pss_one (ps_ret (pe_call GA (hr.mono (by decide)) rfl mA kA bA .nil pass0 (pa_cons (pe_call GT (hr.mono (by decide)) rfl mT kT bT .nil pass0 (pa_cons (pv 0) pa_nil)) (pa_cons (pe_callB call_len_seq (by rfl) mLen PySem.boot_len (pa_cons (pe_ix (r := rIxT K) ix_tup (pv 0) pe_int (fun _ _ => rfl)) pa_nil)) (pa_cons (pv 1) pa_nil))))))), ?_⟩
  have R0 := R
  refine ⟨_, rfl, v, true, rfl, store_asks (by omega) R.drawn R.sto fun H1 s1 => ⟨rfl, fun _ => ?_, (fun e => nomatch e)⟩⟩
  refine ⟨_, rfl, _, rfl, v, r, m, S, row, rfl, R.same s1, fun H2 s2 => ?_⟩
  have R2 := R.same (s1.trans s2)
  refine ⟨_, rfl, v, S, m, rfl, by omega, R.drawn, R2.sto, fun d H3 kvs ft fb s3 nd ed ta => ?_⟩
  have R3 := R2.same s3
  obtain ⟨t, ma, ca, ia, fa, rs, rfl, ht, hma, hca, hia, hfa, tp⟩ := R3.sto
  refine ⟨_, rfl, t, _, 2, .ref ca, rfl, rfl, .inl (.inl ht), atI_nat (j := 2) rfl, ca, _, rfl, .inl (SqL.of hca), _, rfl, nil_read ?_⟩
  refine ⟨d, r, tabOf S, S.columns.length, row, by rw [List.length_map]; rfl, cols_few R.drawn, by have := R.few; omega, ⟨kvs, ft, fb, .inl ed, ta⟩, R3.at_, R.mem, tab_ends S, fun p H4 s4 dp => ?_⟩
  exact q p H4 (((s1.trans s2).trans s3).trans s4) dp
theorem ok_kindP {f : Addr} {fd : FuncData} {t1 : Tok} (F : Fun K "kind" "kind" sKindP f fd)
    (GC : FnOk P w K mg base (L2.CX P w) 7 fC dC ["store"] (spCheck K C0)) (bC : Binds K dC ["store"] []) (kC : PySem.W.keepIn K (.ref fC) = true) (mC : mg "check_store" = some (.ref fC))
    (GR : FnOk P w K mg base (L2.CX P w) 5 fR dR ["store", "row"] (spRow K)) (bR : Binds K dR ["store", "row"] []) (kR : PySem.W.keepIn K (.ref fR) = true) (mR : mg "check_row" = some (.ref fR))
    (GB : FnOk P w K mg base (L2.CX P w) 3 fBt dBt ["value", "least", "most"] spBtw) (bB : Binds K dBt ["value", "least", "most"] []) (kB : PySem.W.keepIn K (.ref fBt) = true) (mB : mg "check_between" = some (.ref fBt))
    (GT : FnOk P w K mg base CX0 1 fT dT ["store"] spTable) (bT : Binds K dT ["store"] []) (kT : PySem.W.keepIn K (.ref fT) = true) (mT : mg "table_of" = some (.ref fT))
    (GK : ∀ n : Nat, n ≤ 10 → FnOk P w K mg base CX0 (n + 3) fK dK PKd (spKind K n)) (bK : Binds K dK PKd []) (kK : PySem.W.keepIn K (.ref fK) = true) (mK : mg "kind_at" = some (.ref fK))
    (mLen : mg "len" = none) (mM : mg "MOST_DEPTH" = some (.int 4 t1)) : FnOk P w K mg base (L2.CX P w) 8 f fd ["store", "row", "depth"] (spKindP K) := by
  refine F.okX scKindP (fun vs H Q E h => ?_) (fun cdv A outer s H vs Q E hr h => ?_)
  · obtain ⟨_, _, _, _, _, _, rfl, _⟩ := h
    rfl
  obtain ⟨v, r, m, n, S, row, rfl, hm, n4, R, q⟩ := h
  refine ⟨_, pss_cons (ps_expr (pe_callS GC hr rfl mC kC bC (fun σ => passAt (takes_of rfl rfl rfl rfl) σ) (pa_cons (pv 0) pa_nil)))
    (pss_cons (ps_expr (pe_callS GR (hr.mono (by decide)) rfl mR kR bR (fun σ => passAt (takes_of rfl rfl rfl rfl) σ) (pa_cons (pv 0) (pa_cons (pv 1) pa_nil))))
    (pss_cons (ps_expr (pe_callS GB (hr.mono (by decide)) rfl mB kB bB (fun σ => passAt (takes_of rfl rfl rfl rfl) σ) (pa_cons (pv 2) (pa_cons pe_int (pa_cons (pe_glob (v := .int 4) (by rfl) mM ⟨_, rfl⟩) pa_nil)))))
    (pss_one (ps_ret (pe_call (GK n (by omega)) (hr.mono (by omega)) rfl mK kK bK .nil pass0 (pa_cons (pe_call GT (hr.mono (by decide)) rfl mT kT bT .nil pass0 (pa_cons (pv 0) pa_nil)) (pa_cons (pe_callB call_len_seq (by rfl) mLen PySem.boot_len (pa_cons (pe_ix (r := rIxT K) ix_tup (pv 0) pe_int (fun _ _ => rfl)) pa_nil)) (pa_cons (pv 1) (pa_cons (pv 2) pa_nil))))))))), ?_⟩
  refine ⟨_, rfl, v, true, rfl, store_asks (by omega) R.drawn R.sto fun H1 s1 => ⟨rfl, fun _ => ?_, (fun e => nomatch e)⟩⟩
  refine ⟨_, rfl, _, rfl, v, r, m, S, row, rfl, R.same s1, fun H2 s2 => ?_⟩
  have R2 := R.same (s1.trans s2)
  refine ⟨_, rfl, (n : Nat), 0, 4, rfl, by omega, by omega, ?_⟩
  refine ⟨_, rfl, v, S, m, rfl, by omega, R.drawn, R2.sto, fun d H3 kvs ft fb s3 nd ed ta => ?_⟩
  have R3 := R2.same s3
  obtain ⟨t, ma, ca, ia, fa, rs, rfl, ht, hma, hca, hia, hfa, tp⟩ := R3.sto
  refine ⟨_, rfl, t, _, 2, .ref ca, rfl, rfl, .inl (.inl ht), atI_nat (j := 2) rfl, ca, _, rfl, .inl (SqL.of hca), _, rfl, _, rfl, nil_read ?_⟩
  refine ⟨d, r, tabOf S, S.columns.length, row, by rw [List.length_map]; rfl, cols_few R.drawn, by have := R.few; omega, by show S.items.length ≤ 100; have := R.drawn.few; omega, ⟨kvs, ft, fb, .inl ed, ta⟩, R3.at_, R.mem, tab_ends S, fun p H4 s4 dp => ?_⟩
  exact q p H4 (((s1.trans s2).trans s3).trans s4) dp
theorem ok_both {f C : Addr} {fd : FuncData} (F : Fun K "check_both" "check_both" sBoth f fd)
    (GC : FnOk P w K mg base (L2.CX P w) 7 fC dC ["store"] (spCheck K C0)) (bC : Binds K dC ["store"] []) (kC : PySem.W.keepIn K (.ref fC) = true) (mC : mg "check_store" = some (.ref fC))
    (GR : FnOk P w K mg base (L2.CX P w) 5 fR dR ["store", "row"] (spRow K)) (bR : Binds K dR ["store", "row"] []) (kR : PySem.W.keepIn K (.ref fR) = true) (mR : mg "check_row" = some (.ref fR))
    (GS : FnOk P w K mg base (L2.CX P w) 8 fS dS ["one", "other"] spSecond) (bS : Binds K dS ["one", "other"] []) (kS : PySem.W.keepIn K (.ref fS) = true) (mS : mg "check_second_store" = some (.ref fS))
    (U : ErrUse P w K mg base "Unlike" C) (mLen : mg "len" = none) : FnOk P w K mg base (L2.CX P w) 9 f fd P4 (spBoth K) := by
  obtain ⟨fI, fdI, ds, iC, tI, oI, bI, _, _, _⟩ := U.ok
  refine F.okX scBoth (fun vs H Q E h => ?_) (fun cdv A outer s H vs Q E hr h => ?_)
  · obtain ⟨_, _, _, _, _, _, _, _, _, rfl, _⟩ := h
    rfl
  obtain ⟨v, u, r, z, m, S, S', row, sec, rfl, T, q⟩ := h
  refine ⟨_, pss_cons (ps_expr (pe_callS GC (hr.mono (by decide)) rfl mC kC bC (fun σ => passAt (takes_of rfl rfl rfl rfl) σ) (pa_cons (pv 0) pa_nil)))
    (pss_cons (ps_expr (pe_callS GR (hr.mono (by decide)) rfl mR kR bR (fun σ => passAt (takes_of rfl rfl rfl rfl) σ) (pa_cons (pv 0) (pa_cons (pv 1) pa_nil))))
    (pss_cons (ps_expr (pe_callS GS (hr.mono (by decide)) rfl mS kS bS (fun σ => passAt (takes_of rfl rfl rfl rfl) σ) (pa_cons (pv 0) (pa_cons (pv 2) pa_nil))))
    (pss_cons (ps_expr (pe_callS GR (hr.mono (by decide)) rfl mR kR bR (fun σ => passAt (takes_of rfl rfl rfl rfl) σ) (pa_cons (pv 2) (pa_cons (pv 3) pa_nil))))
    (pss_one (ps_if (pt_cmpR op_ne (pe_callB call_len_seq (by rfl) mLen PySem.boot_len (pa_cons (pv 1) pa_nil)) (pe_callB call_len_seq (by rfl) mLen PySem.boot_len (pa_cons (pv 3) pa_nil)) (nomark _)) (pss_one (ps_raise rfl (takes_of rfl rfl rfl rfl) (pmk_oex U.T iC tI oI (hr.mono (by decide)) bI .nil pass0 (by rfl) U.g (pa_cons (pv 3) pa_nil)))) pss_nil))))), ?_⟩
  have sm := T.small
  refine ⟨_, rfl, v, true, rfl, store_asks (by omega) T.one.drawn T.one.sto fun H1 s1 => ⟨rfl, fun _ => ?_, (fun e => nomatch e)⟩⟩
  refine ⟨_, rfl, _, rfl, v, r, m, S, row, rfl, T.one.same s1, fun H2 s2 => ?_⟩
  have T2 := T.same (s1.trans s2)
  refine ⟨_, rfl, _, rfl, v, u, m, S, S', rfl, by omega, T.one.drawn, T.two.drawn, T2.one.sto, T2.two.sto, T.marks, T.cols, fun H3 s3 => ?_⟩
  have T3 := T2.same s3
  refine ⟨_, rfl, _, rfl, u, z, m, S', sec, rfl, T3.two, fun H4 s4 => ?_⟩
  have T4 := T3.same s4
  refine ⟨_, rfl, r, _, rfl, .inr T4.one.at_.sq, _, rfl, z, _, rfl, .inr T4.two.at_.sq, rfl, false, ?_, ?_⟩
  · rw [List.length_map, List.length_map, T.len]
    simp
  · exact q H4 (((s1.trans s2).trans s3).trans s4)
theorem kind_shaped (S : Store) {n : Nat} (h : n ≤ 4) (row : List Int) : SeqAt.shaped (kindOf S n row) = true := like_shaped (like_kind _ _ n row) (by have := dep_kind n; omega)
theorem ok_one {f : Addr} {fd : FuncData} (F : Fun K "are_of_one_kind" "are_of_one_kind" sOne f fd)
    (GT : FnOk P w K mg base CX0 1 fT dT ["store"] spTable) (bT : Binds K dT ["store"] []) (kT : PySem.W.keepIn K (.ref fT) = true) (mT : mg "table_of" = some (.ref fT))
    (GK : ∀ n : Nat, n ≤ 10 → FnOk P w K mg base CX0 (n + 3) fK dK PKd (spKind K n)) (bK : Binds K dK PKd []) (kK : PySem.W.keepIn K (.ref fK) = true) (mK : mg "kind_at" = some (.ref fK))
    (mLen : mg "len" = none) : FnOk P w K mg base CX0 8 f fd P5 (spOne K) := by
  refine F.ok scOne (fun vs H Q E h => ?_) (fun cdv A outer s H vs Q E hr h => ?_)
  · obtain ⟨_, _, _, _, _, _, _, _, _, _, rfl, _⟩ := h
    rfl
  obtain ⟨v, u, r, z, m, n, S, S', row, sec, rfl, n4, T, q⟩ := h
  have nd := scOne.nd
  refine ⟨_, pss_cons (ps_set (i := 5) nd rfl (.inl rfl) (pe_callB call_len_seq (by rfl) mLen PySem.boot_len (pa_cons (pe_ix (r := rIxT K) ix_tup (pv 0) pe_int (fun _ _ => rfl)) pa_nil)))
    (pss_one (ps_ret (pe_cmpR (r := rEqD K) (op_eqD hr.units) (pe_call (GK n (by omega)) (hr.mono (by omega)) rfl mK kK bK .nil pass0 (pa_cons (pe_call GT (hr.mono (by decide)) rfl mT kT bT .nil pass0 (pa_cons (pv 0) pa_nil)) (pa_cons (pv 5) (pa_cons (pv 1) (pa_cons (pv 4) pa_nil)))))
      (pe_call (GK n (by omega)) (hr.mono (by omega)) rfl mK kK bK .nil pass0 (pa_cons (pe_call GT (hr.mono (by decide)) rfl mT kT bT .nil pass0 (pa_cons (pv 2) pa_nil)) (pa_cons (pv 5) (pa_cons (pv 3) (pa_cons (pv 4) pa_nil))))) (by rfl)))), ?_⟩
  have sm := T.small
  have D := T.one.drawn
  have D' := T.two.drawn
  obtain ⟨t, ma, ca, ia, fa, rs, ev, ht, hma, hca, hia, hfa, tp⟩ := T.one.sto
  refine ⟨v, rfl, t, _, 2, .ref ca, ev, rfl, .inl (.inl ht), atI_nat (j := 2) rfl, ca, _, rfl, .inl (SqL.of hca), ?_⟩
  rw [List.length_map]
  refine ⟨v, rfl, v, S, m, rfl, by omega, D, T.one.sto, fun d H3 kvs ft fb s3 nd ed ta => ?_⟩
  have T3 := T.same s3
  refine ⟨_, rfl, _, rfl, _, rfl, nil_read ⟨d, r, tabOf S, S.columns.length, row, rfl, cols_few D, by have := T.one.few; omega, by show S.items.length ≤ 100; have := D.few; omega, ⟨kvs, ft, fb, .inl ed, ta⟩, T3.one.at_, T.one.mem, tab_ends S, fun p H4 s4 dp => ?_⟩⟩
  have T4 := T3.same s4
  refine ⟨u, rfl, u, S', m, rfl, by omega, D', T4.two.sto, fun d' H5 kvs' ft' fb' s5 nd' ed' ta' => ?_⟩
  have T5 := T4.same s5
  refine ⟨_, rfl, _, rfl, _, rfl, nil_read ⟨d', z, tabOf S', S'.columns.length, sec, by rw [T.cols]; rfl, cols_few D', by have := T.two.few; omega, by show S'.items.length ≤ 100; have := D'.few; omega, ⟨kvs', ft', fb', .inl ed', ta'⟩, T5.two.at_, T.two.mem, tab_ends S', fun p' H6 s6 dp' => ?_⟩⟩
  refine ⟨_, _, dp_same (s5.trans s6) _ _ dp, dp', kind_shaped S n4 row, kind_shaped S' n4 sec, ?_⟩
  exact q H6 (((s3.trans s4).trans s5).trans s6)
def spAlike (K : PySem.W.Frag) : Sp := spOne K
theorem ok_alike {f : Addr} {fd : FuncData} {t1 : Tok} (F : Fun K "alike" "alike" sAlike f fd)
    (GB : FnOk P w K mg base (L2.CX P w) 9 fB dB P4 (spBoth K)) (bB : Binds K dB P4 []) (kB : PySem.W.keepIn K (.ref fB) = true) (mB : mg "check_both" = some (.ref fB))
    (GW : FnOk P w K mg base (L2.CX P w) 3 fBt dBt ["value", "least", "most"] spBtw) (bW : Binds K dBt ["value", "least", "most"] []) (kW : PySem.W.keepIn K (.ref fBt) = true) (mW : mg "check_between" = some (.ref fBt))
    (GO : FnOk P w K mg base CX0 8 fO dO P5 (spOne K)) (bO : Binds K dO P5 []) (kO : PySem.W.keepIn K (.ref fO) = true) (mO : mg "are_of_one_kind" = some (.ref fO))
    (mM : mg "MOST_DEPTH" = some (.int 4 t1)) : FnOk P w K mg base (L2.CX P w) 10 f fd P5 (spAlike K) := by
  refine F.okX scAlike (fun vs H Q E h => ?_) (fun cdv A outer s H vs Q E hr h => ?_)
  · obtain ⟨_, _, _, _, _, _, _, _, _, _, rfl, _⟩ := h
    rfl
  obtain ⟨v, u, r, z, m, n, S, S', row, sec, rfl, n4, T, q⟩ := h
  refine ⟨_, pss_cons (ps_expr (pe_callS GB (hr.mono (by decide)) rfl mB kB bB (fun σ => passAt (takes_of rfl rfl rfl rfl) σ) (pa_cons (pv 0) (pa_cons (pv 1) (pa_cons (pv 2) (pa_cons (pv 3) pa_nil))))))
    (pss_cons (ps_expr (pe_callS GW (hr.mono (by decide)) rfl mW kW bW (fun σ => passAt (takes_of rfl rfl rfl rfl) σ) (pa_cons (pv 4) (pa_cons pe_int (pa_cons (pe_glob (v := .int 4) (by rfl) mM ⟨_, rfl⟩) pa_nil)))))
    (pss_one (ps_ret (pe_call GO (hr.mono (by decide)) rfl mO kO bO .nil pass0 (pa_cons (pv 0) (pa_cons (pv 1) (pa_cons (pv 2) (pa_cons (pv 3) (pa_cons (pv 4) pa_nil))))))))), ?_⟩
  refine ⟨_, rfl, _, rfl, _, rfl, _, rfl, nil_read ⟨v, u, r, z, m, S, S', row, sec, rfl, T, fun H1 s1 => ?_⟩⟩
  refine ⟨_, rfl, (n : Nat), 0, 4, rfl, by omega, by omega, ?_⟩
  exact ⟨_, rfl, _, rfl, _, rfl, _, rfl, _, rfl, nil_read ⟨v, u, r, z, m, n, S, S', row, sec, rfl, n4, T.same s1, fun H2 s2 => q H2 (s1.trans s2)⟩⟩
theorem ok_least {f : Addr} {fd : FuncData} {t1 : Tok} (F : Fun K "least_depth" "least_depth" sLeast f fd)
    (GB : FnOk P w K mg base (L2.CX P w) 9 fB dB P4 (spBoth K)) (bB : Binds K dB P4 []) (kB : PySem.W.keepIn K (.ref fB) = true) (mB : mg "check_both" = some (.ref fB))
    (GO : FnOk P w K mg base CX0 8 fO dO P5 (spOne K)) (bO : Binds K dO P5 []) (kO : PySem.W.keepIn K (.ref fO) = true) (mO : mg "are_of_one_kind" = some (.ref fO))
    (mRange : mg "range" = none) (mM : mg "MOST_DEPTH" = some (.int 4 t1)) : FnOk P w K mg base (L2.CX P w) 10 f fd P4 (spLeast K) := by
  refine F.okX scLeast (fun vs H Q E h => ?_) (fun cdv A outer s H vs Q E hr h => ?_)
  · obtain ⟨_, _, _, _, _, _, _, _, _, rfl, _⟩ := h
    rfl
  obtain ⟨v, u, r, z, m, S, S', row, sec, rfl, T, q⟩ := h
  have nd := scLeast.nd
  refine ⟨_, pss_cons (ps_expr (pe_callS GB (hr.mono (by decide)) rfl mB kB bB (fun σ => passAt (takes_of rfl rfl rfl rfl) σ) (pa_cons (pv 0) (pa_cons (pv 1) (pa_cons (pv 2) (pa_cons (pv 3) pa_nil))))))
    (pss_cons (ps_for (passes_of rfl) rfl (pi_range1 (by rfl) mRange (pa_cons (pe_op op_add (pe_glob (v := .int 4) (by rfl) mM ⟨_, rfl⟩) pe_int) pa_nil)) (pg_name (i := 4) nd rfl (.inl rfl))
      (pss_one (ps_if (pt_not (pt_val (pe_call GO (hr.mono (by decide)) rfl mO kO bO .nil pass0 (pa_cons (pv 0) (pa_cons (pv 1) (pa_cons (pv 2) (pa_cons (pv 3) (pa_cons (pv 4) pa_nil)))))))) (pss_one (ps_ret (pv 4))) pss_nil)))
    (pss_one (ps_ret pe_non))), ?_⟩
  refine ⟨_, rfl, _, rfl, _, rfl, _, rfl, nil_read ⟨v, u, r, z, m, S, S', row, sec, rfl, T, fun H1 s1 => ?_⟩⟩
  refine ⟨_, _, rfl, rfl, 5, rfl, by decide, by decide, for_range (lo := 0) (n := 5) (fun k σ H' => ∃ y : Option V, σ = [some v, some (.ref r), some u, some (.ref z), y] ∧ Same H H' ∧ (k = 0 ∨ ∀ n, n ≤ 4 → eqK S S' n row sec = true)) ⟨none, rfl, s1, .inl rfl⟩ (fun k σ H2 hk hP => ?_) fun σ H2 hP => ?_⟩
  · obtain ⟨y, rfl, s2, al⟩ := hP
    refine ⟨_, rfl, _, rfl, _, rfl, _, rfl, _, rfl, nil_read ⟨v, u, r, z, m, k, S, S', row, sec, by simp, by omega, T.same s2, fun H3 s3 => ?_⟩⟩
    refine ⟨_, rfl, ite2 (fun c => ?_) fun c => ?_⟩
    · have c : eqK S S' k row sec = false := by simpa using c
      rcases q with ⟨all, _⟩ | ⟨no, q⟩
      · rw [all k (by omega)] at c
        cases c
      · rcases al with rfl | al
        · exact ⟨_, rfl, q H3 (s2.trans s3)⟩
        · rw [al k (by omega)] at c
          cases c
    · have c : eqK S S' k row sec = true := by simpa using c
      refine ⟨_, rfl, s2.trans s3, .inr ?_⟩
      rcases q with ⟨all, _⟩ | ⟨no, _⟩
      · exact all
      · rcases al with rfl | al
        · rw [no] at c
          cases c
        · exact al
  · obtain ⟨y, rfl, s2, al⟩ := hP
    rcases al with al | al
    · cases al
    rcases q with ⟨_, q⟩ | ⟨no, _⟩
    · exact q H2 s2
    · rw [al 0 (by decide)] at no
      cases no
end
end
end DQ

set_option Elab.async false
set_option linter.all false
set_option maxRecDepth 100000
set_option maxHeartbeats 4000000
namespace DQ
open PySem PySem.Spec PyProof.Rows L2
/-! ### the four doors, for any data: how a call ends -/
/-- an error of the class at C with that value, or an answer -/
def Outs (H : Hp) (o : Option (Addr × V)) (Q : VK) (E : XK) : Prop := (∀ C bad, o = some (C, bad) → ∀ H', Same H H' → Throws E C bad H') ∧ (o = none → ∀ x H', Same H H' → Q x H')
/-- a store and a row, judged -/
def RowEnds (K : PySem.W.Frag) (C0 CL : Addr) (H : Hp) (v x : V) (o : Option (Addr × V)) (rest : Store → Nat → List Int → Addr → Prop) : Prop :=
  (NoStoG K H v ∧ o = some (C0, v)) ∨
  ∃ (m : Nat) (S : Store) (dx : PyData), m ≤ 100 ∧ Drawn m S ∧ StoAt H v S ∧ Dp K H x dx ∧ ((rowD S.items dx = false ∧ o = some (CL, x)) ∨ ∃ r row, x = .ref r ∧ RowOf K H m S v r row ∧ rest S m row r)
theorem rowD_of {K : PySem.W.Frag} {H : Hp} {m : Nat} {S : Store} {v : V} {r : Addr} {row : List Int} (R : RowOf K H m S v r row) : Dp K H (.ref r) (rowI row) ∧ rowD S.items (rowI row) = true := by
  refine ⟨dp_rowI R.at_.sq, ?_⟩
  show (decide ((row.map PyData.int).length ≤ 4) && (row.map PyData.int).all (okItem S.items)) = true
  rw [List.length_map, decide_eq_true R.few, Bool.true_and, List.all_map]
  exact List.all_eq_true.mpr fun i hi => okItem_in R.drawn (R.mem i hi)
section
variable {P : Program} {w : World} {K : PySem.W.Frag} {mg : Str → Option Value} {base : Heap}
def spAtomsE (K : PySem.W.Frag) (C0 CL : Addr) : Sp := fun vs H Q E => ∃ (v x : V) (o : Option (Addr × V)), vs = [v, x] ∧ RowEnds K C0 CL H v x o (fun _ _ _ _ => o = none) ∧ Outs H o Q E
def spKindE (K : PySem.W.Frag) (C0 CL CN : Addr) : Sp := fun vs H Q E => ∃ (v x n : V) (o : Option (Addr × V)), vs = [v, x, n] ∧
  RowEnds K C0 CL H v x o (fun _ _ _ _ => ∃ dn, Dp K H n dn ∧ ((betweenD 0 4 dn = false ∧ o = some (CN, n)) ∨ ∃ k : Nat, n = .int k ∧ k ≤ 4 ∧ o = none)) ∧ Outs H o Q E
section
variable {fC fR fT fA fK fS fB fO fBt C0 CL CN CU : Addr} {dC dR dT dA dK dS dB dO dBt : FuncData}
theorem ok_atomsE {f : Addr} {fd : FuncData} (F : Fun K "atoms" "atoms" sAtomsP f fd)
    (GC : FnOk P w K mg base (L2.CX P w) 7 fC dC ["store"] (spCheck K C0)) (bC : Binds K dC ["store"] []) (kC : PySem.W.keepIn K (.ref fC) = true) (mC : mg "check_store" = some (.ref fC))
    (GR : FnOk P w K mg base (L2.CX P w) 5 fR dR ["store", "row"] (spRowG K CL)) (bR : Binds K dR ["store", "row"] []) (kR : PySem.W.keepIn K (.ref fR) = true) (mR : mg "check_row" = some (.ref fR))
    (GT : FnOk P w K mg base CX0 1 fT dT ["store"] spTable) (bT : Binds K dT ["store"] []) (kT : PySem.W.keepIn K (.ref fT) = true) (mT : mg "table_of" = some (.ref fT))
    (GA : FnOk P w K mg base CX0 2 fA dA ["table", "columns", "row"] (spAtoms K)) (bA : Binds K dA ["table", "columns", "row"] []) (kA : PySem.W.keepIn K (.ref fA) = true) (mA : mg "atoms_at" = some (.ref fA))
    (mLen : mg "len" = none) : FnOk P w K mg base (L2.CX P w) 8 f fd ["store", "row"] (spAtomsE K C0 CL) := by
  refine F.okX scAtomsP (fun vs H Q E h => ?_) (fun cdv A outer s H vs Q E hr h => ?_)
  · obtain ⟨_, _, _, rfl, _⟩ := h
    rfl
  obtain ⟨v, x, o, rfl, h, th, gd⟩ := h
  refine ⟨_, pss_cons (ps_expr (pe_callS GC hr rfl mC kC bC (fun σ => passAt (takes_of rfl rfl rfl rfl) σ) (pa_cons (pv 0) pa_nil)))
    (pss_cons (ps_expr (pe_callS GR (hr.mono (by decide)) rfl mR kR bR (fun σ => passAt (takes_of rfl rfl rfl rfl) σ) (pa_cons (pv 0) (pa_cons (pv 1) pa_nil))))
    (pss_one (ps_ret (pe_call GA (hr.mono (by decide)) rfl mA kA bA .nil pass0 (pa_cons (pe_call GT (hr.mono (by decide)) rfl mT kT bT .nil pass0 (pa_cons (pv 0) pa_nil)) (pa_cons (pe_callB call_len_seq (by rfl) mLen PySem.boot_len (pa_cons (pe_ix (r := rIxT K) ix_tup (pv 0) pe_int (fun _ _ => rfl)) pa_nil)) (pa_cons (pv 1) pa_nil))))))), ?_⟩
  rcases h with ⟨no, eo⟩ | ⟨m, S, dx, hm, D, A0, hx, h⟩
  · exact ⟨_, rfl, v, false, rfl, no H _ _ (fun _ _ h => h) fun H1 s1 => ⟨rfl, (fun e => nomatch e), fun _ => th _ _ eo H1 s1⟩⟩
  refine ⟨_, rfl, v, true, rfl, store_asks (by omega) D A0 fun H1 s1 => ⟨rfl, fun _ => ?_, (fun e => nomatch e)⟩⟩
  have A1 := stoAt_same s1 A0
  rcases h with ⟨no, eo⟩ | ⟨r, row, rfl, R, eo⟩
  · exact ⟨_, rfl, _, rfl, v, x, S, dx, rfl, A1, dp_same s1 _ _ hx, fun _ H2 s2 => th _ _ eo H2 (s1.trans s2), fun y => by rw [no] at y; cases y⟩
  have R1 := R.same s1
  obtain ⟨hd, yes⟩ := rowD_of R1
  refine ⟨_, rfl, _, rfl, v, .ref r, S, rowI row, rfl, A1, hd, (fun z => by rw [yes] at z; cases z), fun _ H2 s2 => ?_⟩
  have R2 := R.same (s1.trans s2)
  refine ⟨_, rfl, v, S, m, rfl, by omega, D, R2.sto, fun d H3 kvs ft fb s3 nd ed ta => ?_⟩
  have R3 := R2.same s3
  obtain ⟨t, ma, ca, ia, fa, rs, rfl, ht, hma, hca, hia, hfa, tp⟩ := R3.sto
  refine ⟨_, rfl, t, _, 2, .ref ca, rfl, rfl, .inl (.inl ht), atI_nat (j := 2) rfl, ca, _, rfl, .inl (SqL.of hca), _, rfl, nil_read ?_⟩
  refine ⟨d, r, tabOf S, S.columns.length, row, by rw [List.length_map]; rfl, cols_few D, by have := R.few; omega, ⟨kvs, ft, fb, .inl ed, ta⟩, R3.at_, R.mem, tab_ends S, fun p H4 s4 dp => ?_⟩
  exact gd eo _ H4 (((s1.trans s2).trans s3).trans s4)
theorem ok_kindE {f : Addr} {fd : FuncData} {t1 : Tok} (F : Fun K "kind" "kind" sKindP f fd)
    (GC : FnOk P w K mg base (L2.CX P w) 7 fC dC ["store"] (spCheck K C0)) (bC : Binds K dC ["store"] []) (kC : PySem.W.keepIn K (.ref fC) = true) (mC : mg "check_store" = some (.ref fC))
    (GR : FnOk P w K mg base (L2.CX P w) 5 fR dR ["store", "row"] (spRowG K CL)) (bR : Binds K dR ["store", "row"] []) (kR : PySem.W.keepIn K (.ref fR) = true) (mR : mg "check_row" = some (.ref fR))
    (GB : FnOk P w K mg base (L2.CX P w) 3 fBt dBt ["value", "least", "most"] (spBtwG K CN)) (bB : Binds K dBt ["value", "least", "most"] []) (kB : PySem.W.keepIn K (.ref fBt) = true) (mB : mg "check_between" = some (.ref fBt))
    (GT : FnOk P w K mg base CX0 1 fT dT ["store"] spTable) (bT : Binds K dT ["store"] []) (kT : PySem.W.keepIn K (.ref fT) = true) (mT : mg "table_of" = some (.ref fT))
    (GK : ∀ n : Nat, n ≤ 10 → FnOk P w K mg base CX0 (n + 3) fK dK PKd (spKind K n)) (bK : Binds K dK PKd []) (kK : PySem.W.keepIn K (.ref fK) = true) (mK : mg "kind_at" = some (.ref fK))
    (mLen : mg "len" = none) (mM : mg "MOST_DEPTH" = some (.int 4 t1)) : FnOk P w K mg base (L2.CX P w) 8 f fd ["store", "row", "depth"] (spKindE K C0 CL CN) := by
  refine F.okX scKindP (fun vs H Q E h => ?_) (fun cdv A outer s H vs Q E hr h => ?_)
  · obtain ⟨_, _, _, _, rfl, _⟩ := h
    rfl
  obtain ⟨v, x, n, o, rfl, h, th, gd⟩ := h
  obtain ⟨k, k4, hk⟩ : ∃ k : Nat, k ≤ 4 ∧ ∀ j : Nat, n = .int j → j ≤ 4 → j = k := by
    by_cases z : ∃ j : Nat, n = .int j ∧ j ≤ 4
    · obtain ⟨j, e, l⟩ := z
      refine ⟨j, l, fun i e2 _ => ?_⟩
      rw [e] at e2
      injection e2 with e2
      omega
    · exact ⟨0, by decide, fun j e l => absurd ⟨j, e, l⟩ z⟩
  refine ⟨_, pss_cons (ps_expr (pe_callS GC hr rfl mC kC bC (fun σ => passAt (takes_of rfl rfl rfl rfl) σ) (pa_cons (pv 0) pa_nil)))
    (pss_cons (ps_expr (pe_callS GR (hr.mono (by decide)) rfl mR kR bR (fun σ => passAt (takes_of rfl rfl rfl rfl) σ) (pa_cons (pv 0) (pa_cons (pv 1) pa_nil))))
    (pss_cons (ps_expr (pe_callS GB (hr.mono (by decide)) rfl mB kB bB (fun σ => passAt (takes_of rfl rfl rfl rfl) σ) (pa_cons (pv 2) (pa_cons pe_int (pa_cons (pe_glob (v := .int 4) (by rfl) mM ⟨_, rfl⟩) pa_nil)))))
    (pss_one (ps_ret (pe_call (GK k (by omega)) (hr.mono (by omega)) rfl mK kK bK .nil pass0 (pa_cons (pe_call GT (hr.mono (by decide)) rfl mT kT bT .nil pass0 (pa_cons (pv 0) pa_nil)) (pa_cons (pe_callB call_len_seq (by rfl) mLen PySem.boot_len (pa_cons (pe_ix (r := rIxT K) ix_tup (pv 0) pe_int (fun _ _ => rfl)) pa_nil)) (pa_cons (pv 1) (pa_cons (pv 2) pa_nil))))))))), ?_⟩
  rcases h with ⟨no, eo⟩ | ⟨m, S, dx, hm, D, A0, hx, h⟩
  · exact ⟨_, rfl, v, false, rfl, no H _ _ (fun _ _ h => h) fun H1 s1 => ⟨rfl, (fun e => nomatch e), fun _ => th _ _ eo H1 s1⟩⟩
  refine ⟨_, rfl, v, true, rfl, store_asks (by omega) D A0 fun H1 s1 => ⟨rfl, fun _ => ?_, (fun e => nomatch e)⟩⟩
  have A1 := stoAt_same s1 A0
  rcases h with ⟨no, eo⟩ | ⟨r, row, rfl, R, dn, hn, h⟩
  · exact ⟨_, rfl, _, rfl, v, x, S, dx, rfl, A1, dp_same s1 _ _ hx, fun _ H2 s2 => th _ _ eo H2 (s1.trans s2), fun y => by rw [no] at y; cases y⟩
  have R1 := R.same s1
  obtain ⟨hd, yes⟩ := rowD_of R1
  refine ⟨_, rfl, _, rfl, v, .ref r, S, rowI row, rfl, A1, hd, (fun z => by rw [yes] at z; cases z), fun _ H2 s2 => ?_⟩
  have R2 := R.same (s1.trans s2)
  rcases h with ⟨no, eo⟩ | ⟨j, rfl, j4, eo⟩
  · exact ⟨_, rfl, n, dn, 0, 4, rfl, dp_same (s1.trans s2) _ _ hn, fun _ => th _ _ eo H2 (s1.trans s2), fun y => by rw [no] at y; cases y⟩
  obtain rfl := hk j rfl j4
  have yb : betweenD 0 4 (.int (j : Nat)) = true := by
    show (decide ((0 : Int) ≤ (j : Nat)) && decide (((j : Nat) : Int) ≤ 4)) = true
    rw [decide_eq_true (by omega), decide_eq_true (by omega)]
    rfl
  refine ⟨_, rfl, .int (j : Nat), .int (j : Nat), 0, 4, rfl, .int _, (fun z => by rw [yb] at z; cases z), fun _ => ?_⟩
  refine ⟨_, rfl, v, S, m, rfl, by omega, D, R2.sto, fun d H3 kvs ft fb s3 nd ed ta => ?_⟩
  have R3 := R2.same s3
  obtain ⟨t, ma, ca, ia, fa, rs, rfl, ht, hma, hca, hia, hfa, tp⟩ := R3.sto
  refine ⟨_, rfl, t, _, 2, .ref ca, rfl, rfl, .inl (.inl ht), atI_nat (j := 2) rfl, ca, _, rfl, .inl (SqL.of hca), _, rfl, _, rfl, nil_read ?_⟩
  refine ⟨d, r, tabOf S, S.columns.length, row, by rw [List.length_map]; rfl, cols_few D, by have := R.few; omega, by show S.items.length ≤ 100; have := D.few; omega, ⟨kvs, ft, fb, .inl ed, ta⟩, R3.at_, R.mem, tab_ends S, fun p H4 s4 dp => ?_⟩
  exact gd eo _ H4 (((s1.trans s2).trans s3).trans s4)
end
end
end DQ

set_option Elab.async false
set_option linter.all false
set_option maxRecDepth 100000
set_option maxHeartbeats 4000000
namespace DQ
open PySem PySem.Spec PyProof.Rows L2
/-- two stores and two rows, judged -/
def BothEnds (K : PySem.W.Frag) (C0 CL CU : Addr) (H : Hp) (v x u y : V) (o : Option (Addr × V)) (rest : Store → Store → List Int → List Int → Prop) : Prop :=
  RowEnds K C0 CL H v x o fun S m row _ => (NoStoG K H u ∧ o = some (C0, u)) ∨ ∃ dn, StoG K H u dn ∧ ((PyData.eqv (nameD S) dn = false ∧ o = some (CU, u)) ∨
    ∃ S' dy, PyData.eqv (nameD S) dn = true ∧ Drawn m S' ∧ StoAt H u S' ∧ S'.marks = S.marks ∧ S'.columns = S.columns ∧ Dp K H y dy ∧ ((rowD S'.items dy = false ∧ o = some (CL, y)) ∨
      ∃ z sec, y = .ref z ∧ RowOf K H m S' u z sec ∧ ((sec.length ≠ row.length ∧ o = some (CU, y)) ∨ (sec.length = row.length ∧ rest S S' row sec))))
/-- judged and found wrong, or good -/
theorem both_split {K : PySem.W.Frag} {C0 CL CU : Addr} {H : Hp} {v x u y : V} {o : Option (Addr × V)} {rest : Store → Store → List Int → List Int → Prop} (h : BothEnds K C0 CL CU H v x u y o rest) :
    (BothEnds K C0 CL CU H v x u y o fun _ _ _ _ => o = none) ∧ o ≠ none ∨ ∃ m S S' row sec r z, x = .ref r ∧ y = .ref z ∧ Two K H m S S' v u r z row sec ∧ rest S S' row sec ∧ ∃ dn, StoG K H u dn ∧ PyData.eqv (nameD S) dn = true := by
  rcases h with ⟨a, e⟩ | ⟨m, S, dx, hm, D, A, hx, h⟩
  · exact .inl ⟨.inl ⟨a, e⟩, by rw [e]; simp⟩
  rcases h with ⟨a, e⟩ | ⟨r, row, rfl, R, h⟩
  · exact .inl ⟨.inr ⟨m, S, dx, hm, D, A, hx, .inl ⟨a, e⟩⟩, by rw [e]; simp⟩
  rcases h with ⟨a, e⟩ | ⟨dn, G, h⟩
  · exact .inl ⟨.inr ⟨m, S, dx, hm, D, A, hx, .inr ⟨r, row, rfl, R, .inl ⟨a, e⟩⟩⟩, by rw [e]; simp⟩
  rcases h with ⟨a, e⟩ | ⟨S', dy, en, D', A', em, ec, hy, h⟩
  · exact .inl ⟨.inr ⟨m, S, dx, hm, D, A, hx, .inr ⟨r, row, rfl, R, .inr ⟨dn, G, .inl ⟨a, e⟩⟩⟩⟩, by rw [e]; simp⟩
  rcases h with ⟨a, e⟩ | ⟨z, sec, rfl, R', h⟩
  · exact .inl ⟨.inr ⟨m, S, dx, hm, D, A, hx, .inr ⟨r, row, rfl, R, .inr ⟨dn, G, .inr ⟨S', dy, en, D', A', em, ec, hy, .inl ⟨a, e⟩⟩⟩⟩⟩, by rw [e]; simp⟩
  rcases h with ⟨a, e⟩ | ⟨l, h⟩
  · exact .inl ⟨.inr ⟨m, S, dx, hm, D, A, hx, .inr ⟨r, row, rfl, R, .inr ⟨dn, G, .inr ⟨S', dy, en, D', A', em, ec, hy, .inr ⟨z, sec, rfl, R', .inl ⟨a, e⟩⟩⟩⟩⟩⟩, by rw [e]; simp⟩
  · exact .inr ⟨m, S, S', row, sec, r, z, rfl, rfl, ⟨R, R', hm, em, ec, l⟩, h, dn, G, en⟩
section
variable {P : Program} {w : World} {K : PySem.W.Frag} {mg : Str → Option Value} {base : Heap}
def spBothE (K : PySem.W.Frag) (C0 CL CU : Addr) : Sp := fun vs H Q E => ∃ (v x u y : V) (o : Option (Addr × V)), vs = [v, x, u, y] ∧ BothEnds K C0 CL CU H v x u y o (fun _ _ _ _ => o = none) ∧ Outs H o Q E
section
variable {fC fR fS fB fO fBt C0 CL CN CU : Addr} {dC dR dS dB dO dBt : FuncData}
theorem ok_bothE {f : Addr} {fd : FuncData} (F : Fun K "check_both" "check_both" sBoth f fd)
    (GC : FnOk P w K mg base (L2.CX P w) 7 fC dC ["store"] (spCheck K C0)) (bC : Binds K dC ["store"] []) (kC : PySem.W.keepIn K (.ref fC) = true) (mC : mg "check_store" = some (.ref fC))
    (GR : FnOk P w K mg base (L2.CX P w) 5 fR dR ["store", "row"] (spRowG K CL)) (bR : Binds K dR ["store", "row"] []) (kR : PySem.W.keepIn K (.ref fR) = true) (mR : mg "check_row" = some (.ref fR))
    (GS : FnOk P w K mg base (L2.CX P w) 8 fS dS ["one", "other"] (spSecondG K C0 CU)) (bS : Binds K dS ["one", "other"] []) (kS : PySem.W.keepIn K (.ref fS) = true) (mS : mg "check_second_store" = some (.ref fS))
    (U : ErrUse P w K mg base "Unlike" CU) (mLen : mg "len" = none) : FnOk P w K mg base (L2.CX P w) 9 f fd P4 (spBothE K C0 CL CU) := by
  obtain ⟨fI, fdI, ds, iC, tI, oI, bI, _, _, _⟩ := U.ok
  refine F.okX scBoth (fun vs H Q E h => ?_) (fun cdv A outer s H vs Q E hr h => ?_)
  · obtain ⟨_, _, _, _, _, rfl, _⟩ := h
    rfl
  obtain ⟨v, x, u, y, o, rfl, h, th, gd⟩ := h
  refine ⟨_, pss_cons (ps_expr (pe_callS GC (hr.mono (by decide)) rfl mC kC bC (fun σ => passAt (takes_of rfl rfl rfl rfl) σ) (pa_cons (pv 0) pa_nil)))
    (pss_cons (ps_expr (pe_callS GR (hr.mono (by decide)) rfl mR kR bR (fun σ => passAt (takes_of rfl rfl rfl rfl) σ) (pa_cons (pv 0) (pa_cons (pv 1) pa_nil))))
    (pss_cons (ps_expr (pe_callS GS (hr.mono (by decide)) rfl mS kS bS (fun σ => passAt (takes_of rfl rfl rfl rfl) σ) (pa_cons (pv 0) (pa_cons (pv 2) pa_nil))))
    (pss_cons (ps_expr (pe_callS GR (hr.mono (by decide)) rfl mR kR bR (fun σ => passAt (takes_of rfl rfl rfl rfl) σ) (pa_cons (pv 2) (pa_cons (pv 3) pa_nil))))
    (pss_one (ps_if (pt_cmpR op_ne (pe_callB call_len_seq (by rfl) mLen PySem.boot_len (pa_cons (pv 1) pa_nil)) (pe_callB call_len_seq (by rfl) mLen PySem.boot_len (pa_cons (pv 3) pa_nil)) (nomark _)) (pss_one (ps_raise rfl (takes_of rfl rfl rfl rfl) (pmk_oex U.T iC tI oI (hr.mono (by decide)) bI .nil pass0 (by rfl) U.g (pa_cons (pv 3) pa_nil)))) pss_nil))))), ?_⟩
  rcases h with ⟨no, eo⟩ | ⟨m, S, dx, hm, D, A0, hx, h⟩
  · exact ⟨_, rfl, v, false, rfl, no H _ _ (fun _ _ h => h) fun H1 s1 => ⟨rfl, (fun e => nomatch e), fun _ => th _ _ eo H1 s1⟩⟩
  refine ⟨_, rfl, v, true, rfl, store_asks (by omega) D A0 fun H1 s1 => ⟨rfl, fun _ => ?_, (fun e => nomatch e)⟩⟩
  have A1 := stoAt_same s1 A0
  rcases h with ⟨no, eo⟩ | ⟨r, row, rfl, R, h⟩
  · exact ⟨_, rfl, _, rfl, v, x, S, dx, rfl, A1, dp_same s1 _ _ hx, fun _ H2 s2 => th _ _ eo H2 (s1.trans s2), fun y => by rw [no] at y; cases y⟩
  have R1 := R.same s1
  obtain ⟨hd, yes⟩ := rowD_of R1
  refine ⟨_, rfl, _, rfl, v, .ref r, S, rowI row, rfl, A1, hd, (fun z => by rw [yes] at z; cases z), fun _ H2 s2 => ?_⟩
  have s02 := s1.trans s2
  have R2 := R.same s02
  rcases h with ⟨no, eo⟩ | ⟨dn, G, h⟩
  · exact ⟨_, rfl, _, rfl, v, u, S, m, rfl, by omega, D, R2.sto, .inl ⟨no.same s02, fun H3 s3 => th _ _ eo H3 (s02.trans s3)⟩⟩
  rcases h with ⟨no, eo⟩ | ⟨S', dy, en, D', A', em, ec, hy, h⟩
  · exact ⟨_, rfl, _, rfl, v, u, S, m, rfl, by omega, D, R2.sto, .inr ⟨dn, G.same s02, fun _ H3 s3 => th _ _ eo H3 (s02.trans s3), fun y => by rw [no] at y; cases y⟩⟩
  refine ⟨_, rfl, _, rfl, v, u, S, m, rfl, by omega, D, R2.sto, .inr ⟨dn, G.same s02, fun y => (by rw [en] at y; cases y), fun _ H3 s3 => ?_⟩⟩
  have s03 := s02.trans s3
  have A3 := stoAt_same s03 A'
  rcases h with ⟨no, eo⟩ | ⟨z, sec, rfl, R', h⟩
  · exact ⟨_, rfl, _, rfl, u, y, S', dy, rfl, A3, dp_same s03 _ _ hy, fun _ H4 s4 => th _ _ eo H4 (s03.trans s4), fun y => by rw [no] at y; cases y⟩
  obtain ⟨hd', yes'⟩ := rowD_of (R'.same s03)
  refine ⟨_, rfl, _, rfl, u, .ref z, S', rowI sec, rfl, A3, hd', (fun z => by rw [yes'] at z; cases z), fun _ H4 s4 => ?_⟩
  have s04 := s03.trans s4
  refine ⟨_, rfl, r, _, rfl, .inr (R.same s04).at_.sq, _, rfl, z, _, rfl, .inr (R'.same s04).at_.sq, rfl, ?_⟩
  rw [List.length_map, List.length_map]
  rcases h with ⟨l, eo⟩ | ⟨l, eo⟩
  · refine ⟨true, by rw [show decide (V.int ((row.length : Nat) : Int) = V.int ((sec.length : Nat) : Int)) = false from decide_eq_false fun e => l (by injection e with e; omega)]; rfl, ?_⟩
    exact ⟨_, rfl, (show 1 ≤ 1000 by decide), throw_read U.T U.noV (th _ _ eo H4 s04)⟩
  · refine ⟨false, by rw [l]; simp, ?_⟩
    exact gd eo _ H4 s04
def spAlikeE (K : PySem.W.Frag) (C0 CL CU CN : Addr) : Sp := fun vs H Q E => ∃ (v x u y n : V) (o : Option (Addr × V)), vs = [v, x, u, y, n] ∧
  BothEnds K C0 CL CU H v x u y o (fun _ _ _ _ => ∃ dn, Dp K H n dn ∧ ((betweenD 0 4 dn = false ∧ o = some (CN, n)) ∨ ∃ k : Nat, n = .int k ∧ k ≤ 4 ∧ o = none)) ∧ Outs H o Q E
theorem ok_alikeE {f : Addr} {fd : FuncData} {t1 : Tok} (F : Fun K "alike" "alike" sAlike f fd)
    (GB : FnOk P w K mg base (L2.CX P w) 9 fB dB P4 (spBothE K C0 CL CU)) (bB : Binds K dB P4 []) (kB : PySem.W.keepIn K (.ref fB) = true) (mB : mg "check_both" = some (.ref fB))
    (GW : FnOk P w K mg base (L2.CX P w) 3 fBt dBt ["value", "least", "most"] (spBtwG K CN)) (bW : Binds K dBt ["value", "least", "most"] []) (kW : PySem.W.keepIn K (.ref fBt) = true) (mW : mg "check_between" = some (.ref fBt))
    (GO : FnOk P w K mg base CX0 8 fO dO P5 (spOne K)) (bO : Binds K dO P5 []) (kO : PySem.W.keepIn K (.ref fO) = true) (mO : mg "are_of_one_kind" = some (.ref fO))
    (mM : mg "MOST_DEPTH" = some (.int 4 t1)) : FnOk P w K mg base (L2.CX P w) 10 f fd P5 (spAlikeE K C0 CL CU CN) := by
  refine F.okX scAlike (fun vs H Q E h => ?_) (fun cdv A outer s H vs Q E hr h => ?_)
  · obtain ⟨_, _, _, _, _, _, rfl, _⟩ := h
    rfl
  obtain ⟨v, x, u, y, n, o, rfl, h, th, gd⟩ := h
  refine ⟨_, pss_cons (ps_expr (pe_callS GB (hr.mono (by decide)) rfl mB kB bB (fun σ => passAt (takes_of rfl rfl rfl rfl) σ) (pa_cons (pv 0) (pa_cons (pv 1) (pa_cons (pv 2) (pa_cons (pv 3) pa_nil))))))
    (pss_cons (ps_expr (pe_callS GW (hr.mono (by decide)) rfl mW kW bW (fun σ => passAt (takes_of rfl rfl rfl rfl) σ) (pa_cons (pv 4) (pa_cons pe_int (pa_cons (pe_glob (v := .int 4) (by rfl) mM ⟨_, rfl⟩) pa_nil)))))
    (pss_one (ps_ret (pe_call GO (hr.mono (by decide)) rfl mO kO bO .nil pass0 (pa_cons (pv 0) (pa_cons (pv 1) (pa_cons (pv 2) (pa_cons (pv 3) (pa_cons (pv 4) pa_nil))))))))), ?_⟩
  rcases both_split h with ⟨hb, ne⟩ | ⟨m, S, S', row, sec, r, z, rfl, rfl, T, ⟨dn, hn, h⟩, dk, G, en⟩
  · exact ⟨_, rfl, _, rfl, _, rfl, _, rfl, nil_read ⟨v, x, u, y, o, rfl, hb, th, fun e => absurd e ne⟩⟩
  refine ⟨_, rfl, _, rfl, _, rfl, _, rfl, nil_read ⟨v, .ref r, u, .ref z, none, rfl, ?_, (fun _ _ e => nomatch e), fun _ _ H1 s1 => ?_⟩⟩
  · exact .inr ⟨m, S, rowI row, T.small, T.one.drawn, T.one.sto, (rowD_of T.one).1, .inr ⟨r, row, rfl, T.one, .inr ⟨dk, G, .inr ⟨S', rowI sec, en, T.two.drawn, T.two.sto, T.marks, T.cols, (rowD_of T.two).1, .inr ⟨z, sec, rfl, T.two, .inr ⟨T.len, rfl⟩⟩⟩⟩⟩⟩
  rcases h with ⟨no, eo⟩ | ⟨k, rfl, k4, eo⟩
  · exact ⟨_, rfl, n, dn, 0, 4, rfl, dp_same s1 _ _ hn, fun _ => th _ _ eo H1 s1, fun y => by rw [no] at y; cases y⟩
  have yb : betweenD 0 4 (.int (k : Nat)) = true := by
    show (decide ((0 : Int) ≤ (k : Nat)) && decide (((k : Nat) : Int) ≤ 4)) = true
    rw [decide_eq_true (by omega), decide_eq_true (by omega)]
    rfl
  refine ⟨_, rfl, .int (k : Nat), .int (k : Nat), 0, 4, rfl, .int _, (fun z => by rw [yb] at z; cases z), fun _ => ?_⟩
  exact ⟨_, rfl, _, rfl, _, rfl, _, rfl, _, rfl, nil_read ⟨v, u, r, z, m, k, S, S', row, sec, rfl, k4, T.same s1, fun H2 s2 => gd eo _ H2 (s1.trans s2)⟩⟩
def spLeastE (K : PySem.W.Frag) (C0 CL CU : Addr) : Sp := fun vs H Q E => ∃ (v x u y : V) (o : Option (Addr × V)), vs = [v, x, u, y] ∧
  BothEnds K C0 CL CU H v x u y o (fun S S' row sec => (∀ n, n ≤ 4 → eqK S S' n row sec = true) ∧ o = none) ∧ Outs H o Q E
theorem ok_leastE {f : Addr} {fd : FuncData} {t1 : Tok} (F : Fun K "least_depth" "least_depth" sLeast f fd)
    (GB : FnOk P w K mg base (L2.CX P w) 9 fB dB P4 (spBothE K C0 CL CU)) (bB : Binds K dB P4 []) (kB : PySem.W.keepIn K (.ref fB) = true) (mB : mg "check_both" = some (.ref fB))
    (GO : FnOk P w K mg base CX0 8 fO dO P5 (spOne K)) (bO : Binds K dO P5 []) (kO : PySem.W.keepIn K (.ref fO) = true) (mO : mg "are_of_one_kind" = some (.ref fO))
    (mRange : mg "range" = none) (mM : mg "MOST_DEPTH" = some (.int 4 t1)) : FnOk P w K mg base (L2.CX P w) 10 f fd P4 (spLeastE K C0 CL CU) := by
  refine F.okX scLeast (fun vs H Q E h => ?_) (fun cdv A outer s H vs Q E hr h => ?_)
  · obtain ⟨_, _, _, _, _, rfl, _⟩ := h
    rfl
  obtain ⟨v, x, u, y, o, rfl, h, th, gd⟩ := h
  have nd := scLeast.nd
  refine ⟨_, pss_cons (ps_expr (pe_callS GB (hr.mono (by decide)) rfl mB kB bB (fun σ => passAt (takes_of rfl rfl rfl rfl) σ) (pa_cons (pv 0) (pa_cons (pv 1) (pa_cons (pv 2) (pa_cons (pv 3) pa_nil))))))
    (pss_cons (ps_for (passes_of rfl) rfl (pi_range1 (by rfl) mRange (pa_cons (pe_op op_add (pe_glob (v := .int 4) (by rfl) mM ⟨_, rfl⟩) pe_int) pa_nil)) (pg_name (i := 4) nd rfl (.inl rfl))
      (pss_one (ps_if (pt_not (pt_val (pe_call GO (hr.mono (by decide)) rfl mO kO bO .nil pass0 (pa_cons (pv 0) (pa_cons (pv 1) (pa_cons (pv 2) (pa_cons (pv 3) (pa_cons (pv 4) pa_nil)))))))) (pss_one (ps_ret (pv 4))) pss_nil)))
    (pss_one (ps_ret pe_non))), ?_⟩
  rcases both_split h with ⟨hb, ne⟩ | ⟨m, S, S', row, sec, r, z, rfl, rfl, T, ⟨all, eo⟩, dk, G, en⟩
  · exact ⟨_, rfl, _, rfl, _, rfl, _, rfl, nil_read ⟨v, x, u, y, o, rfl, hb, th, fun e => absurd e ne⟩⟩
  refine ⟨_, rfl, _, rfl, _, rfl, _, rfl, nil_read ⟨v, .ref r, u, .ref z, none, rfl, ?_, (fun _ _ e => nomatch e), fun _ _ H1 s1 => ?_⟩⟩
  · exact .inr ⟨m, S, rowI row, T.small, T.one.drawn, T.one.sto, (rowD_of T.one).1, .inr ⟨r, row, rfl, T.one, .inr ⟨dk, G, .inr ⟨S', rowI sec, en, T.two.drawn, T.two.sto, T.marks, T.cols, (rowD_of T.two).1, .inr ⟨z, sec, rfl, T.two, .inr ⟨T.len, rfl⟩⟩⟩⟩⟩⟩
  refine ⟨_, _, rfl, rfl, 5, rfl, by decide, by decide, for_range (lo := 0) (n := 5) (fun k σ H' => ∃ yy : Option V, σ = [some v, some (.ref r), some u, some (.ref z), yy] ∧ Same H H') ⟨none, rfl, s1⟩ (fun k σ H2 hk hP => ?_) fun σ H2 hP => ?_⟩
  · obtain ⟨yy, rfl, s2⟩ := hP
    refine ⟨_, rfl, _, rfl, _, rfl, _, rfl, _, rfl, nil_read ⟨v, u, r, z, m, k, S, S', row, sec, by simp, by omega, T.same s2, fun H3 s3 => ?_⟩⟩
    rw [all k (by omega)]
    exact ⟨true, rfl, _, rfl, s2.trans s3⟩
  · obtain ⟨yy, rfl, s2⟩ := hP
    exact gd eo _ H2 s2
end
end
end DQ

set_option Elab.async false
set_option linter.all false
set_option maxRecDepth 100000
set_option maxHeartbeats 4000000
namespace DQ
open PySem PySem.Spec PyProof.Rows L2
abbrev sAsked : Stmt := topS 60
theorem scAsked : FnScope ["door", "given"] ["door", "given"] (defScope sAsked) := ⟨rfl, rfl, rfl, by decide +kernel, rfl, by decide +kernel, by decide +kernel⟩
/-- how the call at a door ends -/
def DoorEnds (K : PySem.W.Frag) (C0 CL CU CN : Addr) (H : Hp) (door : Nat) (gs : List V) (o : Option (Addr × V)) : Prop :=
  (door = 0 ∧ ∃ v x n, gs[0]? = some v ∧ gs[1]? = some x ∧ gs[2]? = some n ∧ RowEnds K C0 CL H v x o (fun _ _ _ _ => ∃ dn, Dp K H n dn ∧ ((betweenD 0 4 dn = false ∧ o = some (CN, n)) ∨ ∃ k : Nat, n = .int k ∧ k ≤ 4 ∧ o = none))) ∨
  (door = 1 ∧ ∃ v x, gs[0]? = some v ∧ gs[1]? = some x ∧ RowEnds K C0 CL H v x o (fun _ _ _ _ => o = none)) ∨
  (door = 2 ∧ ∃ v x u y n, gs[0]? = some v ∧ gs[1]? = some x ∧ gs[2]? = some u ∧ gs[3]? = some y ∧ gs[4]? = some n ∧ BothEnds K C0 CL CU H v x u y o (fun _ _ _ _ => ∃ dn, Dp K H n dn ∧ ((betweenD 0 4 dn = false ∧ o = some (CN, n)) ∨ ∃ k : Nat, n = .int k ∧ k ≤ 4 ∧ o = none))) ∨
  (door = 3 ∧ ∃ v x u y, gs[0]? = some v ∧ gs[1]? = some x ∧ gs[2]? = some u ∧ gs[3]? = some y ∧ BothEnds K C0 CL CU H v x u y o (fun S S' row sec => (∀ n, n ≤ 4 → eqK S S' n row sec = true) ∧ o = none))
theorem RowEnds.same {K : PySem.W.Frag} {C0 CL : Addr} {H H' : Hp} {v x : V} {o : Option (Addr × V)} {rest rest' : Store → Nat → List Int → Addr → Prop} (h : RowEnds K C0 CL H v x o rest) (s : Same H H') (m : ∀ S k row r, rest S k row r → rest' S k row r) : RowEnds K C0 CL H' v x o rest' := by
  rcases h with ⟨a, e⟩ | ⟨k, S, dx, hm, D, A, hx, h⟩
  · exact .inl ⟨a.same s, e⟩
  refine .inr ⟨k, S, dx, hm, D, stoAt_same s A, dp_same s _ _ hx, ?_⟩
  rcases h with h | ⟨r, row, e, R, h⟩
  · exact .inl h
  · exact .inr ⟨r, row, e, R.same s, m _ _ _ _ h⟩
theorem BothEnds.same {K : PySem.W.Frag} {C0 CL CU : Addr} {H H' : Hp} {v x u y : V} {o : Option (Addr × V)} {rest rest' : Store → Store → List Int → List Int → Prop} (h : BothEnds K C0 CL CU H v x u y o rest) (s : Same H H') (m : ∀ S S' row sec, rest S S' row sec → rest' S S' row sec) : BothEnds K C0 CL CU H' v x u y o rest' := by
  refine RowEnds.same h s fun S k row r h => ?_
  rcases h with ⟨a, e⟩ | ⟨dn, G, h⟩
  · exact .inl ⟨a.same s, e⟩
  refine .inr ⟨dn, G.same s, ?_⟩
  rcases h with h | ⟨S', dy, en, D', A', em, ec, hy, h⟩
  · exact .inl h
  refine .inr ⟨S', dy, en, D', stoAt_same s A', em, ec, dp_same s _ _ hy, ?_⟩
  rcases h with h | ⟨z, sec, e, R', h⟩
  · exact .inl h
  refine .inr ⟨z, sec, e, R'.same s, ?_⟩
  rcases h with h | ⟨l, h⟩
  · exact .inl h
  · exact .inr ⟨l, m _ _ _ _ h⟩
theorem DoorEnds.same {K : PySem.W.Frag} {C0 CL CU CN : Addr} {H H' : Hp} {door : Nat} {gs : List V} {o : Option (Addr × V)} (h : DoorEnds K C0 CL CU CN H door gs o) (s : Same H H') : DoorEnds K C0 CL CU CN H' door gs o := by
  have num : ∀ {n : V}, (∃ dn, Dp K H n dn ∧ ((betweenD 0 4 dn = false ∧ o = some (CN, n)) ∨ ∃ k : Nat, n = .int k ∧ k ≤ 4 ∧ o = none)) → ∃ dn, Dp K H' n dn ∧ ((betweenD 0 4 dn = false ∧ o = some (CN, n)) ∨ ∃ k : Nat, n = .int k ∧ k ≤ 4 ∧ o = none) := fun ⟨dn, hn, h⟩ => ⟨dn, dp_same s _ _ hn, h⟩
  rcases h with ⟨e, v, x, n, h0, h1, h2, h⟩ | ⟨e, v, x, h0, h1, h⟩ | ⟨e, v, x, u, y, n, h0, h1, h2, h3, h4, h⟩ | ⟨e, v, x, u, y, h0, h1, h2, h3, h⟩
  · exact .inl ⟨e, v, x, n, h0, h1, h2, h.same s fun _ _ _ _ => num⟩
  · exact .inr (.inl ⟨e, v, x, h0, h1, h.same s fun _ _ _ _ h => h⟩)
  · exact .inr (.inr (.inl ⟨e, v, x, u, y, n, h0, h1, h2, h3, h4, h.same s fun _ _ _ _ => num⟩))
  · exact .inr (.inr (.inr ⟨e, v, x, u, y, h0, h1, h2, h3, h.same s fun _ _ _ _ h => h⟩))
section
variable {P : Program} {w : World} {K : PySem.W.Frag} {mg : Str → Option Value} {base : Heap}
def spAskedE (K : PySem.W.Frag) (C0 CL CU CN : Addr) : Sp := fun vs H Q E => ∃ (door : Nat) (gl : Addr) (gs : List V) (o : Option (Addr × V)), vs = [.int door, .ref gl] ∧ SqL K H gl gs ∧ DoorEnds K C0 CL CU CN H door gs o ∧ Outs H o Q E
theorem ok_asked {f fK fT fA fL C0 CL CU CN : Addr} {fd dK dT dA dL : FuncData} (F : Fun K "_law_asked" "_law_asked" sAsked f fd)
    (GK : FnOk P w K mg base (L2.CX P w) 8 fK dK ["store", "row", "depth"] (spKindE K C0 CL CN)) (bK : Binds K dK ["store", "row", "depth"] []) (kK : PySem.W.keepIn K (.ref fK) = true) (mK : mg "kind" = some (.ref fK))
    (GT : FnOk P w K mg base (L2.CX P w) 8 fT dT ["store", "row"] (spAtomsE K C0 CL)) (bT : Binds K dT ["store", "row"] []) (kT : PySem.W.keepIn K (.ref fT) = true) (mT : mg "atoms" = some (.ref fT))
    (GA : FnOk P w K mg base (L2.CX P w) 10 fA dA P5 (spAlikeE K C0 CL CU CN)) (bA : Binds K dA P5 []) (kA : PySem.W.keepIn K (.ref fA) = true) (mA : mg "alike" = some (.ref fA))
    (GL : FnOk P w K mg base (L2.CX P w) 10 fL dL P4 (spLeastE K C0 CL CU)) (bL : Binds K dL P4 []) (kL : PySem.W.keepIn K (.ref fL) = true) (mL : mg "least_depth" = some (.ref fL)) :
    FnOk P w K mg base (L2.CX P w) 11 f fd ["door", "given"] (spAskedE K C0 CL CU CN) := by
  refine F.okX scAsked (fun vs H Q E h => ?_) (fun cdv A outer s H vs Q E hr h => ?_)
  · obtain ⟨_, _, _, _, rfl, _⟩ := h
    rfl
  obtain ⟨door, gl, gs, o, rfl, sq, h, out⟩ := h
  refine ⟨_, pss_cons (ps_if (pt_cmpR op_eq (pv 0) pe_int (nomark _)) (pss_one (ps_ret (pe_callS GK (hr.mono (by decide)) rfl mK kK bK (fun σ => passAt (takes_of rfl rfl rfl rfl) σ) (pa_cons (pe_ix (r := rIxL K) ix_list (pv 1) pe_int (fun _ _ => rfl)) (pa_cons (pe_ix (r := rIxL K) ix_list (pv 1) pe_int (fun _ _ => rfl)) (pa_cons (pe_ix (r := rIxL K) ix_list (pv 1) pe_int (fun _ _ => rfl)) pa_nil)))))) pss_nil)
    (pss_cons (ps_if (pt_cmpR op_eq (pv 0) pe_int (nomark _)) (pss_one (ps_ret (pe_callS GT (hr.mono (by decide)) rfl mT kT bT (fun σ => passAt (takes_of rfl rfl rfl rfl) σ) (pa_cons (pe_ix (r := rIxL K) ix_list (pv 1) pe_int (fun _ _ => rfl)) (pa_cons (pe_ix (r := rIxL K) ix_list (pv 1) pe_int (fun _ _ => rfl)) pa_nil))))) pss_nil)
    (pss_cons (ps_if (pt_cmpR op_eq (pv 0) pe_int (nomark _)) (pss_one (ps_ret (pe_callS GA (hr.mono (by decide)) rfl mA kA bA (fun σ => passAt (takes_of rfl rfl rfl rfl) σ) (pa_cons (pe_ix (r := rIxL K) ix_list (pv 1) pe_int (fun _ _ => rfl)) (pa_cons (pe_ix (r := rIxL K) ix_list (pv 1) pe_int (fun _ _ => rfl)) (pa_cons (pe_ix (r := rIxL K) ix_list (pv 1) pe_int (fun _ _ => rfl)) (pa_cons (pe_ix (r := rIxL K) ix_list (pv 1) pe_int (fun _ _ => rfl)) (pa_cons (pe_ix (r := rIxL K) ix_list (pv 1) pe_int (fun _ _ => rfl)) pa_nil)))))))) pss_nil)
    (pss_one (ps_ret (pe_callS GL (hr.mono (by decide)) rfl mL kL bL (fun σ => passAt (takes_of rfl rfl rfl rfl) σ) (pa_cons (pe_ix (r := rIxL K) ix_list (pv 1) pe_int (fun _ _ => rfl)) (pa_cons (pe_ix (r := rIxL K) ix_list (pv 1) pe_int (fun _ _ => rfl)) (pa_cons (pe_ix (r := rIxL K) ix_list (pv 1) pe_int (fun _ _ => rfl)) (pa_cons (pe_ix (r := rIxL K) ix_list (pv 1) pe_int (fun _ _ => rfl)) pa_nil))))))))), ?_⟩
  rcases h with ⟨rfl, v, x, n, h0, h1, h2, h⟩ | ⟨rfl, v, x, h0, h1, h⟩ | ⟨rfl, v, x, u, y, n, h0, h1, h2, h3, h4, h⟩ | ⟨rfl, v, x, u, y, h0, h1, h2, h3, h⟩
  · refine ⟨_, rfl, rfl, _, rfl, iteT' (by decide) ?_⟩
    exact ⟨_, rfl, gl, _, _, _, rfl, rfl, sq, atI_nat (j := 0) h0, _, rfl, gl, _, _, _, rfl, rfl, sq, atI_nat (j := 1) h1, _, rfl, gl, _, _, _, rfl, rfl, sq, atI_nat (j := 2) h2, nil_read ⟨v, x, n, o, rfl, h, out⟩⟩
  · refine ⟨_, rfl, rfl, _, rfl, iteF' (by decide) ⟨_, rfl, rfl, _, rfl, iteT' (by decide) ?_⟩⟩
    exact ⟨_, rfl, gl, _, _, _, rfl, rfl, sq, atI_nat (j := 0) h0, _, rfl, gl, _, _, _, rfl, rfl, sq, atI_nat (j := 1) h1, nil_read ⟨v, x, o, rfl, h, out⟩⟩
  · refine ⟨_, rfl, rfl, _, rfl, iteF' (by decide) ⟨_, rfl, rfl, _, rfl, iteF' (by decide) ⟨_, rfl, rfl, _, rfl, iteT' (by decide) ?_⟩⟩⟩
    exact ⟨_, rfl, gl, _, _, _, rfl, rfl, sq, atI_nat (j := 0) h0, _, rfl, gl, _, _, _, rfl, rfl, sq, atI_nat (j := 1) h1, _, rfl, gl, _, _, _, rfl, rfl, sq, atI_nat (j := 2) h2, _, rfl, gl, _, _, _, rfl, rfl, sq, atI_nat (j := 3) h3, _, rfl, gl, _, _, _, rfl, rfl, sq, atI_nat (j := 4) h4, nil_read ⟨v, x, u, y, n, o, rfl, h, out⟩⟩
  · refine ⟨_, rfl, rfl, _, rfl, iteF' (by decide) ⟨_, rfl, rfl, _, rfl, iteF' (by decide) ⟨_, rfl, rfl, _, rfl, iteF' (by decide) ?_⟩⟩⟩
    exact ⟨_, rfl, gl, _, _, _, rfl, rfl, sq, atI_nat (j := 0) h0, _, rfl, gl, _, _, _, rfl, rfl, sq, atI_nat (j := 1) h1, _, rfl, gl, _, _, _, rfl, rfl, sq, atI_nat (j := 2) h2, _, rfl, gl, _, _, _, rfl, rfl, sq, atI_nat (j := 3) h3, nil_read ⟨v, x, u, y, o, rfl, h, out⟩⟩
end
end DQ

set_option Elab.async false
set_option linter.all false
set_option maxRecDepth 100000
set_option maxHeartbeats 2000000
namespace DQ
open PySem PySem.Spec PyProof.Rows L2
/-! ### xs.count(y), flat items -/
def rCntF (K : PySem.W.Frag) : V → List V → Hp → VK → Prop := fun x zs H Q => ∃ (p : Addr) (ys : List V) (y : V), x = .ref p ∧ zs = [y] ∧ SqL K H p ys ∧ flatV y = true ∧ ys.all flatV = true ∧ Q (.int (ys.countP fun z => eqV z y : Nat)) H
theorem count_flat {y : V} {u : Value} (ry : RelV y u) (fy : flatV y = true) : ∀ {ys : List V} {us : List Value}, Vals ys us → ys.all flatV = true → us.countP (eqU y) = ys.countP fun z => eqV z y
  | _, _, .nil, _ => rfl
  | _, _, .cons a r, f => by
    rw [List.all_cons, Bool.and_eq_true] at f
    rw [List.countP_cons, List.countP_cons, count_flat ry fy r f.2, eqU_of a f.1]
theorem mt_countF {X : Cx} : MtR X "list.count" (rCntF X.K) := fun pins t σ G x zs b us Q J rel each ask => by
  obtain ⟨p, ys, y, rfl, rfl, sq, fy, fall, go⟩ := ask
  cases (show b = .ref p from rel)
  obtain ⟨u, rfl, ry⟩ := each.one
  obtain ⟨us, rel2, ⟨⟨c, dn, dat, slo⟩, n, at_, isC, _, isD⟩, _⟩ := J.list sq
  cases isC
  cases isD
  refine call_meets PySem.F.slot_list_count ⟨_, at_, rfl⟩ PySem.F.entry_list_count (PySem.F.args_list_count_2 _ _)
    (SeqAt.list_countAt p us.toArray n dn slo u (eqU y)) ⟨at_, fun w hw => mem_eqAt ry fy rel2 fall w (by simpa using hw), .int (ys.countP fun z => eqV z y : Nat), G, J.tok _, ⟨t.toks, ?_⟩, go⟩
  show Value.int ((us.countP (eqU y) : Nat) : Int) t.toks = _
  rw [count_flat ry fy rel2 fall]
end DQ

set_option Elab.async false
set_option linter.all false
set_option maxRecDepth 100000
set_option maxHeartbeats 2000000
namespace DQ
open PySem PySem.Spec PyProof.Rows L2
abbrev sTold : Stmt := topS 61
abbrev NTd : List Str := ["door", "given", "caught", "error", "kinds"]
theorem scTold : FnScope NTd ["door", "given"] (defScope sTold) := ⟨rfl, rfl, rfl, by decide +kernel, rfl, by decide +kernel, by decide +kernel⟩
theorem callR_or {X : Cx} {f : Value} {r r' : List V → Hp → VK → Prop} (h : CallR X f r) (h' : CallR X f r') : CallR X f (fun xs H Q => r xs H Q ∨ r' xs H Q) := fun pins s σ H xs us Q I rel q => q.elim (h pins s σ H xs us Q I rel) (h' pins s σ H xs us Q I rel)
/-- what the variable holds behind the try -/
def HeldE (H : Hp) (o : Option (Addr × V)) (ev : V) : Prop := match o with
  | none => ev = .non
  | some (C, bad) => ∃ a, ev = .ref a ∧ Caught H a C bad
theorem HeldE.same {H H' : Hp} {o : Option (Addr × V)} {ev : V} (h : HeldE H o ev) (s : Same H H') : HeldE H' o ev := by
  cases o with
  | none => exact h
  | some p => obtain ⟨a, e, c⟩ := h; exact ⟨a, e, c.same s⟩
theorem call_caughtK {X : Cx} {K : PySem.W.Frag} (hk : X.K = K) : CallR X (.builtin "isinstance") (rCaughtIs K) := by
  subst hk
  exact call_caughtIs
theorem try_cut {t rest : TS} {D : Ends} {σ : L2.St} {H : Hp} (P : L2.St → Hp → Prop) (h1 : ∀ D' : Ends, (∀ σ' H', P σ' H' → D'.nx σ' H') → t D' σ H) (h2 : ∀ σ' H', P σ' H' → rest D σ' H') : tSeq t rest D σ H := h1 _ h2
theorem set_step {v : V} {i : Nat} {rest : TS} {D : Ends} {σ : L2.St} {H : Hp} (h : rest D (σ.set i (some v)) H) : tSeq (tAsg (tC v) (gName i)) rest D σ H := h
/-- the word of a class -/
def wordAt (C0 CL CU C : Addr) : Str := if C = C0 then "store" else if C = CL then "list" else if C = CU then "unlike" else "number"
def at4 : Nat → List Bool
  | 0 => [true, false, false, false]
  | 1 => [false, true, false, false]
  | 2 => [false, false, true, false]
  | _ => [false, false, false, true]
def words4 : List Str := ["store", "list", "unlike", "number"]
theorem flag_at {C0 CL CU CN C : Addr} (nd : [C0, CL, CU, CN].Nodup) (h : C ∈ [C0, CL, CU, CN]) : ∃ k, k < 4 ∧ [V.bl (decide (C = C0)), .bl (decide (C = CL)), .bl (decide (C = CU)), .bl (decide (C = CN))] = (at4 k).map V.bl ∧ words4[k]? = some (wordAt C0 CL CU C) := by
  simp only [List.nodup_cons, List.mem_cons, List.not_mem_nil, or_false, not_or, not_false_eq_true, and_true, List.nodup_nil] at nd
  obtain ⟨⟨n1, n2, n3⟩, ⟨n4, n5⟩, n6⟩ := nd
  simp only [List.mem_cons, List.not_mem_nil, or_false] at h
  rcases h with rfl | rfl | rfl | rfl
  · exact ⟨0, by decide, by simp [at4, n1, n2, n3], by simp [wordAt, words4]⟩
  · exact ⟨1, by decide, by simp [at4, Ne.symm n1, n4, n5], by simp [wordAt, words4, Ne.symm n1]⟩
  · exact ⟨2, by decide, by simp [at4, Ne.symm n2, Ne.symm n4, n6], by simp [wordAt, words4, Ne.symm n2, Ne.symm n4]⟩
  · exact ⟨3, by decide, by simp [at4, Ne.symm n3, Ne.symm n5, Ne.symm n6], by simp [wordAt, words4, Ne.symm n3, Ne.symm n5, Ne.symm n6]⟩
def toldV (C0 CL CU : Addr) : Option (Addr × V) → List V
  | none => [.str "let"]
  | some (C, bad) => [.str (wordAt C0 CL CU C), bad]
section
variable {P : Program} {w : World} {K : PySem.W.Frag} {mg : Str → Option Value} {base : Heap}
def spTold (K : PySem.W.Frag) (C0 CL CU CN : Addr) : Sp := fun vs H Q _ => ∃ (door : Nat) (gl : Addr) (gs : List V) (o : Option (Addr × V)), vs = [.int door, .ref gl] ∧ SqL K H gl gs ∧ DoorEnds K C0 CL CU CN H door gs o ∧ (∀ C bad, o = some (C, bad) → C ∈ [C0, CL, CU, CN]) ∧
  ∀ (T : Addr) (H' : Hp), Same H H' → H T = none → H' T = some (.lst (toldV C0 CL CU o)) → Q (.ref T) H'
theorem ok_told {f f1 C0 CL CU CN S : Addr} {fd d1 : FuncData} (F : Fun K "_law_told" "_law_told" sTold f fd)
    (G1 : FnOk P w K mg base (L2.CX P w) 11 f1 d1 ["door", "given"] (spAskedE K C0 CL CU CN)) (b1 : Binds K d1 ["door", "given"] []) (k1 : PySem.W.keepIn K (.ref f1) = true) (m1 : mg "_law_asked" = some (.ref f1))
    (U0 : ErrUse P w K mg base "InvalidStore" C0) (UL : ErrUse P w K mg base "InvalidList" CL) (UU : ErrUse P w K mg base "Unlike" CU) (UN : ErrUse P w K mg base "InvalidNumber" CN) (mS : mg "StoreError" = some (.ref S))
    (ex : ∀ C ∈ [C0, CL, CU, CN], PySem.W.exmOne K (.ref C) (.ref S) = some true) (kk : ∀ C ∈ [C0, CL, CU, CN], ∀ D ∈ [C0, CL, CU, CN], PySem.W.kitOne K (.ref C) (.ref D) = some (decide (C = D))) (kv : ∀ C ∈ [C0, CL, CU, CN], PySem.W.kitOne K (.ref C) (.type "ValueError") = some true) (ndC : [C0, CL, CU, CN].Nodup)
    (mI : mg "isinstance" = none) (mV : mg "ValueError" = none) : FnG P w K mg base CX0 12 f fd ["door", "given"] (spTold K C0 CL CU CN) := by
  refine fun_okG F scTold (fun vs H Q E h => ?_) (fun cdv A outer s H vs Q E hr hG h => ?_)
  · obtain ⟨_, _, _, _, rfl, _⟩ := h
    rfl
  obtain ⟨door, gl, gs, o, rfl, sq, ends, inC, q⟩ := h
  have nd := scTold.nd
  refine ⟨_, pss_cons (ps_set (i := 2) nd rfl (.inl rfl) pe_non)
    (pss_cons (ps_try_keep (i := 3) (Wout := fun _ _ _ _ => False) (tb := fun W => tDrop _) rfl rfl nd rfl (by rfl) ⟨by rfl, by decide, .inl mS⟩ takes0
      (fun W pn xe tk po => pss_one (ps_expr (pe_callS (E := WE W) G1 (hr.mono (by decide)) rfl m1 k1 b1 (fun σ => passAt tk σ) (pa_cons (pv 0) (pa_cons (pv 1) pa_nil)))))
      (fun a oe cls d pn z hv => pss_one (ps_set (i := 2) nd rfl (.inl rfl) (pv 3))))
    (pss_cons (ps_if (pt_cmpR op_isN (pv 2) pe_non (nomark _)) (pss_one (ps_ret (pe_lst (pa_cons pe_str pa_nil)))) pss_nil)
    (pss_cons (ps_set (i := 4) nd rfl (.inl rfl) (pe_lst (pa_cons (pe_callB (r := rCaughtIs K) (call_caughtK rfl) (by rfl) mI (by decide +kernel) (pa_cons (pv 2) (pa_cons (pe_glob (v := .ref C0) (by rfl) U0.g rfl) pa_nil)))
      (pa_cons (pe_callB (r := rCaughtIs K) (call_caughtK rfl) (by rfl) mI (by decide +kernel) (pa_cons (pv 2) (pa_cons (pe_glob (v := .ref CL) (by rfl) UL.g rfl) pa_nil)))
      (pa_cons (pe_callB (r := rCaughtIs K) (call_caughtK rfl) (by rfl) mI (by decide +kernel) (pa_cons (pv 2) (pa_cons (pe_glob (v := .ref CU) (by rfl) UU.g rfl) pa_nil)))
      (pa_cons (pe_callB (r := rCaughtIs K) (call_caughtK rfl) (by rfl) mI (by decide +kernel) (pa_cons (pv 2) (pa_cons (pe_glob (v := .ref CN) (by rfl) UN.g rfl) pa_nil))) pa_nil))))))
    (pss_cons (ps_if (PW.pt (pw_or (pt_cmpR op_ne (pe_bm PySem.F.plainAttrs_list PySem.F.slot_list_count PySem.F.type_list_count mt_countF (pv 4) (pa_cons pe_bl pa_nil)) pe_int (nomark _))
      (pw_or1 (pt_not (pt_val (pe_callB (r := rCaughtIs K) (call_caughtK rfl) (by rfl) mI (by decide +kernel) (pa_cons (pv 2) (pa_cons (pe_bltn (v := .ty "ValueError") (by rfl) mV (by decide +kernel) rfl) pa_nil)))))))) (pss_one (ps_ret (pe_lst (pa_cons pe_str pa_nil)))) pss_nil)
    (pss_one (ps_ret (pe_lst (pa_cons (pe_ix (r := rIxL K) ix_list (pe_lst (pa_cons pe_str (pa_cons pe_str (pa_cons pe_str (pa_cons pe_str pa_nil))))) (pe_bm PySem.F.plainAttrs_list PySem.F.slot_list_index PySem.F.type_list_index mt_index (pv 4) (pa_cons pe_bl pa_nil)) (fun _ _ => rfl)) (pa_cons (pe_caught (pv 2)) pa_nil))))))))), ?_⟩
  have er : ∀ C bad, o = some (C, bad) → ErrC K C ∧ XfC K C ∧ PySem.W.findIn K (.ref C) ("value" : Str) = some none := fun C bad e => by
    have z := inC C bad e
    simp only [List.mem_cons, List.not_mem_nil, or_false] at z
    rcases z with rfl | rfl | rfl | rfl
    · exact ⟨U0.er, U0.xf, U0.noV⟩
    · exact ⟨UL.er, UL.xf, UL.noV⟩
    · exact ⟨UU.er, UU.xf, UU.noV⟩
    · exact ⟨UN.er, UN.xf, UN.noV⟩
  refine set_step ?_
  refine try_cut (fun σ' H' => ∃ ev, σ' = [some (.int (door : Nat)), some (.ref gl), some ev, none, none] ∧ Same H H' ∧ HeldE H' o ev) (fun D' hD => ?_) (fun σ' H2 hP => ?_)
  · refine ⟨_, rfl, _, rfl, door, gl, gs, o, rfl, sq, ends, fun C bad e H2 s2 d H3 s3 nd3 e3 => ⟨true, ex C (inC C bad e), fun _ a na => ?_, fun h => nomatch h⟩, fun e x H2 s2 => ?_⟩
    · have hne : a ≠ d := fun z => by
        rw [z, e3] at na
        exact nomatch na
      refine ⟨_, rfl, hD _ _ ⟨.ref a, rfl, (s2.trans s3).trans (same_new na), ?_⟩⟩
      rw [e]
      exact ⟨a, rfl, d, hne, upd_same, by rw [upd_ne hne.symm]; exact e3⟩
    · refine hD _ _ ⟨.non, rfl, s2, ?_⟩
      rw [e]
      rfl
  obtain ⟨ev, rfl, s2, he⟩ := hP
  have newT : ∀ {T : Addr} {H' : Hp}, Same H H' → H' T = none → H T = none := fun {T H'} s n => by
    cases z : H T with
    | none => rfl
    | some o => rw [s _ _ z] at n; cases n
  cases o with
  | none =>
    cases he
    refine ⟨_, rfl, rfl, _, rfl, iteT' (by simp) ⟨by show 1 ≤ sizeLine; decide, fun T nT => ?_⟩⟩
    exact q T _ (s2.trans (same_new nT)) (newT s2 nT) upd_same
  | some p =>
    obtain ⟨C, bad⟩ := p
    obtain ⟨a, rfl, cau⟩ := he
    obtain ⟨ec, xf, nv⟩ := er C bad rfl
    have hC := inC C bad rfl
    have fl : ∀ {H' : Hp} {D : Addr} {Q : VK}, D ∈ [C0, CL, CU, CN] → Same H2 H' → Q (.bl (decide (C = D))) H' → rCaughtIs K [.ref a, .ref D] H' Q := fun hD s h => ⟨a, C, bad, .ref _, .ref _, _, rfl, cau.same s, ec, .own _, kk C hC _ hD, h⟩
    refine ⟨_, rfl, rfl, _, rfl, iteF' (by simp) ?_⟩
    refine ⟨_, rfl, a, C, bad, .ref C0, .ref C0, _, rfl, cau, ec, .own _, kk C hC C0 (by simp), _, rfl, a, C, bad, .ref CL, .ref CL, _, rfl, cau, ec, .own _, kk C hC CL (by simp), _, rfl, a, C, bad, .ref CU, .ref CU, _, rfl, cau, ec, .own _, kk C hC CU (by simp), _, rfl, a, C, bad, .ref CN, .ref CN, _, rfl, cau, ec, .own _, kk C hC CN (by simp), nil_read ⟨by show 4 ≤ sizeLine; decide, fun L nL => ?_⟩⟩
    obtain ⟨k, k4, ek, wk⟩ := flag_at ndC hC
    rw [ek]
    have g3 := same_new nL (o := .lst ((at4 k).map V.bl))
    have f3 : L2.upd H2 L (.lst ((at4 k).map V.bl)) L = some (.lst ((at4 k).map V.bl)) := upd_same
    generalize L2.upd H2 L (.lst ((at4 k).map V.bl)) = H3 at g3 f3 ⊢
    have cau3 := cau.same g3
    have flat4 : ((at4 k).map V.bl).all flatV = true := List.all_eq_true.mpr fun v hv => by
      obtain ⟨b, _, rfl⟩ := List.mem_map.mp hv
      rfl
    have one : (((at4 k).map V.bl).countP fun z => eqV z (.bl true)) = 1 := by
      have c : k = 0 ∨ k = 1 ∨ k = 2 ∨ k = 3 := by omega
      rcases c with rfl | rfl | rfl | rfl <;> decide
    have idx : ((at4 k).map V.bl)[k]? = some (.bl true) ∧ ∀ (m : Nat) (z' : V), m < k → ((at4 k).map V.bl)[m]? = some z' → eqV z' (.bl true) = false := by
      have c : k = 0 ∨ k = 1 ∨ k = 2 ∨ k = 3 := by omega
      rcases c with rfl | rfl | rfl | rfl
      · exact ⟨rfl, fun m z' h => absurd h (by omega)⟩
      · refine ⟨rfl, fun m z' h e => ?_⟩
        obtain rfl : m = 0 := by omega
        injection e with e; subst e; rfl
      · refine ⟨rfl, fun m z' h e => ?_⟩
        have c : m = 0 ∨ m = 1 := by omega
        rcases c with rfl | rfl <;> (injection e with e; subst e; rfl)
      · refine ⟨rfl, fun m z' h e => ?_⟩
        have c : m = 0 ∨ m = 1 ∨ m = 2 := by omega
        rcases c with rfl | rfl | rfl <;> (injection e with e; subst e; rfl)
    refine ⟨_, rfl, .inl ⟨rfl, _, SqL.of f3⟩, L, _, .bl true, rfl, rfl, SqL.of f3, rfl, flat4, ?_⟩
    rw [one]
    refine ⟨rfl, _, rfl, iteF' (by decide) ?_⟩
    refine ⟨_, rfl, a, C, bad, .ty "ValueError", .type "ValueError", true, rfl, cau3, ec, .ty _, kv C hC, true, rfl, iteF' rfl ?_⟩
    refine ⟨by show 4 ≤ sizeLine; decide, fun L2' nL2 => ?_⟩
    have g4 := same_new nL2 (o := .lst [V.str "store", .str "list", .str "unlike", .str "number"])
    have f4 : L2.upd H3 L2' (.lst [V.str "store", .str "list", .str "unlike", .str "number"]) L2' = some (.lst (words4.map V.str)) := upd_same
    generalize L2.upd H3 L2' (.lst [V.str "store", .str "list", .str "unlike", .str "number"]) = H4 at g4 f4 ⊢
    refine ⟨_, rfl, .inl ⟨rfl, _, SqL.of (g4 _ _ f3)⟩, L, _, .bl true, k, _, rfl, rfl, SqL.of (g4 _ _ f3), rfl, flat4, idx.1, rfl, idx.2, ?_⟩
    refine ⟨L2', _, _, _, rfl, rfl, SqL.of f4, atI_nat (j := k) (show (words4.map V.str)[k]? = some (.str (wordAt C0 CL CU C)) by rw [List.getElem?_map, wk]; rfl), _, rfl, a, C, bad, rfl, cau3.same g4, xf, nv, nil_read ⟨by show 2 ≤ sizeLine; decide, fun T nT => ?_⟩⟩
    have g5 := same_new nT (o := .lst [V.str (wordAt C0 CL CU C), bad])
    exact q T _ (((s2.trans g3).trans g4).trans g5) (newT ((s2.trans g3).trans g4) nT) upd_same
end
end DQ

set_option Elab.async false
set_option linter.all false
set_option maxRecDepth 100000
set_option maxHeartbeats 1000000
namespace DQ
open PySem PySem.Spec PyProof.Rows L2
/-! ### repr of any data, empty dicts among it -/
def rReprZ (K : PySem.W.Frag) : List V → Hp → VK → Prop := fun xs H Q => ∃ (v : V) (d : PyData), xs = [v] ∧ Dp K H v d ∧ ShowsZ d ∧ Q (.str d.shown) H
theorem call_reprZ {X : Cx} (hu : X.A.units + 65 < cLine) (hg : X.A.guards = some []) : CallR X (.builtin "repr") (rReprZ X.K) := by
  intro pins s σ H xs us Q I r h
  obtain ⟨v, d, rfl, hd, ⟨sh, dep, sz⟩, q⟩ := h
  cases hd with
  | non => exact call_reprV hu hg pins s σ H _ us Q I r ⟨_, _, rfl, .non, ⟨sh, rfl, dep, sz⟩, q⟩
  | bl b => exact call_reprV hu hg pins s σ H _ us Q I r ⟨_, _, rfl, .bl b, ⟨sh, rfl, dep, sz⟩, q⟩
  | int i => exact call_reprV hu hg pins s σ H _ us Q I r ⟨_, _, rfl, .int i, ⟨sh, rfl, dep, sz⟩, q⟩
  | str x => exact call_reprV hu hg pins s σ H _ us Q I r ⟨_, _, rfl, .str x, ⟨sh, rfl, dep, sz⟩, q⟩
  | tup hs ha => exact call_reprT hu hg pins s σ H _ us Q I r ⟨_, _, rfl, .tup hs ha, ⟨sh, dep, sz⟩, q⟩
  | lst hs ha =>
    rename_i a xs ds
    obtain ⟨u, rfl, ru⟩ := L2.vals1 r
    obtain ⟨as, rd⟩ := Dp.reads I (.list ds) _ _ (.lst hs ha) ru
    obtain rfl : u = Value.ref a := ru
    obtain ⟨its, rv, ⟨o, n, ho, hc, _, hd⟩, _⟩ := I.list hs
    have sz' : (listText (PyData.shownAll ds)).length ≤ sizeLine := by simpa only [PyData.shown] using sz
    obtain ⟨bs, hb, hk⟩ := dpAll_shown I ds _ its ha rv (by simpa only [PyData.showable] using sh) fun t ht => Nat.le_trans (listText_mem_le ht) sz'
    have hna := not_mem_of_deeper rd (by simp only [PyData.depth]; omega) hb
    have dp : PyData.depthAll ds + 1 ≤ 64 := by simpa only [PyData.depth] using dep
    simp only [PyData.shown] at q
    cases its with
    | nil =>
      cases rv
      cases ha
      simp only [PyData.shownAll, listText_nil] at q
      exact call_repr_slot (by omega) ⟨o, ho, hc⟩ F.slot_list_repr.toG (call_list_repr_empty ⟨o, ho, hc⟩ ho hd ⟨_, _, rfl, ⟨.str _, H, I.tok _, ⟨_, rfl⟩, q⟩⟩)
    | cons y ys =>
      refine call_repr_slot (by omega) ⟨o, ho, hc⟩ F.slot_list_repr.toG (call_list_reprK ho hc hd hna (by simpa using hk.length_eq) (fun i z e => hk.item i z (by simpa using e)) hg (fun b _ => Clear.nil b) (by show X.A.units + 1 + _ < _; omega) (fun _ _ e => e) (fun h' u tk k => ⟨_, _, rfl, ?_⟩) sz')
      exact ⟨.str _, H, I.kept fun b o e => k b o e, ⟨u, rfl⟩, q⟩
  | dct hs =>
    obtain ⟨u, rfl, ru⟩ := L2.vals1 r
    obtain rfl : u = Value.ref _ := ru
    obtain ⟨_, hsys, vs, kv, o, es, ep, ho, ex, hd, _, ps, _⟩ := L2.dk_of I.hok hs
    have e0 : vs = [] := by
      cases kv
      rfl
    subst e0
    have e1 : es.toList = [] := List.length_eq_zero_iff.mp (by simpa using PySem.Pairs.length ps)
    simp only [PyData.shown, PyData.shownKv] at q
    refine call_repr_slot (by omega) ⟨o, ho, ex.1⟩ F.slot_dict_repr (call_dict_reprK (as := []) (d := 0) ho ex.1 hd hsys (by simp) (by rw [e1]; exact .nil) hg (fun b _ => Clear.nil b) (by show X.A.units + 1 + _ < _; omega) (fun _ _ e => e) (fun h' u tk k => ⟨_, _, rfl, ?_⟩) (by decide))
    exact ⟨.str _, H, I.kept fun b o e => k b o e, ⟨u, rfl⟩, q⟩
end DQ

set_option Elab.async false
set_option linter.all false
set_option maxRecDepth 100000
set_option maxHeartbeats 4000000
namespace DQ
open PySem PySem.Spec PyProof.Rows L2
abbrev sAll : Stmt := topS 62
abbrev NAl : List Str := ["doors", "given", "due", "odd", "good", "behind", "door", "kept"]
theorem scAll : FnScope NAl ["doors", "given", "due", "odd", "good"] (defScope sAll) := ⟨rfl, rfl, rfl, by decide +kernel, rfl, by decide +kernel, by decide +kernel⟩
section
variable {P : Program} {w : World} {K : PySem.W.Frag} {mg : Str → Option Value} {base : Heap}
/-- every door is refused, whatever stands behind -/
def AllRef (K : PySem.W.Frag) (C0 CL CU CN : Addr) (H : Hp) (ds : List Nat) (gs : List V) (odd : V) (goods : List V) (C : Addr) : Prop :=
  ∀ door ∈ ds, ∀ bs : List V, (bs = List.replicate 6 .non ∨ bs = List.replicate 6 odd ∨ bs = goods) → DoorEnds K C0 CL CU CN H door (gs ++ [odd] ++ bs.drop (gs.length + 1)) (some (C, odd))
def spAll (K : PySem.W.Frag) (C0 CL CU CN : Addr) : Sp := fun vs H Q _ => ∃ (dl gl gd : Addr) (ds : List Nat) (gs goods : List V) (odd : V) (d : PyData) (C : Addr), vs = [.ref dl, .ref gl, .str (wordAt C0 CL CU C), odd, .ref gd] ∧ ds.length ≤ 4 ∧ gs.length ≤ 5 ∧ goods.length ≤ 6 ∧
  H dl = some (.lst (ds.map fun k => V.int (k : Nat))) ∧ H gl = some (.lst gs) ∧ H gd = some (.lst goods) ∧ Dp K H odd d ∧ ShowsZ d ∧ ShowsZ (.list [.str (wordAt C0 CL CU C), d]) ∧ C ∈ [C0, CL, CU, CN] ∧ AllRef K C0 CL CU CN H ds gs odd goods C ∧ ∀ H', Same H H' → Q (.bl true) H'
theorem ok_all {f fT C0 CL CU CN : Addr} {fd dT : FuncData} (F : Fun K "_law_all_refused" "_law_all_refused" sAll f fd)
    (GT : FnG P w K mg base CX0 12 fT dT ["door", "given"] (spTold K C0 CL CU CN)) (bT : Binds K dT ["door", "given"] []) (kT : PySem.W.keepIn K (.ref fT) = true) (mT : mg "_law_told" = some (.ref fT))
    (mR : mg "repr" = none) (mList : mg "list" = none) (mLen : mg "len" = none) : FnG P w K mg base CX0 13 f fd ["doors", "given", "due", "odd", "good"] (spAll K C0 CL CU CN) := by
  refine fun_okG F scAll (fun vs H Q E h => ?_) (fun cdv A outer s H vs Q E hr hG h => ?_)
  · obtain ⟨_, _, _, _, _, _, _, _, _, rfl, _⟩ := h
    rfl
  obtain ⟨dl, gl, gd, ds, gs, goods, odd, d, C, rfl, lds, lgs, lgd, edl, egl, egd, hd, sh, sh2, hC, all, q⟩ := h
  have nd := scAll.nd
  refine ⟨_, pss_cons (ps_for (passes_of rfl) rfl (pi_list (pe_lst (pa_cons (pe_op op_rep (pe_lst (pa_cons pe_non pa_nil)) pe_int) (pa_cons (pe_op op_rep (pe_lst (pa_cons (pv 3) pa_nil)) pe_int) (pa_cons (pv 4) pa_nil))))) (pg_name (i := 5) nd rfl (.inl rfl))
      (pss_one (ps_for (passes_of rfl) rfl (pi_list (pv 0)) (pg_name (i := 6) nd rfl (.inl rfl))
        (pss_cons (ps_set (i := 7) nd rfl (.inl rfl) (pe_callB (call_reprZ (room65 hr) hG) (by rfl) mR (by decide +kernel) (pa_cons (pv 3) pa_nil)))
        (pss_one (ps_if (PW.pt (pw_or (pt_cmpR op_ne (pe_callB (call_reprZ (room65 hr) hG) (by rfl) mR (by decide +kernel) (pa_cons (pe_callGd GT hr hG rfl mT kT bT .nil pass0 (pa_cons (pv 6) (pa_cons (pe_op op_cat (pe_op op_cat (pv 1) (pe_lst (pa_cons (pv 3) pa_nil))) (pe_callTy call_list_of (by rfl) mList (by decide +kernel) (pa_cons (pe_slice sl_list (pv 5) (po_some (pe_op op_add (pe_callB call_len_seq (by rfl) mLen PySem.boot_len (pa_cons (pv 1) pa_nil)) pe_int)) po_none) pa_nil))) pa_nil))) pa_nil))
            (pe_callB (call_reprZ (room65 hr) hG) (by rfl) mR (by decide +kernel) (pa_cons (pe_lst (pa_cons (pv 2) (pa_cons (pv 3) pa_nil))) pa_nil)) (nomark _))
          (pw_or1 (pt_cmpR op_ne (pe_callB (call_reprZ (room65 hr) hG) (by rfl) mR (by decide +kernel) (pa_cons (pv 3) pa_nil)) (pv 7) (nomark _))))) (pss_one (ps_ret pe_bl)) pss_nil))))))
    (pss_one (ps_ret pe_bl)), ?_⟩
  -- the three lists
  refine ⟨by decide, fun p1 n1 => ⟨p1, 6, [.non], rfl, rfl, upd_same, by decide, by decide, by decide, fun q1 nq1 => ?_⟩⟩
  have a1 := same_new n1 (o := .lst [V.non])
  have a2 := same_new nq1 (o := .lst (List.replicate (6 : Int).toNat [V.non]).flatten)
  have f2 : L2.upd (L2.upd H p1 (.lst [V.non])) q1 (.lst (List.replicate (6 : Int).toNat [V.non]).flatten) q1 = some (.lst (List.replicate 6 V.non)) := upd_same
  generalize L2.upd (L2.upd H p1 (.lst [V.non])) q1 (.lst (List.replicate (6 : Int).toNat [V.non]).flatten) = H2 at a2 f2 ⊢
  refine ⟨_, rfl, by show 1 ≤ sizeLine; decide, fun p3 n3 => ⟨p3, 6, [odd], rfl, rfl, upd_same, by decide, by decide, by show 6 ≤ sizeLine; decide, fun q2 nq2 => ?_⟩⟩
  have a3 := same_new n3 (o := .lst [odd])
  have a4 := same_new nq2 (o := .lst (List.replicate (6 : Int).toNat [odd]).flatten)
  have f4 : L2.upd (L2.upd H2 p3 (.lst [odd])) q2 (.lst (List.replicate (6 : Int).toNat [odd]).flatten) q2 = some (.lst (List.replicate 6 odd)) := upd_same
  generalize L2.upd (L2.upd H2 p3 (.lst [odd])) q2 (.lst (List.replicate (6 : Int).toNat [odd]).flatten) = H4 at a4 f4 ⊢
  refine ⟨_, rfl, by show 3 ≤ sizeLine; decide, fun L nL => ?_⟩
  have a5 := same_new nL (o := .lst [V.ref q1, .ref q2, .ref gd])
  have f5 : L2.upd H4 L (.lst [V.ref q1, .ref q2, .ref gd]) L = some (.lst [V.ref q1, .ref q2, .ref gd]) := upd_same
  generalize L2.upd H4 L (.lst [V.ref q1, .ref q2, .ref gd]) = H5 at a5 f5 ⊢
  have s5 : Same H H5 := (((a1.trans a2).trans a3).trans a4).trans a5
  have e1 : H5 q1 = some (.lst (List.replicate 6 V.non)) := a5 _ _ (a4 _ _ (a3 _ _ f2))
  have e2 : H5 q2 = some (.lst (List.replicate 6 odd)) := a5 _ _ f4
  have e3 := s5 _ _ egd
  refine ⟨L, rfl, ⟨_, SqL.of f5⟩, for_list (K := K) (a := L) (xs := [V.ref q1, .ref q2, .ref gd]) (fun k σ H' => ∃ y5 y6 y7 : Option V, σ = [some (.ref dl), some (.ref gl), some (.str (wordAt C0 CL CU C)), some odd, some (.ref gd), y5, y6, y7] ∧ Same H5 H') ⟨none, none, none, rfl, fun _ _ h => h⟩ (fun k σ H6 _ hP => ?_) (fun k x σ H6 hx hP => ?_) fun σ H6 hP => ?_⟩
  · obtain ⟨_, _, _, _, s6⟩ := hP
    exact SqL.of (s6 _ _ f5)
  · obtain ⟨y5, y6, y7, rfl, s6⟩ := hP
    obtain ⟨b, bs, rfl, eb, hb⟩ : ∃ b bs, x = .ref b ∧ H5 b = some (.lst bs) ∧ (bs = List.replicate 6 .non ∨ bs = List.replicate 6 odd ∨ bs = goods) := by
      have hk : k < 3 := (List.getElem?_eq_some_iff.mp hx).1
      have c : k = 0 ∨ k = 1 ∨ k = 2 := by omega
      rcases c with rfl | rfl | rfl
      · exact ⟨q1, _, (Option.some.inj hx).symm, e1, .inl rfl⟩
      · exact ⟨q2, _, (Option.some.inj hx).symm, e2, .inr (.inl rfl)⟩
      · exact ⟨gd, _, (Option.some.inj hx).symm, e3, .inr (.inr rfl)⟩
    have lbs : bs.length ≤ 6 := by
      rcases hb with rfl | rfl | rfl
      · simp
      · simp
      · exact lgd
    refine ⟨_, rfl, dl, rfl, ⟨_, SqL.of (s6 _ _ (s5 _ _ edl))⟩, for_list (K := K) (a := dl) (xs := ds.map fun k => V.int (k : Nat)) (fun j σ H' => ∃ y6 y7 : Option V, σ = [some (.ref dl), some (.ref gl), some (.str (wordAt C0 CL CU C)), some odd, some (.ref gd), some (.ref b), y6, y7] ∧ Same H5 H') ⟨y6, y7, rfl, s6⟩ (fun j σ H7 _ hP => ?_) (fun j x σ H7 hx2 hP => ?_) fun σ H7 hP => ?_⟩
    · obtain ⟨_, _, _, s7⟩ := hP
      exact SqL.of (s7 _ _ (s5 _ _ edl))
    · obtain ⟨z6, z7, rfl, s7⟩ := hP
      obtain ⟨door, hd2, rfl⟩ := at_map hx2
      have ends := all door (List.mem_of_getElem? hd2) bs hb
      have s57 := s5.trans s7
      refine ⟨_, rfl, odd, d, rfl, dp_same s57 _ _ hd, sh, ?_⟩
      generalize hz : d.shown = zz
      refine ⟨_, rfl, _, rfl, _, rfl, by show 1 ≤ sizeLine; decide, fun p8 n8 => ?_⟩
      have b8 := same_new n8 (o := .lst [odd])
      have f8 : L2.upd H7 p8 (.lst [odd]) p8 = some (.lst [odd]) := upd_same
      generalize L2.upd H7 p8 (.lst [odd]) = H8 at b8 f8 ⊢
      refine ⟨gl, p8, gs, [odd], rfl, rfl, b8 _ _ (s57 _ _ egl), f8, Nat.le_trans (show gs.length + 1 ≤ 10 by omega) (by decide), fun p9 n9 => ?_⟩
      have b9 := same_new n9 (o := .lst (gs ++ [odd]))
      have f9 : L2.upd H8 p9 (.lst (gs ++ [odd])) p9 = some (.lst (gs ++ [odd])) := upd_same
      generalize L2.upd H8 p9 (.lst (gs ++ [odd])) = H9 at b9 f9 ⊢
      have s79 := b8.trans b9
      refine ⟨_, rfl, _, rfl, gl, _, rfl, .inl (SqL.of (s79 _ _ (s57 _ _ egl))), _, _, rfl, rfl, _, rfl, b, bs, rfl, SqL.of (s79 _ _ (s7 _ _ eb)), fun pA nA => ?_⟩
      rw [show ((gs.length : Nat) : Int) + 1 = ((gs.length + 1 : Nat) : Int) by omega, cut_drop]
      have bA := same_new nA (o := .lst (bs.drop (gs.length + 1)))
      have fA : L2.upd H9 pA (.lst (bs.drop (gs.length + 1))) pA = some (.lst (bs.drop (gs.length + 1))) := upd_same
      generalize L2.upd H9 pA (.lst (bs.drop (gs.length + 1))) = HA at bA fA ⊢
      refine ⟨pA, _, rfl, .inl (SqL.of fA), fun pB nB => ?_⟩
      have bB := same_new nB (o := .lst (bs.drop (gs.length + 1)))
      have fB : L2.upd HA pB (.lst (bs.drop (gs.length + 1))) pB = some (.lst (bs.drop (gs.length + 1))) := upd_same
      generalize L2.upd HA pB (.lst (bs.drop (gs.length + 1))) = HB at bB fB ⊢
      refine ⟨p9, pB, gs ++ [odd], _, rfl, rfl, bB _ _ (bA _ _ f9), fB, Nat.le_trans (show (gs ++ [odd]).length + (bs.drop (gs.length + 1)).length ≤ 20 by rw [List.length_append, List.length_drop, List.length_singleton]; omega) (by decide), fun pC nC => ?_⟩
      have bC := same_new nC (o := .lst (gs ++ [odd] ++ bs.drop (gs.length + 1)))
      have fC : L2.upd HB pC (.lst (gs ++ [odd] ++ bs.drop (gs.length + 1))) pC = some (.lst (gs ++ [odd] ++ bs.drop (gs.length + 1))) := upd_same
      generalize L2.upd HB pC (.lst (gs ++ [odd] ++ bs.drop (gs.length + 1))) = HC at bC fC ⊢
      have s7C : Same H7 HC := ((s79.trans bA).trans bB).trans bC
      have s0C := s57.trans s7C
      refine nil_read ⟨door, pC, _, some (C, odd), rfl, SqL.of fC, ends.same s0C, (fun D b e => by injection e with e; injection e with e _; rw [← e]; exact hC), fun T HD sD _ eT => ?_⟩
      have s0D := s0C.trans sD
      refine ⟨.ref T, .list [.str (wordAt C0 CL CU C), d], rfl, .lst (SqL.of eT) (.cons (.str _) (.cons (dp_same s0D _ _ hd) .nil)), sh2, ?_⟩
      refine ⟨_, rfl, _, rfl, by show 2 ≤ sizeLine; decide, fun pE nE => ?_⟩
      have bE := same_new nE (o := .lst [V.str (wordAt C0 CL CU C), odd])
      refine ⟨.ref pE, .list [.str (wordAt C0 CL CU C), d], rfl, .lst (SqL.of upd_same) (.cons (.str _) (.cons (dp_same (s0D.trans bE) _ _ hd) .nil)), sh2, ?_⟩
      generalize (PyData.list [.str (wordAt C0 CL CU C), d]).shown = yy
      refine ⟨rfl, false, by simp, iteF' rfl ?_⟩
      refine ⟨_, rfl, odd, d, rfl, dp_same (s0D.trans bE) _ _ hd, sh, _, rfl, ?_⟩
      rw [hz]
      refine ⟨rfl, false, by simp, iteF' rfl ?_⟩
      exact ⟨_, _, rfl, ((s7.trans s7C).trans sD).trans bE⟩
    · obtain ⟨z6, z7, rfl, s7⟩ := hP
      exact ⟨_, _, _, rfl, s7⟩
  · obtain ⟨y5, y6, y7, rfl, s6⟩ := hP
    exact q H6 (s5.trans s6)
end
end DQ

set_option Elab.async false
set_option linter.all false
set_option maxRecDepth 100000
set_option maxHeartbeats 1000000
namespace DQ
open PySem PySem.Spec PyProof.Rows L2
/-! ### data that is written down in a def: one promise for a whole literal -/
mutual
def Lit (H : Hp) : PyData → V → Prop
  | .none, v => v = .non
  | .bool b, v => v = .bl b
  | .int i, v => v = .int i
  | .str x, v => v = .str x
  | .list ds, v => ∃ (a : Addr) (xs : List V), v = .ref a ∧ H a = some (.lst xs) ∧ LitAll H ds xs
  | .tuple ds, v => ∃ (a : Addr) (xs : List V), v = .ref a ∧ H a = some (.tup xs) ∧ LitAll H ds xs
  | .dict kvs, v => kvs = [] ∧ ∃ a : Addr, v = .ref a ∧ H a = some (.dK [])
def LitAll (H : Hp) : List PyData → List V → Prop
  | [], xs => xs = []
  | d :: ds, xs => ∃ (v : V) (vs : List V), xs = v :: vs ∧ Lit H d v ∧ LitAll H ds vs
end
mutual
theorem lit_same {H H' : Hp} (e : Same H H') : ∀ (d : PyData) (v : V), Lit H d v → Lit H' d v
  | .none, _, h => by simpa only [Lit] using h
  | .bool b, _, h => by simpa only [Lit] using h
  | .int i, _, h => by simpa only [Lit] using h
  | .str x, _, h => by simpa only [Lit] using h
  | .list ds, _, h => by
    simp only [Lit] at h ⊢
    obtain ⟨a, xs, r, ha, hx⟩ := h
    exact ⟨a, xs, r, e _ _ ha, litAll_same e ds _ hx⟩
  | .tuple ds, _, h => by
    simp only [Lit] at h ⊢
    obtain ⟨a, xs, r, ha, hx⟩ := h
    exact ⟨a, xs, r, e _ _ ha, litAll_same e ds _ hx⟩
  | .dict kvs, _, h => by
    simp only [Lit] at h ⊢
    obtain ⟨z, a, r, ha⟩ := h
    exact ⟨z, a, r, e _ _ ha⟩
theorem litAll_same {H H' : Hp} (e : Same H H') : ∀ (ds : List PyData) (vs : List V), LitAll H ds vs → LitAll H' ds vs
  | [], _, h => by simpa only [LitAll] using h
  | d :: ds, _, h => by
    simp only [LitAll] at h ⊢
    obtain ⟨v, vs, r, h1, h2⟩ := h
    exact ⟨v, vs, r, lit_same e d _ h1, litAll_same e ds _ h2⟩
end
mutual
theorem lit_dp {K : PySem.W.Frag} {H : Hp} : ∀ (d : PyData) (v : V), Lit H d v → Dp K H v d
  | .none, _, h => by
    simp only [Lit] at h
    rw [h]
    exact .non
  | .bool b, _, h => by
    simp only [Lit] at h
    rw [h]
    exact .bl b
  | .int i, _, h => by
    simp only [Lit] at h
    rw [h]
    exact .int i
  | .str x, _, h => by
    simp only [Lit] at h
    rw [h]
    exact .str x
  | .list ds, _, h => by
    simp only [Lit] at h
    obtain ⟨a, xs, r, ha, hx⟩ := h
    rw [r]
    exact .lst (SqL.of ha) (litAll_dp ds _ hx)
  | .tuple ds, _, h => by
    simp only [Lit] at h
    obtain ⟨a, xs, r, ha, hx⟩ := h
    rw [r]
    exact .tup (.inl (.inl ha)) (litAll_dp ds _ hx)
  | .dict kvs, _, h => by
    simp only [Lit] at h
    obtain ⟨z, a, r, ha⟩ := h
    rw [z, r]
    exact .dct ha
theorem litAll_dp {K : PySem.W.Frag} {H : Hp} : ∀ (ds : List PyData) (vs : List V), LitAll H ds vs → DpAll K H vs ds
  | [], _, h => by
    simp only [LitAll] at h
    rw [h]
    exact .nil
  | d :: ds, _, h => by
    simp only [LitAll] at h
    obtain ⟨v, vs, r, h1, h2⟩ := h
    rw [r]
    exact .cons (lit_dp d _ h1) (litAll_dp ds _ h2)
end
theorem litAll_len {H : Hp} : ∀ {ds : List PyData} {vs : List V}, LitAll H ds vs → vs.length = ds.length
  | [], _, h => by
    simp only [LitAll] at h
    rw [h]
    rfl
  | d :: ds, _, h => by
    simp only [LitAll] at h
    obtain ⟨v, vs, r, h1, h2⟩ := h
    rw [r, List.length_cons, List.length_cons, litAll_len h2]
theorem litAll_get {H : Hp} : ∀ {ds : List PyData} {vs : List V} {k : Nat} {v : V}, LitAll H ds vs → vs[k]? = some v → ∃ d, ds[k]? = some d ∧ Lit H d v
  | [], _, _, _, h, e => by
    simp only [LitAll] at h
    rw [h] at e
    simp at e
  | d :: ds, _, 0, _, h, e => by
    simp only [LitAll] at h
    obtain ⟨v, vs, r, h1, h2⟩ := h
    rw [r] at e
    cases e
    exact ⟨d, rfl, h1⟩
  | d :: ds, _, k + 1, _, h, e => by
    simp only [LitAll] at h
    obtain ⟨v, vs, r, h1, h2⟩ := h
    rw [r] at e
    exact litAll_get (k := k) h2 (by simpa using e)
/-- a part of the heap (all of it, or all but one place), and what the slots and the heap say and go on saying -/
structure View (vw : L2.St → Hp → Hp) (Pre : L2.St → Hp → Prop) : Prop where
  same : ∀ σ H H', Same H H' → Same (vw σ H) (vw σ H')
  new : ∀ σ H p o, Pre σ H → H p = none → vw σ (upd H p o) p = some o
  steady : ∀ σ H H', Same H H' → Pre σ H → Pre σ H'
theorem view_all {Pre : L2.St → Hp → Prop} (s : ∀ σ H H', Same H H' → Pre σ H → Pre σ H') : View (fun _ H => H) Pre := ⟨fun _ _ _ s => s, fun _ _ _ _ _ _ => upd_same, s⟩
theorem same_del {F : Addr} {H H' : Hp} (s : Same H H') : Same (del H F) (del H' F) := fun b o e => by
  by_cases z : b = F
  · rw [z, del_same] at e
    cases e
  · rw [del_ne z] at e ⊢
    exact s b o e
/-- the place that a slot names -/
def slotA (i : Nat) (σ : L2.St) : Addr := match σ[i]? with
  | some (some (.ref a)) => a
  | _ => 0
theorem view_two {i : Nat} {g : Addr} {Pre : L2.St → Hp → Prop} (h : ∀ σ H, Pre σ H → H (slotA i σ) ≠ none ∧ H g ≠ none) (s : ∀ σ H H', Same H H' → Pre σ H → Pre σ H') : View (fun σ H => del (del H (slotA i σ)) g) Pre := ⟨fun _ _ _ s => same_del (same_del s), fun σ H p o q n => by
  show del (del (upd H p o) (slotA i σ)) g p = some o
  rw [del_ne (fun e => (h σ H q).2 (by rw [← e]; exact n)), del_ne (fun e => (h σ H q).1 (by rw [← e]; exact n)), upd_same], s⟩
theorem del_sub {F : Addr} {H : Hp} : Same (del H F) H := fun b o e => by
  by_cases z : b = F
  · rw [z, del_same] at e
    cases e
  · rwa [del_ne z] at e
/-- a literal: its data hangs on the slots alone -/
def tLit (vw : L2.St → Hp → Hp) (Pre : L2.St → Hp → Prop) (d : L2.St → PyData) : TE := fun σ H Q => Pre σ H ∧ ∀ v H', Same H H' → Lit (vw σ H') (d σ) v → Q v H'
def tLits (vw : L2.St → Hp → Hp) (Pre : L2.St → Hp → Prop) (ds : L2.St → List PyData) : TA := fun σ H Q => Pre σ H ∧ ∀ vs H', Same H H' → LitAll (vw σ H') (ds σ) vs → Q vs H'
theorem pe_mono {X : Cx} {e : Expr} {te te' : TE} (h : PE X e te) (m : ∀ σ H Q, te' σ H Q → te σ H Q) : PE X e te' := ⟨fun pins s σ H Q I q => h.run pins s σ H Q I (m σ H Q q)⟩
theorem pa_mono {X : Cx} {es : List Expr} {t t' : TA} (h : PA X es t) (m : ∀ σ H Q, t' σ H Q → t σ H Q) : PA X es t' := ⟨fun pos pins s σ H Q I q => h.run pos pins s σ H Q I (m σ H Q q)⟩
section
variable {X : Cx} {vw : L2.St → Hp → Hp} {Pre : L2.St → Hp → Prop} {pos : Pos}
theorem l_int {i : Int} {j} : PE X (.Constant (.int i) j pos) (tLit vw Pre fun _ => .int i) := pe_mono pe_int fun σ H Q h => h.2 _ H (L2.Same.refl H) (by simp only [Lit])
theorem l_bl {b : Bool} {j} : PE X (.Constant (.bool b) j pos) (tLit vw Pre fun _ => .bool b) := pe_mono pe_bl fun σ H Q h => h.2 _ H (L2.Same.refl H) (by simp only [Lit])
theorem l_non {j} : PE X (.Constant .none j pos) (tLit vw Pre fun _ => .none) := pe_mono pe_non fun σ H Q h => h.2 _ H (L2.Same.refl H) (by simp only [Lit])
theorem l_str {x : Str} {j} : PE X (.Constant (.str x) j pos) (tLit vw Pre fun _ => .str x) := pe_mono pe_str fun σ H Q h => h.2 _ H (L2.Same.refl H) (by simp only [Lit])
theorem l_neg {i : Int} {j pos'} : PE X (.UnaryOp .USub (.Constant (.int i) j pos') pos) (tLit vw Pre fun _ => .int (-i)) := pe_mono (pe_un un_neg pe_int) fun σ H Q h => ⟨i, rfl, h.2 _ H (L2.Same.refl H) (by simp only [Lit])⟩
/-- the int in a slot -/
def slotI (i : Nat) (σ : L2.St) : Int := match σ[i]? with
  | some (some (.int k)) => k
  | _ => 0
theorem l_ivar {x : Str} {i : Nat} (h : PE X (.Name x pos) (tVar i)) (m : ∀ σ H, Pre σ H → ∃ k, σ[i]? = some (some (.int k))) : PE X (.Name x pos) (tLit vw Pre fun σ => .int (slotI i σ)) := pe_mono h fun σ H Q q => by
  obtain ⟨k, e⟩ := m σ H q.1
  refine ⟨_, e, q.2 _ H (L2.Same.refl H) ?_⟩
  simp only [Lit, slotI]
  rw [e]
theorem l_pow {a b c : Int} {j1 j2 p1 p2} (h : 0 ≤ b ∧ a.natAbs ≤ 1000 ∧ b.toNat ≤ 100) (e : a ^ b.toNat = c) (pw : OpR X (binaryOp .Pow) (fun x y H Q => x = .int a ∧ y = .int b ∧ Q (.int c) H)) : PE X (.BinOp (.Constant (.int a) j1 p1) .Pow (.Constant (.int b) j2 p2) pos) (tLit vw Pre fun _ => .int c) := pe_mono (pe_op pw pe_int pe_int) fun σ H Q h => ⟨rfl, rfl, h.2 _ H (L2.Same.refl H) (by simp only [Lit])⟩
theorem l_dct (V : View vw Pre) : PE X (.Dict [] [] pos) (tLit vw Pre fun _ => .dict []) := pe_mono pe_dnewK fun σ H Q h p np => h.2 _ _ (same_new np) (by
  simp only [Lit]
  exact ⟨trivial, p, rfl, V.new σ H p _ h.1 np⟩)
theorem l_nil : PA X [] (tLits vw Pre fun _ => []) := pa_mono pa_nil fun σ H Q h => h.2 _ H (L2.Same.refl H) (by simp only [LitAll])
theorem l_cons (V : View vw Pre) {e : Expr} {es : List Expr} {d : L2.St → PyData} {ds : L2.St → List PyData} (he : PE X e (tLit vw Pre d)) (hr : PA X es (tLits vw Pre ds)) (hs : starEach (e :: es) X.env = (false, eval e X.env) :: starEach es X.env := by rfl) : PA X (e :: es) (tLits vw Pre fun σ => d σ :: ds σ) :=
  pa_mono (pa_cons he hr hs) fun σ H Q h => ⟨h.1, fun v H1 s1 l1 => ⟨V.steady _ _ _ s1 h.1, fun vs H2 s2 l2 => h.2 _ H2 (s1.trans s2) (by
    simp only [LitAll]
    exact ⟨v, vs, rfl, lit_same (V.same σ _ _ s2) _ _ l1, l2⟩)⟩⟩
theorem l_lst (V : View vw Pre) {es : List Expr} {ds : L2.St → List PyData} (h : PA X es (tLits vw Pre ds)) (few : ∀ σ, (ds σ).length ≤ 1000 := by intro _; exact Nat.le_of_ble_eq_true rfl) : PE X (.List es pos) (tLit vw Pre fun σ => .list (ds σ)) := pe_mono (pe_lst h) fun σ H Q q => ⟨q.1, fun vs H1 s1 l1 => ⟨by
    rw [litAll_len l1]
    exact Nat.le_trans (few σ) (by decide), fun p np => q.2 _ _ (s1.trans (same_new np)) (by
    simp only [Lit]
    exact ⟨p, vs, rfl, V.new σ H1 p _ (V.steady _ _ _ s1 q.1) np, litAll_same (V.same σ _ _ (same_new np)) _ _ l1⟩)⟩⟩
theorem l_tup (V : View vw Pre) {es : List Expr} {ds : L2.St → List PyData} {k} (h : PA X es (tLits vw Pre ds)) (few : ∀ σ, (ds σ).length ≤ 1000 := by intro _; exact Nat.le_of_ble_eq_true rfl) : PE X (.Tuple es k pos) (tLit vw Pre fun σ => .tuple (ds σ)) := pe_mono (pe_tup h) fun σ H Q q => ⟨q.1, fun vs H1 s1 l1 => ⟨by
    rw [litAll_len l1]
    exact Nat.le_trans (few σ) (by decide), fun p np => q.2 _ _ (s1.trans (same_new np)) (by
    simp only [Lit]
    exact ⟨p, vs, rfl, V.new σ H1 p _ (V.steady _ _ _ s1 q.1) np, litAll_same (V.same σ _ _ (same_new np)) _ _ l1⟩)⟩⟩
end
end DQ

set_option Elab.async false
set_option linter.all false
set_option maxRecDepth 100000
set_option maxHeartbeats 1000000
namespace DQ
open PySem PySem.Spec PyProof.Rows L2
/-! ### a display whose parts are constants and names: one promise for the whole -/
inductive VD where
  | v (x : V)
  | l (ds : List VD)
  | t (ds : List VD)
mutual
def VLit (H : Hp) : VD → V → Prop
  | .v x, y => y = x
  | .l ds, y => ∃ (a : Addr) (xs : List V), y = .ref a ∧ H a = some (.lst xs) ∧ VLitAll H ds xs
  | .t ds, y => ∃ (a : Addr) (xs : List V), y = .ref a ∧ H a = some (.tup xs) ∧ VLitAll H ds xs
def VLitAll (H : Hp) : List VD → List V → Prop
  | [], xs => xs = []
  | d :: ds, xs => ∃ (v : V) (vs : List V), xs = v :: vs ∧ VLit H d v ∧ VLitAll H ds vs
end
mutual
theorem vlit_same {H H' : Hp} (e : Same H H') : ∀ (d : VD) (v : V), VLit H d v → VLit H' d v
  | .v x, _, h => by simpa only [VLit] using h
  | .l ds, _, h => by
    simp only [VLit] at h ⊢
    obtain ⟨a, xs, r, ha, hx⟩ := h
    exact ⟨a, xs, r, e _ _ ha, vlitAll_same e ds _ hx⟩
  | .t ds, _, h => by
    simp only [VLit] at h ⊢
    obtain ⟨a, xs, r, ha, hx⟩ := h
    exact ⟨a, xs, r, e _ _ ha, vlitAll_same e ds _ hx⟩
theorem vlitAll_same {H H' : Hp} (e : Same H H') : ∀ (ds : List VD) (vs : List V), VLitAll H ds vs → VLitAll H' ds vs
  | [], _, h => by simpa only [VLitAll] using h
  | d :: ds, _, h => by
    simp only [VLitAll] at h ⊢
    obtain ⟨v, vs, r, h1, h2⟩ := h
    exact ⟨v, vs, r, vlit_same e d _ h1, vlitAll_same e ds _ h2⟩
end
theorem vlitAll_len {H : Hp} : ∀ {ds : List VD} {vs : List V}, VLitAll H ds vs → vs.length = ds.length
  | [], _, h => by
    simp only [VLitAll] at h
    rw [h]
    rfl
  | d :: ds, _, h => by
    simp only [VLitAll] at h
    obtain ⟨v, vs, r, h1, h2⟩ := h
    rw [r, List.length_cons, List.length_cons, vlitAll_len h2]
/-- what a slot holds -/
def slotV (i : Nat) (σ : L2.St) : V := match σ[i]? with
  | some (some v) => v
  | _ => .non
def SlotsIn (is : List Nat) (σ : L2.St) : Prop := ∀ i ∈ is, ∃ v, σ[i]? = some (some v)
def tV (is : List Nat) (d : L2.St → VD) : TE := fun σ H Q => SlotsIn is σ ∧ ∀ v H', Same H H' → VLit H' (d σ) v → Q v H'
def tVs (is : List Nat) (ds : L2.St → List VD) : TA := fun σ H Q => SlotsIn is σ ∧ ∀ vs H', Same H H' → VLitAll H' (ds σ) vs → Q vs H'
section
variable {X : Cx} {is : List Nat} {pos : Pos}
theorem v_int {i : Int} {j} : PE X (.Constant (.int i) j pos) (tV is fun _ => .v (.int i)) := pe_mono pe_int fun σ H Q h => h.2 _ H (L2.Same.refl H) (by simp only [VLit])
theorem v_bl {b : Bool} {j} : PE X (.Constant (.bool b) j pos) (tV is fun _ => .v (.bl b)) := pe_mono pe_bl fun σ H Q h => h.2 _ H (L2.Same.refl H) (by simp only [VLit])
theorem v_non {j} : PE X (.Constant .none j pos) (tV is fun _ => .v .non) := pe_mono pe_non fun σ H Q h => h.2 _ H (L2.Same.refl H) (by simp only [VLit])
theorem v_str {x : Str} {j} : PE X (.Constant (.str x) j pos) (tV is fun _ => .v (.str x)) := pe_mono pe_str fun σ H Q h => h.2 _ H (L2.Same.refl H) (by simp only [VLit])
theorem v_neg {i : Int} {j pos'} : PE X (.UnaryOp .USub (.Constant (.int i) j pos') pos) (tV is fun _ => .v (.int (-i))) := pe_mono (pe_un un_neg pe_int) fun σ H Q h => ⟨i, rfl, h.2 _ H (L2.Same.refl H) (by simp only [VLit])⟩
theorem v_var {x : Str} {i : Nat} (h : PE X (.Name x pos) (tVar i)) (m : i ∈ is) : PE X (.Name x pos) (tV is fun σ => .v (slotV i σ)) := pe_mono h fun σ H Q q => by
  obtain ⟨k, e⟩ := q.1 i m
  refine ⟨_, e, q.2 _ H (L2.Same.refl H) ?_⟩
  simp only [VLit, slotV]
  rw [e]
theorem v_nil : PA X [] (tVs is fun _ => []) := pa_mono pa_nil fun σ H Q h => h.2 _ H (L2.Same.refl H) (by simp only [VLitAll])
theorem v_cons {e : Expr} {es : List Expr} {d : L2.St → VD} {ds : L2.St → List VD} (he : PE X e (tV is d)) (hr : PA X es (tVs is ds)) (hs : starEach (e :: es) X.env = (false, eval e X.env) :: starEach es X.env := by rfl) : PA X (e :: es) (tVs is fun σ => d σ :: ds σ) :=
  pa_mono (pa_cons he hr hs) fun σ H Q h => ⟨h.1, fun v H1 s1 l1 => ⟨h.1, fun vs H2 s2 l2 => h.2 _ H2 (s1.trans s2) (by
    simp only [VLitAll]
    exact ⟨v, vs, rfl, vlit_same s2 _ _ l1, l2⟩)⟩⟩
theorem v_lst {es : List Expr} {ds : L2.St → List VD} (h : PA X es (tVs is ds)) (few : ∀ σ, (ds σ).length ≤ 1000 := by intro _; exact Nat.le_of_ble_eq_true rfl) : PE X (.List es pos) (tV is fun σ => .l (ds σ)) := pe_mono (pe_lst h) fun σ H Q q => ⟨q.1, fun vs H1 s1 l1 => ⟨by
    rw [vlitAll_len l1]
    exact Nat.le_trans (few σ) (by decide), fun p np => q.2 _ _ (s1.trans (same_new np)) (by
    simp only [VLit]
    exact ⟨p, vs, rfl, upd_same, vlitAll_same (same_new np) _ _ l1⟩)⟩⟩
theorem v_tup {es : List Expr} {ds : L2.St → List VD} {k} (h : PA X es (tVs is ds)) (few : ∀ σ, (ds σ).length ≤ 1000 := by intro _; exact Nat.le_of_ble_eq_true rfl) : PE X (.Tuple es k pos) (tV is fun σ => .t (ds σ)) := pe_mono (pe_tup h) fun σ H Q q => ⟨q.1, fun vs H1 s1 l1 => ⟨by
    rw [vlitAll_len l1]
    exact Nat.le_trans (few σ) (by decide), fun p np => q.2 _ _ (s1.trans (same_new np)) (by
    simp only [VLit]
    exact ⟨p, vs, rfl, upd_same, vlitAll_same (same_new np) _ _ l1⟩)⟩⟩
end
end DQ

set_option Elab.async false
set_option linter.all false
set_option maxRecDepth 100000
set_option maxHeartbeats 1000000
namespace DQ
open PySem PySem.Spec PyProof.Rows L2
/-! ### small data, dicts among it: what repr wants -/
structure SmZ (k n : Nat) (d : PyData) : Prop where
  dep : d.depth ≤ k
  wt : d.weight ≤ n
  sh : d.showable = true
  short : d.leavesShort 13 = true
theorem Sm.z {k n : Nat} {d : PyData} (h : Sm k n d) : SmZ k n d := ⟨h.dep, h.wt, h.sh, PyData.leavesShort_of_canLay0 13 d h.lay h.short⟩
theorem SmZ.mono {k n k' n' : Nat} {d : PyData} (h : SmZ k n d) (hk : k ≤ k') (hn : n ≤ n') : SmZ k' n' d := ⟨Nat.le_trans h.dep hk, Nat.le_trans h.wt hn, h.sh, h.short⟩
theorem SmZ.shows {k n : Nat} {d : PyData} (h : SmZ k n d) (hk : k ≤ 64) (hn : n ≤ 1048576) : ShowsZ d :=
  ⟨h.sh, Nat.le_trans h.dep hk, PyData.shown_fits (B := 13) (by decide) (by decide) h.short (Nat.le_trans h.wt (by simpa using hn))⟩
theorem smz_dct : SmZ 1 1 (.dict []) := ⟨by decide, by decide, rfl, rfl⟩
structure SmZL (k n : Nat) (ds : List PyData) : Prop where
  dep : PyData.depthAll ds ≤ k
  wt : PyData.weightAll ds ≤ n
  sh : PyData.showableAll ds = true
  short : PyData.leavesShortAll 13 ds = true
theorem smzl_nil {k : Nat} : SmZL k 0 [] := ⟨Nat.zero_le _, Nat.le_refl _, rfl, rfl⟩
theorem SmZ.cons {k j a b : Nat} {d : PyData} {ds : List PyData} (x : SmZ j a d) (r : SmZL k b ds) (hj : j ≤ k) : SmZL k (a + 1 + b) (d :: ds) := by
  refine ⟨?_, ?_, ?_, ?_⟩
  · simp only [PyData.depthAll]
    exact Nat.max_le.mpr ⟨Nat.le_trans x.dep hj, r.dep⟩
  · simp only [PyData.weightAll]
    have := x.wt
    have := r.wt
    omega
  · simp only [PyData.showableAll]
    rw [x.sh, r.sh]
    rfl
  · simp only [PyData.leavesShortAll]
    rw [x.short, r.short]
    rfl
theorem SmZL.list {k n : Nat} {ds : List PyData} (h : SmZL k n ds) : SmZ (k + 1) n (.list ds) := by
  refine ⟨?_, by simpa only [PyData.weight] using h.wt, by simpa only [PyData.showable] using h.sh, by simpa only [PyData.leavesShort] using h.short⟩
  simp only [PyData.depth]
  have := h.dep
  omega
theorem SmZL.tuple {k n : Nat} {ds : List PyData} (h : SmZL k n ds) : SmZ (k + 1) n (.tuple ds) := by
  refine ⟨?_, by simpa only [PyData.weight] using h.wt, by simpa only [PyData.showable] using h.sh, by simpa only [PyData.leavesShort] using h.short⟩
  simp only [PyData.depth]
  have := h.dep
  omega
theorem smz_pair {n m : Nat} {d e : PyData} (h : SmZ 60 n d) (h' : SmZ 60 m e) (hn : n + m ≤ 1000000) : ShowsZ (.list [d, e]) := ((h.cons (h'.cons smzl_nil (Nat.le_refl _)) (Nat.le_refl _)).list).shows (by decide) (by omega)
/-- data whose numbers are small, by a look -/
def tinyB (d : PyData) : Bool := decide (d.depth ≤ 60) && (decide (d.weight ≤ 1000) && (d.showable && d.leavesShort 13))
theorem tiny {d : PyData} (h : tinyB d = true) : SmZ 60 1000 d := by
  unfold tinyB at h
  simp only [Bool.and_eq_true, decide_eq_true_eq] at h
  exact ⟨h.1, h.2.1, h.2.2.1, h.2.2.2⟩
end DQ

set_option Elab.async false
set_option linter.all false
set_option maxRecDepth 100000
set_option maxHeartbeats 1000000
namespace DQ
open PySem PySem.Spec PyProof.Rows L2
/-! ### a display whose parts are constants and names: one promise for the whole -/
inductive WD where
  | v (x : V)
  | l (ds : List WD)
  | t (ds : List WD)
  | emp
mutual
def WLit (H : Hp) : WD → V → Prop
  | .v x, y => y = x
  | .l ds, y => ∃ (a : Addr) (xs : List V), y = .ref a ∧ H a = some (.lst xs) ∧ WLitAll H ds xs
  | .t ds, y => ∃ (a : Addr) (xs : List V), y = .ref a ∧ H a = some (.tup xs) ∧ WLitAll H ds xs
  | .emp, y => ∃ a : Addr, y = .ref a ∧ H a = some (.dK [])
def WLitAll (H : Hp) : List WD → List V → Prop
  | [], xs => xs = []
  | d :: ds, xs => ∃ (v : V) (vs : List V), xs = v :: vs ∧ WLit H d v ∧ WLitAll H ds vs
end
mutual
theorem wlit_same {H H' : Hp} (e : Same H H') : ∀ (d : WD) (v : V), WLit H d v → WLit H' d v
  | .v x, _, h => by simpa only [WLit] using h
  | .l ds, _, h => by
    simp only [WLit] at h ⊢
    obtain ⟨a, xs, r, ha, hx⟩ := h
    exact ⟨a, xs, r, e _ _ ha, wlitAll_same e ds _ hx⟩
  | .t ds, _, h => by
    simp only [WLit] at h ⊢
    obtain ⟨a, xs, r, ha, hx⟩ := h
    exact ⟨a, xs, r, e _ _ ha, wlitAll_same e ds _ hx⟩
  | .emp, _, h => by
    simp only [WLit] at h ⊢
    obtain ⟨a, r, ha⟩ := h
    exact ⟨a, r, e _ _ ha⟩
theorem wlitAll_same {H H' : Hp} (e : Same H H') : ∀ (ds : List WD) (vs : List V), WLitAll H ds vs → WLitAll H' ds vs
  | [], _, h => by simpa only [WLitAll] using h
  | d :: ds, _, h => by
    simp only [WLitAll] at h ⊢
    obtain ⟨v, vs, r, h1, h2⟩ := h
    exact ⟨v, vs, r, wlit_same e d _ h1, wlitAll_same e ds _ h2⟩
end
theorem wlitAll_len {H : Hp} : ∀ {ds : List WD} {vs : List V}, WLitAll H ds vs → vs.length = ds.length
  | [], _, h => by
    simp only [WLitAll] at h
    rw [h]
    rfl
  | d :: ds, _, h => by
    simp only [WLitAll] at h
    obtain ⟨v, vs, r, h1, h2⟩ := h
    rw [r, List.length_cons, List.length_cons, wlitAll_len h2]
def tW (is : List Nat) (d : L2.St → WD) : TE := fun σ H Q => SlotsIn is σ ∧ ∀ v H', Same H H' → WLit H' (d σ) v → Q v H'
def tWs (is : List Nat) (ds : L2.St → List WD) : TA := fun σ H Q => SlotsIn is σ ∧ ∀ vs H', Same H H' → WLitAll H' (ds σ) vs → Q vs H'
section
variable {X : Cx} {is : List Nat} {pos : Pos}
theorem w_int {i : Int} {j} : PE X (.Constant (.int i) j pos) (tW is fun _ => .v (.int i)) := pe_mono pe_int fun σ H Q h => h.2 _ H (L2.Same.refl H) (by simp only [WLit])
theorem w_bl {b : Bool} {j} : PE X (.Constant (.bool b) j pos) (tW is fun _ => .v (.bl b)) := pe_mono pe_bl fun σ H Q h => h.2 _ H (L2.Same.refl H) (by simp only [WLit])
theorem w_non {j} : PE X (.Constant .none j pos) (tW is fun _ => .v .non) := pe_mono pe_non fun σ H Q h => h.2 _ H (L2.Same.refl H) (by simp only [WLit])
theorem w_str {x : Str} {j} : PE X (.Constant (.str x) j pos) (tW is fun _ => .v (.str x)) := pe_mono pe_str fun σ H Q h => h.2 _ H (L2.Same.refl H) (by simp only [WLit])
theorem w_neg {i : Int} {j pos'} : PE X (.UnaryOp .USub (.Constant (.int i) j pos') pos) (tW is fun _ => .v (.int (-i))) := pe_mono (pe_un un_neg pe_int) fun σ H Q h => ⟨i, rfl, h.2 _ H (L2.Same.refl H) (by simp only [WLit])⟩
theorem w_var {x : Str} {i : Nat} (h : PE X (.Name x pos) (tVar i)) (m : i ∈ is) : PE X (.Name x pos) (tW is fun σ => .v (slotV i σ)) := pe_mono h fun σ H Q q => by
  obtain ⟨k, e⟩ := q.1 i m
  refine ⟨_, e, q.2 _ H (L2.Same.refl H) ?_⟩
  simp only [WLit, slotV]
  rw [e]
theorem w_nil : PA X [] (tWs is fun _ => []) := pa_mono pa_nil fun σ H Q h => h.2 _ H (L2.Same.refl H) (by simp only [WLitAll])
theorem w_cons {e : Expr} {es : List Expr} {d : L2.St → WD} {ds : L2.St → List WD} (he : PE X e (tW is d)) (hr : PA X es (tWs is ds)) (hs : starEach (e :: es) X.env = (false, eval e X.env) :: starEach es X.env := by rfl) : PA X (e :: es) (tWs is fun σ => d σ :: ds σ) :=
  pa_mono (pa_cons he hr hs) fun σ H Q h => ⟨h.1, fun v H1 s1 l1 => ⟨h.1, fun vs H2 s2 l2 => h.2 _ H2 (s1.trans s2) (by
    simp only [WLitAll]
    exact ⟨v, vs, rfl, wlit_same s2 _ _ l1, l2⟩)⟩⟩
theorem w_lst {es : List Expr} {ds : L2.St → List WD} (h : PA X es (tWs is ds)) (few : ∀ σ, (ds σ).length ≤ 1000 := by intro _; exact Nat.le_of_ble_eq_true rfl) : PE X (.List es pos) (tW is fun σ => .l (ds σ)) := pe_mono (pe_lst h) fun σ H Q q => ⟨q.1, fun vs H1 s1 l1 => ⟨by
    rw [wlitAll_len l1]
    exact Nat.le_trans (few σ) (by decide), fun p np => q.2 _ _ (s1.trans (same_new np)) (by
    simp only [WLit]
    exact ⟨p, vs, rfl, upd_same, wlitAll_same (same_new np) _ _ l1⟩)⟩⟩
theorem w_tup {es : List Expr} {ds : L2.St → List WD} {k} (h : PA X es (tWs is ds)) (few : ∀ σ, (ds σ).length ≤ 1000 := by intro _; exact Nat.le_of_ble_eq_true rfl) : PE X (.Tuple es k pos) (tW is fun σ => .t (ds σ)) := pe_mono (pe_tup h) fun σ H Q q => ⟨q.1, fun vs H1 s1 l1 => ⟨by
    rw [wlitAll_len l1]
    exact Nat.le_trans (few σ) (by decide), fun p np => q.2 _ _ (s1.trans (same_new np)) (by
    simp only [WLit]
    exact ⟨p, vs, rfl, upd_same, wlitAll_same (same_new np) _ _ l1⟩)⟩⟩
theorem w_dct : PE X (.Dict [] [] pos) (tW is fun _ => .emp) := pe_mono pe_dnewK fun σ H Q h p np => h.2 _ _ (same_new np) (by
  simp only [WLit]
  exact ⟨p, rfl, upd_same⟩)
theorem wlitAll_app {H : Hp} : ∀ {ds es : List WD} {xs ys : List V}, WLitAll H ds xs → WLitAll H es ys → WLitAll H (ds ++ es) (xs ++ ys)
  | [], _, _, _, h, k => by
    simp only [WLitAll] at h
    rw [h]
    exact k
  | d :: ds, _, _, _, h, k => by
    simp only [WLitAll] at h
    obtain ⟨v, vs, rfl, h1, h2⟩ := h
    simp only [List.cons_append, WLitAll]
    exact ⟨v, _, rfl, h1, wlitAll_app h2 k⟩
theorem wlitAll_rep {H : Hp} {ds : List WD} {xs : List V} (h : WLitAll H ds xs) : ∀ n : Nat, WLitAll H (List.replicate n ds).flatten (List.replicate n xs).flatten
  | 0 => by
    show WLitAll H [] []
    simp only [WLitAll]
  | n + 1 => by
    rw [List.replicate_succ, List.replicate_succ, List.flatten_cons, List.flatten_cons]
    exact wlitAll_app h (wlitAll_rep h n)
theorem w_rep {e : Expr} {ds : L2.St → List WD} {p2 : Pos} {j} (h : PE X e (tW is fun σ => .t (ds σ))) (one : ∀ σ, (ds σ).length = 1) : PE X (.BinOp e .Mult (.Constant (.int 5) j p2) pos) (tW is fun σ => .t (List.replicate 5 (ds σ)).flatten) := pe_mono (pe_op op_repT h pe_int) fun σ H Q q => ⟨q.1, fun v H1 s1 l1 => by
  simp only [WLit] at l1
  obtain ⟨a, xs, rfl, ha, lx⟩ := l1
  have ln := wlitAll_len lx
  have l1 := one σ
  refine ⟨a, 5, xs, rfl, rfl, .inl (.inl ha), fun e => by rw [e] at ln; simp at ln; omega, by decide, by decide, by omega, fun p np => q.2 _ _ (s1.trans (same_new np)) ?_⟩
  simp only [WLit]
  exact ⟨p, _, rfl, upd_same, wlitAll_rep (wlitAll_same (same_new np) _ _ lx) 5⟩⟩
end
/-! as data -/
def leafD : V → PyData
  | .int i => .int i
  | .bl b => .bool b
  | .str x => .str x
  | _ => .none
def leafB : V → Bool
  | .int _ => true
  | .bl _ => true
  | .str _ => true
  | .non => true
  | _ => false
mutual
def WD.data : WD → PyData
  | .v x => leafD x
  | .l ds => .list (WD.datas ds)
  | .t ds => .tuple (WD.datas ds)
  | .emp => .dict []
def WD.datas : List WD → List PyData
  | [] => []
  | d :: ds => d.data :: WD.datas ds
end
mutual
def WD.leaf : WD → Bool
  | .v x => leafB x
  | .l ds => WD.leafs ds
  | .t ds => WD.leafs ds
  | .emp => true
def WD.leafs : List WD → Bool
  | [] => true
  | d :: ds => d.leaf && WD.leafs ds
end
mutual
theorem wlit_dp {K : PySem.W.Frag} {H : Hp} : ∀ (d : WD) (v : V), WLit H d v → d.leaf = true → Dp K H v d.data
  | .v x, y, h, l => by
    simp only [WLit] at h
    simp only [WD.leaf] at l
    rw [h]
    simp only [WD.data]
    cases x with
    | int i => exact .int i
    | bl b => exact .bl b
    | str z => exact .str z
    | non => exact .non
    | _ => cases l
  | .l ds, y, h, l => by
    simp only [WLit] at h
    simp only [WD.leaf] at l
    obtain ⟨a, xs, rfl, ha, hx⟩ := h
    simp only [WD.data]
    exact .lst (SqL.of ha) (wlitAll_dp ds xs hx l)
  | .t ds, y, h, l => by
    simp only [WLit] at h
    simp only [WD.leaf] at l
    obtain ⟨a, xs, rfl, ha, hx⟩ := h
    simp only [WD.data]
    exact .tup (.inl (.inl ha)) (wlitAll_dp ds xs hx l)
  | .emp, y, h, _ => by
    simp only [WLit] at h
    obtain ⟨a, rfl, ha⟩ := h
    simp only [WD.data]
    exact .dct ha
theorem wlitAll_dp {K : PySem.W.Frag} {H : Hp} : ∀ (ds : List WD) (vs : List V), WLitAll H ds vs → WD.leafs ds = true → DpAll K H vs (WD.datas ds)
  | [], _, h, _ => by
    simp only [WLitAll] at h
    rw [h]
    simp only [WD.datas]
    exact .nil
  | d :: ds, _, h, l => by
    simp only [WLitAll] at h
    simp only [WD.leafs, Bool.and_eq_true] at l
    obtain ⟨v, vs, rfl, h1, h2⟩ := h
    simp only [WD.datas]
    exact .cons (wlit_dp d v h1 l.1) (wlitAll_dp ds vs h2 l.2)
end
end DQ

set_option Elab.async false
set_option linter.all false
set_option maxRecDepth 100000
set_option maxHeartbeats 4000000
namespace DQ
open PySem PySem.Spec PyProof.Rows L2
abbrev sWrong : Stmt := topS 63
abbrev NWr : List Str := ["store", "item", "far", "found"]
theorem scWrong : FnScope NWr ["store"] (defScope sWrong) := ⟨rfl, rfl, rfl, by decide +kernel, rfl, by decide +kernel, by decide +kernel⟩
/-- the rows that are none -/
def wrongs (i f : V) : List WD := [.v .non, .v (.int 0), .v i, .l [], .l [.v i], .emp, .v (.bl true), .v (.str "0"), .t [.v f], .t [.v i, .v f], .t [.v i, .v i, .v i, .v i, .v i], .t [.v (.bl true)], .t [.v .non], .t [.v (.str "0")], .t [.l [.v i]], .t [.v (.int (-1))], .t [.v i, .t [.v i]]]
theorem wrongs_no {ns : List Int} {i f : Int} (hf : f ∉ ns) : ∀ d ∈ WD.datas (wrongs (.int i) (.int f)) ++ [.tuple [.int i, .int i, .bool false]], rowD ns d = false := by
  have of : okItem ns (.int f) = false := by
    show (numD (.int f) && decide (f ∈ ns)) = false
    rw [decide_eq_false hf, Bool.and_false]
  intro d hd
  simp only [wrongs, WD.datas, WD.data, leafD, List.cons_append, List.nil_append, List.mem_cons, List.not_mem_nil, or_false] at hd
  rcases hd with rfl | rfl | rfl | rfl | rfl | rfl | rfl | rfl | rfl | rfl | rfl | rfl | rfl | rfl | rfl | rfl | rfl | rfl
  all_goals first
    | rfl
    | (simp [rowD, of]; done)
    | (simp [rowD]; intro _; rfl)
section
variable {P : Program} {w : World} {K : PySem.W.Frag} {mg : Str → Option Value} {base : Heap}
def spWrong (K : PySem.W.Frag) : Sp := fun vs H Q _ => ∃ (v : V) (S : Store) (i l : Int), vs = [v] ∧ StoAt H v S ∧ S.items[0]? = some i ∧ atI (S.items.map V.int) (-1) = some (.int l) ∧ 0 ≤ i ∧ i ≤ 1000000000 ∧ 0 ≤ l ∧ l ≤ 1000000000 ∧
  ∀ (p : Addr) (rs : List V) (H' : Hp), Same H H' → H' p = some (.lst rs) → DpAll K H' rs (WD.datas (wrongs (.int i) (.int (l + 1))) ++ [.tuple [.int i, .int i, .bool false]]) → Q (.ref p) H'
theorem ok_wrong {f : Addr} {fd : FuncData} (F : Fun K "_law_wrong_rows" "_law_wrong_rows" sWrong f fd) : FnOk P w K mg base CX0 1 f fd ["store"] (spWrong K) := by
  refine F.ok scWrong (fun vs H Q E h => ?_) (fun cdv A outer s H vs Q E hr h => ?_)
  · obtain ⟨_, _, _, _, rfl, _⟩ := h
    rfl
  obtain ⟨v, S, i, l, rfl, A0, hi, hl, i0, i1, l0, l1, q⟩ := h
  have nd := scWrong.nd
  refine ⟨_, pss_cons (ps_par (i := 1) (j := 2) rfl nd rfl rfl (by decide) rfl rfl (pa_cons (pe_ix (r := rIxL K) ix_list (pe_ix (r := rIxT K) ix_tup (pv 0) pe_int (fun _ _ => rfl)) pe_int (fun _ _ => rfl)) (pa_cons (pe_op op_add (pe_ix (r := rIxL K) ix_list (pe_ix (r := rIxT K) ix_tup (pv 0) pe_int (fun _ _ => rfl)) (pe_un un_neg pe_int) (fun _ _ => rfl)) pe_int) pa_nil)) (by rfl))
    (pss_cons (ps_set (i := 3) nd rfl (.inl rfl) (w_lst (is := [1, 2]) (w_cons w_non (w_cons w_int (w_cons (w_var (pv 1) (by decide)) (w_cons (w_lst w_nil) (w_cons (w_lst (w_cons (w_var (pv 1) (by decide)) w_nil)) (w_cons w_dct (w_cons w_bl (w_cons w_str
      (w_cons (w_tup (w_cons (w_var (pv 2) (by decide)) w_nil)) (w_cons (w_tup (w_cons (w_var (pv 1) (by decide)) (w_cons (w_var (pv 2) (by decide)) w_nil))) (w_cons (w_rep (w_tup (w_cons (w_var (pv 1) (by decide)) w_nil)) (fun _ => rfl))
      (w_cons (w_tup (w_cons w_bl w_nil)) (w_cons (w_tup (w_cons w_non w_nil)) (w_cons (w_tup (w_cons w_str w_nil)) (w_cons (w_tup (w_cons (w_lst (w_cons (w_var (pv 1) (by decide)) w_nil)) w_nil)) (w_cons (w_tup (w_cons w_neg w_nil)) (w_cons (w_tup (w_cons (w_var (pv 1) (by decide)) (w_cons (w_tup (w_cons (w_var (pv 1) (by decide)) w_nil)) w_nil))) w_nil)))))))))))))))))))
    (pss_one (ps_ret (pe_op op_cat (pv 3) (pe_lst (pa_cons (pe_tup (pa_cons (pv 1) (pa_cons (pv 1) (pa_cons pe_bl pa_nil)))) pa_nil)))))), ?_⟩
  obtain ⟨t, ma, ca, ia, fa, rs, rfl, ht, hma, hca, hia, hfa, tp⟩ := A0
  have hi' : (S.items.map V.int)[0]? = some (.int i) := by rw [List.getElem?_map, hi]; rfl
  refine ⟨_, rfl, t, _, 3, .ref ia, rfl, rfl, .inl (.inl ht), atI_nat (j := 3) rfl, ia, _, 0, _, rfl, rfl, SqL.of hia, atI_nat (j := 0) hi', ?_⟩
  refine ⟨_, rfl, t, _, 3, .ref ia, rfl, rfl, .inl (.inl ht), atI_nat (j := 3) rfl, _, rfl, ia, _, _, _, rfl, rfl, SqL.of hia, hl, _, _, rfl, rfl, ⟨_, _, rfl, ?_⟩⟩
  refine ⟨fun j hj => ?_, fun x H1 s1 lit => ?_⟩
  · simp only [List.mem_cons, List.not_mem_nil, or_false] at hj
    rcases hj with rfl | rfl <;> exact ⟨_, rfl⟩
  simp only [WLit] at lit
  obtain ⟨a, xs, rfl, ha, lx⟩ := lit
  have dx : DpAll K H1 xs (WD.datas (wrongs (.int i) (.int (l + 1)))) := wlitAll_dp (wrongs (.int i) (.int (l + 1))) xs lx rfl
  have ln := wlitAll_len (show WLitAll H1 (wrongs (.int i) (.int (l + 1))) xs from lx)
  have ln : xs.length = 17 := ln
  refine ⟨_, rfl, _, rfl, _, rfl, by show 3 ≤ sizeLine; decide, fun p1 n1 => ?_⟩
  have g1 := same_new n1 (o := .tup [.int i, .int i, .bl false])
  have f1 : L2.upd H1 p1 (.tup [.int i, .int i, .bl false]) p1 = some (.tup [.int i, .int i, .bl false]) := upd_same
  generalize L2.upd H1 p1 (.tup [.int i, .int i, .bl false]) = H2 at g1 f1 ⊢
  refine nil_read ⟨by show 1 ≤ sizeLine; decide, fun p2 n2 => ?_⟩
  have g2 := same_new n2 (o := .lst [V.ref p1])
  refine ⟨a, p2, xs, [.ref p1], rfl, rfl, g2 _ _ (g1 _ _ ha), upd_same, Nat.le_trans (show xs.length + 1 ≤ 20 by omega) (by decide), fun p3 n3 => ?_⟩
  have g3 := same_new n3 (o := .lst (xs ++ [V.ref p1]))
  have g := (g1.trans g2).trans g3
  exact q p3 _ _ (s1.trans g) upd_same (dpAll_app (dpAll_same g _ _ dx) (.cons (.tup (.inl (.inl ((g2.trans g3) _ _ f1))) (.cons (.int i) (.cons (.int i) (.cons (.bl false) .nil)))) .nil))
end
end DQ

set_option Elab.async false
set_option linter.all false
set_option maxRecDepth 100000
set_option maxHeartbeats 1000000
namespace DQ
open PySem PySem.Spec PyProof.Rows L2
/-! ### values that are none of the kind: written down, judged no store -/
/-- at v stands what is no store -/
def NoSto (K : PySem.W.Frag) (H : Hp) (v : V) : Prop := ∀ (H' : Hp) (Q : VK) (E : XK), Same H H' → (∀ H'', Same H' H'' → Q (.bl false) H'') → spIsStore K [v] H' Q E
theorem NoSto.same {K : PySem.W.Frag} {H H1 : Hp} {v : V} (h : NoSto K H v) (s : Same H H1) : NoSto K H1 v := fun H' Q E s' q => h H' Q E (s.trans s') q
theorem noSto_of {K : PySem.W.Frag} {H : Hp} {v : V} {d : PyData} (hd : Dp K H v d) (n5 : ∀ ds, d = .tuple ds → ds.length ≠ 5) : NoSto K H v := fun H' Q E s q => ⟨v, rfl, .inl ⟨d, dp_same s _ _ hd, n5, q⟩⟩
theorem litAll_tups {H : Hp} : ∀ {fs : List Fact} {vs : List V}, LitAll H (fs.map Fact.d) vs → Tups H vs (fs.map Fact.v)
  | [], _, h => by
    simp only [List.map_nil, LitAll] at h
    rw [h]
    exact .nil
  | f :: fs, _, h => by
    simp only [List.map_cons, LitAll] at h
    obtain ⟨v, vs, r, h1, h2⟩ := h
    rw [r]
    refine .cons ?_ (litAll_tups h2)
    cases f with
    | mark m i =>
      simp only [Fact.d, Lit, LitAll] at h1
      obtain ⟨a, xs, e, ha, _, _, rfl, rfl, _, _, rfl, rfl, _, _, rfl, rfl, rfl⟩ := h1
      exact ⟨a, e, ha⟩
    | link c p q =>
      simp only [Fact.d, Lit, LitAll] at h1
      obtain ⟨a, xs, e, ha, _, _, rfl, rfl, _, _, rfl, rfl, _, _, rfl, rfl, _, _, rfl, rfl, rfl⟩ := h1
      exact ⟨a, e, ha⟩
/-- what is_store asks of a value in the place of the facts -/
def okFacts : PyData → Bool
  | .list l => decide (l.length ≤ 1000) && l.all fun e => match e with
    | .tuple ds => (ds.take 2).all SeqAt.shaped
    | _ => true
  | _ => true
def okWords : PyData → Bool
  | .list l => decide (l.length ≤ 1000) && l.all fun e => e.canLay0 && match e with
    | .str x => decide (x.length ≤ 1000)
    | _ => true
  | _ => true
def okItems : PyData → Bool
  | .list l => decide (l.length ≤ 5000) && l.all fun e => match e with
    | .str x => decide (x.length ≤ 1000)
    | _ => true
  | _ => true
theorem fits_words {d : PyData} (h : okWords d = true) : Fits d ∧ Lays d := by
  refine ⟨fun ds e => ?_, fun ds e z hz => ?_⟩
  · subst e
    have h : (decide (ds.length ≤ 1000) && ds.all fun e => e.canLay0 && match e with
      | .str x => decide (x.length ≤ 1000)
      | _ => true) = true := h
    rw [Bool.and_eq_true] at h
    refine ⟨Nat.le_trans (of_decide_eq_true h.1) (by decide), fun e he x ex => ?_⟩
    have z := List.all_eq_true.mp h.2 e he
    rw [ex] at z
    rw [Bool.and_eq_true] at z
    exact of_decide_eq_true z.2
  · subst e
    have h : (decide (ds.length ≤ 1000) && ds.all fun e => e.canLay0 && match e with
      | .str x => decide (x.length ≤ 1000)
      | _ => true) = true := h
    rw [Bool.and_eq_true] at h
    have q := List.all_eq_true.mp h.2 z hz
    rw [Bool.and_eq_true] at q
    exact q.1
theorem fits_items {d : PyData} (h : okItems d = true) : Fits d := fun ds e => by
  subst e
  have h : (decide (ds.length ≤ 5000) && ds.all fun e => match e with
    | .str x => decide (x.length ≤ 1000)
    | _ => true) = true := h
  rw [Bool.and_eq_true] at h
  refine ⟨Nat.le_trans (of_decide_eq_true h.1) (by decide), fun e he x ex => ?_⟩
  have z := List.all_eq_true.mp h.2 e he
  rw [ex] at z
  exact of_decide_eq_true z
theorem factsAt_lit {K : PySem.W.Frag} {H : Hp} {d : PyData} {v : V} (l : Lit H d v) (h : okFacts d = true) : FactsAt K H v d := by
  cases d with
  | list ds =>
    have l0 := l
    simp only [Lit] at l0
    obtain ⟨a, xs, r, ha, hx⟩ := l0
    have h : (decide (ds.length ≤ 1000) && ds.all fun e => match e with
      | .tuple ds => (ds.take 2).all SeqAt.shaped
      | _ => true) = true := h
    rw [Bool.and_eq_true] at h
    refine .inl ⟨a, xs, ds, r, rfl, SqL.of ha, litAll_dp _ _ hx, Nat.le_trans (of_decide_eq_true h.1) (by decide), fun e he ts et z hz => ?_, fun fs e => ?_⟩
    · have q := List.all_eq_true.mp h.2 e he
      rw [et] at q
      exact List.all_eq_true.mp q z hz
    · rw [e] at hx
      exact litAll_tups hx
  | _ => exact .inr ⟨lit_dp _ _ l, by simp only [isT, tyN]; decide⟩
/-- a tuple of the form of a store -/
theorem noSto_five {K : PySem.W.Frag} {H : Hp} {t : Addr} {z : Str} {m c i f : V} {dm dc di df : PyData} (ht : H t = some (.tup [.str z, m, c, i, f])) (lz : SeqAt.shaped (.str z) = true) (hm : Dp K H m dm) (om : Fits dm ∧ Lays dm) (hc : Dp K H c dc) (oc : Fits dc ∧ Lays dc) (hi : Dp K H i di) (oi : Fits di) (hf : FactsAt K H f df)
    (no : isStoreD (.str z) dm dc di df = false) : NoSto K H (.ref t) := fun H' Q E s q =>
  ⟨_, rfl, .inr ⟨t, .str z, m, c, i, f, .str z, dm, dc, di, df, rfl, .inl (.inl (s _ _ ht)), .str z, lz, dp_same s _ _ hm, om.1, om.2, dp_same s _ _ hc, oc.1, oc.2, dp_same s _ _ hi, oi, factsAt_same s hf, fun H'' s' => by
    rw [no]
    exact q H'' s'⟩⟩
/-- a value that is no store and can be shown -/
def Bent (K : PySem.W.Frag) (H : Hp) (v : V) : Prop := ∃ d, Dp K H v d ∧ ShowsZ d ∧ NoSto K H v
theorem Bent.same {K : PySem.W.Frag} {H H1 : Hp} {v : V} (h : Bent K H v) (s : Same H H1) : Bent K H1 v := by
  obtain ⟨d, hd, sh, no⟩ := h
  exact ⟨d, dp_same s _ _ hd, sh, no.same s⟩
/-- the values found so far, at F; g's place stands apart -/
def Found (K : PySem.W.Frag) (F g : Addr) (n : Nat) (H : Hp) : Prop := H g ≠ none ∧ ∃ rs : List V, H F = some (.lst rs) ∧ rs.length ≤ n ∧ ∀ v ∈ rs, Bent K (del (del H F) g) v
theorem Found.same {K : PySem.W.Frag} {F g : Addr} {n : Nat} {H H' : Hp} (h : Found K F g n H) (s : Same H H') : Found K F g n H' := by
  obtain ⟨hg, rs, e, l, b⟩ := h
  refine ⟨fun z => ?_, rs, s _ _ e, l, fun v hv => (b v hv).same (same_del (same_del s))⟩
  cases q : H g with
  | none => exact hg q
  | some o =>
    rw [s _ _ q] at z
    cases z
theorem del_upd {F : Addr} {H : Hp} {o : HO} : del (upd H F o) F = del H F := funext fun b => by
  by_cases z : b = F
  · rw [z, del_same, del_same]
  · rw [del_ne z, del_ne z, upd_ne z]
theorem Found.put {K : PySem.W.Frag} {F g : Addr} {n m : Nat} {H : Hp} {rs : List V} {v : V} (h : Found K F g n H) (e : H F = some (.lst rs)) (b : Bent K (del (del H F) g) v) (ne : F ≠ g) (hm : n + 1 ≤ m) : Found K F g m (upd H F (.lst (rs ++ [v]))) := by
  obtain ⟨hg, rs', e', l, al⟩ := h
  rw [e] at e'
  cases e'
  refine ⟨by rw [upd_ne (Ne.symm ne)]; exact hg, rs ++ [v], upd_same, ?_, fun x hx => ?_⟩
  · rw [List.length_append, List.length_singleton]
    omega
  · rw [del_upd]
    rcases List.mem_append.mp hx with hx | hx
    · exact al x hx
    · rw [List.mem_singleton.mp hx]
      exact b
section
variable {X : Cx} {vw : L2.St → Hp → Hp} {Pre : L2.St → Hp → Prop} {pos : Pos}
/-- a text times an int -/
def rMulS : R2 := fun x y H Q => ∃ (z : Str) (n : Int), x = .str z ∧ y = .int n ∧ PySem.MulOk z n ∧ Q (.str (PySem.Txt.mul z n)) H
theorem op_mulS : OpR X (binaryOp .Mult) rMulS := by
  intro pins s σ H x y v u Q I rx ry h
  obtain ⟨z, n, rfl, rfl, ok, q⟩ := h
  obtain ⟨t1, rfl⟩ := rx
  obtain ⟨t2, rfl⟩ := ry
  exact PySem.SB.mul ok fun t' k => ⟨.str _, H, I.tok _, ⟨t', rfl⟩, q⟩
theorem l_mulS {z z' : Str} {n : Int} {j1 j2 p1 p2} (ok : PySem.MulOk z n) (e : PySem.Txt.mul z n = z') : PE X (.BinOp (.Constant (.str z) j1 p1) .Mult (.Constant (.int n) j2 p2) pos) (tLit vw Pre fun _ => .str z') := pe_mono (pe_op op_mulS pe_str pe_int) fun σ H Q h => ⟨z, n, rfl, rfl, ok, by
  rw [e]
  exact h.2 _ H (L2.Same.refl H) (by simp only [Lit])⟩
end
end DQ

set_option Elab.async false
set_option linter.all false
set_option maxRecDepth 100000
set_option maxHeartbeats 2000000
namespace DQ
open PySem PySem.Spec PyProof.Rows L2
/-! ### stores that are written down -/
def okB (dm dc di df : PyData) : Bool := okWords dm && (okWords dc && (okItems di && okFacts df))
theorem sto_lit {K : PySem.W.Frag} {H : Hp} {v : V} {dm dc di df : PyData} {b : Bool} (l : Lit H (.tuple [.str "store", dm, dc, di, df]) v) (h : okB dm dc di df = true) (e : isStoreD (.str "store") dm dc di df = b) {Q : VK} {E : XK} (q : ∀ H', Same H H' → Q (.bl b) H') : spIsStore K [v] H Q E := by
  unfold okB at h
  simp only [Bool.and_eq_true] at h
  obtain ⟨h1, h2, h3, h4⟩ := h
  simp only [Lit, LitAll] at l
  obtain ⟨t, _, rfl, ht, _, _, rfl, rfl, vm, _, rfl, lm, vc, _, rfl, lc, vi, _, rfl, li, vf, _, rfl, lf, rfl⟩ := l
  refine ⟨_, rfl, .inr ⟨t, .str "store", vm, vc, vi, vf, .str "store", dm, dc, di, df, rfl, .inl (.inl ht), .str _, by decide +kernel, lit_dp _ _ lm, (fits_words h1).1, (fits_words h1).2, lit_dp _ _ lc, (fits_words h2).1, (fits_words h2).2, lit_dp _ _ li, fits_items h3, factsAt_lit lf h4, fun H' s => ?_⟩⟩
  rw [e]
  exact q H' s
theorem stoG_lit {K : PySem.W.Frag} {H : Hp} {v : V} {dm dc di df : PyData} (l : Lit H (.tuple [.str "store", dm, dc, di, df]) v) (h : okB dm dc di df = true) (e : isStoreD (.str "store") dm dc di df = true) (sh : SeqAt.shaped (.tuple [dm, dc]) = true) : StoG K H v (.tuple [dm, dc]) := by
  refine ⟨fun H' Q E s q => sto_lit (lit_same s _ _ l) h e q, ?_, sh⟩
  simp only [Lit, LitAll] at l
  obtain ⟨t, _, rfl, ht, _, _, rfl, rfl, vm, _, rfl, lm, vc, _, rfl, lc, vi, _, rfl, li, vf, _, rfl, lf, rfl⟩ := l
  exact ⟨t, _, vm, vc, vi, vf, dm, dc, rfl, .inl (.inl ht), lit_dp _ _ lm, lit_dp _ _ lc, rfl⟩
theorem noStoG_lit {K : PySem.W.Frag} {H : Hp} {v : V} {dm dc di df : PyData} (l : Lit H (.tuple [.str "store", dm, dc, di, df]) v) (h : okB dm dc di df = true) (e : isStoreD (.str "store") dm dc di df = false) : NoStoG K H v := fun H' Q E s q => sto_lit (lit_same s _ _ l) h e q
theorem lit_strs {H : Hp} : ∀ {ms : List Str} {vs : List V}, LitAll H (ms.map PyData.str) vs → vs = ms.map V.str
  | [], _, h => by simpa only [List.map_nil, LitAll] using h
  | m :: r, _, h => by
    simp only [List.map_cons, LitAll, Lit] at h
    obtain ⟨_, vs, rfl, rfl, h⟩ := h
    rw [lit_strs h]
    rfl
theorem lit_ints {H : Hp} : ∀ {ms : List Int} {vs : List V}, LitAll H (ms.map PyData.int) vs → vs = ms.map V.int
  | [], _, h => by simpa only [List.map_nil, LitAll] using h
  | m :: r, _, h => by
    simp only [List.map_cons, LitAll, Lit] at h
    obtain ⟨_, vs, rfl, rfl, h⟩ := h
    rw [lit_ints h]
    rfl
/-- a store that is written down stands there -/
theorem stoAt_lit {H : Hp} {v : V} {S : Store} (l : Lit H S.d v) : StoAt H v S := by
  simp only [Store.d, Lit, LitAll] at l
  obtain ⟨t, _, rfl, ht, _, _, rfl, rfl, _, _, rfl, ⟨ma, xm, rfl, hm, lm⟩, _, _, rfl, ⟨ca, xc, rfl, hc, lc⟩, _, _, rfl, ⟨ia, xi, rfl, hi, li⟩, _, _, rfl, ⟨fa, xf, rfl, hf, lf⟩, rfl⟩ := l
  rw [lit_strs lm] at hm
  rw [lit_strs lc] at hc
  rw [lit_ints li] at hi
  exact ⟨t, ma, ca, ia, fa, xf, rfl, ht, hm, hc, hi, hf, litAll_tups lf⟩
end DQ

set_option Elab.async false
set_option linter.all false
set_option maxRecDepth 100000
set_option maxHeartbeats 4000000
namespace DQ
open PySem PySem.Spec PyProof.Rows L2
abbrev sUnlike : Stmt := topS 64
theorem scUnlike : FnScope ["one", "other"] [] (defScope sUnlike) := ⟨rfl, rfl, rfl, by decide +kernel, rfl, by decide +kernel, by decide +kernel⟩
abbrev S0 : Store := ⟨["red", "blue"], ["next", "below"], [1, 2], [.mark "red" 1]⟩
theorem drawnS0 : Drawn 4 S0 := by
  refine ⟨⟨2, by decide, rfl⟩, ⟨2, by decide, by decide, rfl⟩, ⟨by decide, by decide⟩, by decide, by decide, by simp, fun x hx => ?_, fun c => ?_⟩
  · simp only [List.mem_cons, List.not_mem_nil, or_false] at hx
    subst hx
    exact ⟨by simp, by simp⟩
  · exact ⟨List.nodup_nil, List.nodup_nil, fun p hp => nomatch hp⟩
theorem vw0 : View (fun _ H => H) (fun _ _ => True) := view_all fun _ _ _ _ h => h
def oth : List PyData := [.tuple [.str "store", .list [.str "blue", .str "red"], .list [.str "next", .str "below"], .list [.int 1], .list []], .tuple [.str "store", .list [.str "red", .str "blue"], .list [.str "below", .str "next"], .list [.int 1], .list []], .tuple [.str "store", .list [.str "red"], .list [.str "next", .str "below"], .list [.int 1], .list []]]
theorem row0 {K : PySem.W.Frag} {H : Hp} {v : V} {r : Addr} (A : StoAt H v S0) (h : H r = some (.tup [])) : RowOf K H 4 S0 v r [] := ⟨drawnS0, A, ⟨.inl (.inl h), fun n => absurd rfl n⟩, by decide, fun _ h => nomatch h⟩
theorem lit_list {H : Hp} {ds : List PyData} {v : V} (h : Lit H (.list ds) v) : ∃ a xs, v = .ref a ∧ H a = some (.lst xs) ∧ LitAll H ds xs := by
  simp only [Lit] at h
  exact h
theorem oth_sto {K : PySem.W.Frag} {H : Hp} {d : PyData} {x : V} (hd : d ∈ oth) (l : Lit H d x) : ∃ dn, StoG K H x dn ∧ PyData.eqv (nameD S0) dn = false ∧ SeqAt.shaped (.list [.str "unlike", d]) = true ∧ PyData.eqv (.list [.str "unlike", d]) (.list [.str "unlike", d]) = true := by
  simp only [oth, List.mem_cons, List.not_mem_nil, or_false] at hd
  rcases hd with rfl | rfl | rfl
  · exact ⟨_, stoG_lit l (by decide +kernel) (by decide +kernel) (by decide +kernel), by decide +kernel, by decide +kernel, by decide +kernel⟩
  · exact ⟨_, stoG_lit l (by decide +kernel) (by decide +kernel) (by decide +kernel), by decide +kernel, by decide +kernel, by decide +kernel⟩
  · exact ⟨_, stoG_lit l (by decide +kernel) (by decide +kernel) (by decide +kernel), by decide +kernel, by decide +kernel, by decide +kernel⟩
section
variable {P : Program} {w : World} {K : PySem.W.Frag} {mg : Str → Option Value} {base : Heap}
def spUnlike : Sp := fun vs H Q _ => vs = [] ∧ ∀ H', Same H H' → Q (.bl true) H'
theorem ok_unlike {f fT C0 CL CU CN : Addr} {fd dT : FuncData} (F : Fun K "_law_unlike_right" "_law_unlike_right" sUnlike f fd)
    (GT : FnG P w K mg base CX0 12 fT dT ["door", "given"] (spTold K C0 CL CU CN)) (bT : Binds K dT ["door", "given"] []) (kT : PySem.W.keepIn K (.ref fT) = true) (mT : mg "_law_told" = some (.ref fT)) (ndC : [C0, CL, CU, CN].Nodup) : FnG P w K mg base CX0 13 f fd [] spUnlike := by
  refine fun_okG F scUnlike (fun vs H Q E h => ?_) (fun cdv A outer s H vs Q E hr hG h => ?_)
  · obtain ⟨rfl, _⟩ := h
    rfl
  obtain ⟨rfl, q⟩ := h
  have nd := scUnlike.nd
  have V0 := vw0
  refine ⟨_, pss_cons (ps_set (i := 0) nd rfl (.inl rfl) (l_tup V0 (l_cons V0 l_str (l_cons V0 (l_lst V0 (l_cons V0 l_str (l_cons V0 l_str l_nil))) (l_cons V0 (l_lst V0 (l_cons V0 l_str (l_cons V0 l_str l_nil))) (l_cons V0 (l_lst V0 (l_cons V0 l_int (l_cons V0 l_int l_nil))) (l_cons V0 (l_lst V0 (l_cons V0 (l_tup V0 (l_cons V0 l_str (l_cons V0 l_str (l_cons V0 l_int l_nil)))) l_nil)) l_nil)))))))
    (pss_cons (ps_for (passes_of rfl) rfl (pi_list (l_lst V0
        (l_cons V0 (l_tup V0 (l_cons V0 l_str (l_cons V0 (l_lst V0 (l_cons V0 l_str (l_cons V0 l_str l_nil))) (l_cons V0 (l_lst V0 (l_cons V0 l_str (l_cons V0 l_str l_nil))) (l_cons V0 (l_lst V0 (l_cons V0 l_int l_nil)) (l_cons V0 (l_lst V0 l_nil) l_nil))))))
        (l_cons V0 (l_tup V0 (l_cons V0 l_str (l_cons V0 (l_lst V0 (l_cons V0 l_str (l_cons V0 l_str l_nil))) (l_cons V0 (l_lst V0 (l_cons V0 l_str (l_cons V0 l_str l_nil))) (l_cons V0 (l_lst V0 (l_cons V0 l_int l_nil)) (l_cons V0 (l_lst V0 l_nil) l_nil))))))
        (l_cons V0 (l_tup V0 (l_cons V0 l_str (l_cons V0 (l_lst V0 (l_cons V0 l_str l_nil)) (l_cons V0 (l_lst V0 (l_cons V0 l_str (l_cons V0 l_str l_nil))) (l_cons V0 (l_lst V0 (l_cons V0 l_int l_nil)) (l_cons V0 (l_lst V0 l_nil) l_nil)))))) l_nil))))) (pg_name (i := 1) nd rfl (.inl rfl))
      (pss_one (ps_if (PW.pt (pw_or (pt_cmpR (op_neD hr.units) (pe_callGd GT hr hG rfl mT kT bT .nil pass0 (pa_cons pe_int (pa_cons (pe_lst (pa_cons (pv 0) (pa_cons (pe_tup pa_nil) (pa_cons (pv 1) (pa_cons (pe_tup pa_nil) (pa_cons pe_int pa_nil)))))) pa_nil))) (pe_lst (pa_cons pe_str (pa_cons (pv 1) pa_nil))) (nomark _))
        (pw_or1 (pt_cmpR (op_neD hr.units) (pe_callGd GT hr hG rfl mT kT bT .nil pass0 (pa_cons pe_int (pa_cons (pe_lst (pa_cons (pv 0) (pa_cons (pe_tup pa_nil) (pa_cons (pv 1) (pa_cons (pe_tup pa_nil) pa_nil))))) pa_nil))) (pe_lst (pa_cons pe_str (pa_cons (pv 1) pa_nil))) (nomark _))))) (pss_one (ps_ret pe_bl)) pss_nil)))
    (pss_one (ps_ret (pe_cmpR (r := rEqD K) (op_eqD hr.units) (pe_callGd GT hr hG rfl mT kT bT .nil pass0 (pa_cons pe_int (pa_cons (pe_lst (pa_cons (pv 0) (pa_cons (pe_tupF (pa_cons pe_int pa_nil)) (pa_cons (pv 0) (pa_cons (pe_tupF (pa_cons pe_int pa_nil)) (pa_cons pe_int pa_nil)))))) pa_nil))) (pe_lst (pa_cons pe_str pa_nil)) (by rfl))))), ?_⟩
  refine ⟨trivial, fun v H1 s1 l1 => ?_⟩
  have A1 : StoAt H1 v S0 := stoAt_lit (S := S0) l1
  refine ⟨trivial, fun lv H2 s2 l2 => ?_⟩
  obtain ⟨La, xs, rfl, eL, lx⟩ := lit_list (ds := oth) l2
  have A2 := stoAt_same s2 A1
  have wU : wordAt C0 CL CU CU = "unlike" := by
    simp only [List.nodup_cons, List.mem_cons, List.not_mem_nil, or_false, not_or] at ndC
    obtain ⟨⟨_, n2, _⟩, ⟨n4, _⟩, _⟩ := ndC
    simp [wordAt, Ne.symm n2, Ne.symm n4]
  have lxs : xs.length = 3 := litAll_len lx
  refine ⟨La, rfl, ⟨_, SqL.of eL⟩, for_list (K := K) (a := La) (xs := xs) (fun k σ H' => ∃ y : Option V, σ = [some v, y] ∧ Same H2 H') ⟨none, rfl, fun _ _ h => h⟩ (fun k σ H3 _ hP => ?_) (fun k x σ H3 hx hP => ?_) fun σ H3 hP => ?_⟩
  · obtain ⟨_, _, s3⟩ := hP
    exact SqL.of (s3 _ _ eL)
  · obtain ⟨y, rfl, s3⟩ := hP
    obtain ⟨d, hdm, ld⟩ := litAll_get lx hx
    obtain ⟨dn, G0, ne, sh, eq⟩ := oth_sto (K := K) (List.mem_of_getElem? hdm) ld
    have dpd : Dp K H2 x d := lit_dp _ _ ld
    refine ⟨_, rfl, by decide, fun p1 n1 => ⟨_, rfl, by decide, fun p2 n2 => ⟨by show 5 ≤ sizeLine; decide, fun L nL => ?_⟩⟩⟩
    have b1 := same_new n1 (o := .tup [])
    have f1 : L2.upd H3 p1 (.tup []) p1 = some (.tup []) := upd_same
    have b2 := same_new n2 (o := .tup [])
    generalize L2.upd H3 p1 (.tup []) = H4 at b1 f1 b2 nL ⊢
    generalize L2.upd H4 p2 (.tup []) = H5 at b2 nL ⊢
    have b3 := same_new nL (o := .lst [v, V.ref p1, x, .ref p2, .int 1])
    have f3 : L2.upd H5 L (.lst [v, V.ref p1, x, .ref p2, .int 1]) L = some (.lst [v, V.ref p1, x, .ref p2, .int 1]) := upd_same
    generalize L2.upd H5 L (.lst [v, V.ref p1, x, .ref p2, .int 1]) = H6 at b3 f3 ⊢
    have s6 : Same H2 H6 := ((s3.trans b1).trans b2).trans b3
    have r6 : H6 p1 = some (.tup []) := b3 _ _ (b2 _ _ f1)
    have A6 := stoAt_same s6 A2
    have R6 := row0 (K := K) A6 r6
    refine nil_read ⟨2, L, _, some (CU, x), rfl, SqL.of f3, .inr (.inr (.inl ⟨rfl, v, .ref p1, x, .ref p2, .int 1, rfl, rfl, rfl, rfl, rfl, .inr ⟨4, S0, rowI [], by decide, drawnS0, A6, (rowD_of R6).1, .inr ⟨p1, [], rfl, R6, .inr ⟨dn, G0.same s6, .inl ⟨ne, rfl⟩⟩⟩⟩⟩)), (fun C b e => by injection e with e; injection e with e _; rw [← e]; simp), fun T H7 s7 _ eT => ?_⟩
    have eT : H7 T = some (.lst [.str (wordAt C0 CL CU CU), x]) := eT
    rw [wU] at eT
    refine ⟨_, rfl, by show 2 ≤ sizeLine; decide, fun p3 n3 => ?_⟩
    have b8 := same_new n3 (o := .lst [V.str "unlike", x])
    have f8 : L2.upd H7 p3 (.lst [V.str "unlike", x]) p3 = some (.lst [V.str "unlike", x]) := upd_same
    generalize L2.upd H7 p3 (.lst [V.str "unlike", x]) = H8 at b8 f8 ⊢
    have s8 : Same H2 H8 := (s6.trans s7).trans b8
    have dx8 := dp_same s8 _ _ dpd
    refine ⟨.list [.str "unlike", d], .list [.str "unlike", d], .lst (SqL.of (b8 _ _ eT)) (.cons (.str _) (.cons dx8 .nil)), .lst (SqL.of f8) (.cons (.str _) (.cons dx8 .nil)), sh, sh, false, by rw [eq]; rfl, iteF' rfl ?_⟩
    -- the least depth's door
    refine ⟨_, rfl, by decide, fun p1 n1 => ⟨_, rfl, by decide, fun p2 n2 => nil_read ⟨by show 4 ≤ sizeLine; decide, fun L nL => ?_⟩⟩⟩
    have b1 := same_new n1 (o := .tup [])
    have f1 : L2.upd H8 p1 (.tup []) p1 = some (.tup []) := upd_same
    have b2 := same_new n2 (o := .tup [])
    generalize L2.upd H8 p1 (.tup []) = J4 at b1 f1 b2 nL ⊢
    generalize L2.upd J4 p2 (.tup []) = J5 at b2 nL ⊢
    have b3 := same_new nL (o := .lst [v, V.ref p1, x, .ref p2])
    have f3 : L2.upd J5 L (.lst [v, V.ref p1, x, .ref p2]) L = some (.lst [v, V.ref p1, x, .ref p2]) := upd_same
    generalize L2.upd J5 L (.lst [v, V.ref p1, x, .ref p2]) = J6 at b3 f3 ⊢
    have t6 : Same H2 J6 := ((s8.trans b1).trans b2).trans b3
    have r6 : J6 p1 = some (.tup []) := b3 _ _ (b2 _ _ f1)
    have A6 := stoAt_same t6 A2
    have R6 := row0 (K := K) A6 r6
    refine nil_read ⟨3, L, _, some (CU, x), rfl, SqL.of f3, .inr (.inr (.inr ⟨rfl, v, .ref p1, x, .ref p2, rfl, rfl, rfl, rfl, .inr ⟨4, S0, rowI [], by decide, drawnS0, A6, (rowD_of R6).1, .inr ⟨p1, [], rfl, R6, .inr ⟨dn, G0.same t6, .inl ⟨ne, rfl⟩⟩⟩⟩⟩)), (fun C b e => by injection e with e; injection e with e _; rw [← e]; simp), fun T J7 t7 _ eT => ?_⟩
    have eT : J7 T = some (.lst [.str (wordAt C0 CL CU CU), x]) := eT
    rw [wU] at eT
    refine ⟨_, rfl, by show 2 ≤ sizeLine; decide, fun p3 n3 => ?_⟩
    have b8 := same_new n3 (o := .lst [V.str "unlike", x])
    have f8 : L2.upd J7 p3 (.lst [V.str "unlike", x]) p3 = some (.lst [V.str "unlike", x]) := upd_same
    generalize L2.upd J7 p3 (.lst [V.str "unlike", x]) = J8 at b8 f8 ⊢
    have t8 : Same H2 J8 := (t6.trans t7).trans b8
    have dx8 := dp_same t8 _ _ dpd
    refine ⟨.list [.str "unlike", d], .list [.str "unlike", d], .lst (SqL.of (b8 _ _ eT)) (.cons (.str _) (.cons dx8 .nil)), .lst (SqL.of f8) (.cons (.str _) (.cons dx8 .nil)), sh, sh, false, by rw [eq]; rfl, iteF' rfl ?_⟩
    exact ⟨_, rfl, t8⟩
  · obtain ⟨y, rfl, s3⟩ := hP
    refine ⟨_, rfl, by show 1 ≤ sizeLine; decide, fun p1 o1 n1 t1 => ⟨_, rfl, by show 1 ≤ sizeLine; decide, fun p2 o2 n2 t2 => ⟨by show 5 ≤ sizeLine; decide, fun L nL => ?_⟩⟩⟩
    have b1 := same_new n1 (o := .frz o1 (.tup [V.int 1]))
    have f1 : KTup (L2.upd H3 p1 (.frz o1 (.tup [V.int 1]))) p1 (([1] : List Int).map V.int) := ⟨o1, t1, upd_same⟩
    have b2 := same_new n2 (o := .frz o2 (.tup [V.int 2]))
    have f2 : KTup (L2.upd (L2.upd H3 p1 (.frz o1 (.tup [V.int 1]))) p2 (.frz o2 (.tup [V.int 2]))) p2 (([2] : List Int).map V.int) := ⟨o2, t2, upd_same⟩
    generalize L2.upd H3 p1 (.frz o1 (.tup [V.int 1])) = H4 at b1 f1 b2 f2 nL ⊢
    generalize L2.upd H4 p2 (.frz o2 (.tup [V.int 2])) = H5 at b2 f2 nL ⊢
    have b3 := same_new nL (o := .lst [v, V.ref p1, v, .ref p2, .int 1])
    have f3 : L2.upd H5 L (.lst [v, V.ref p1, v, .ref p2, .int 1]) L = some (.lst [v, V.ref p1, v, .ref p2, .int 1]) := upd_same
    generalize L2.upd H5 L (.lst [v, V.ref p1, v, .ref p2, .int 1]) = H6 at b3 f3 ⊢
    have s6 : Same H2 H6 := ((s3.trans b1).trans b2).trans b3
    have A6 := stoAt_same s6 A2
    have R1 : RowOf K H6 4 S0 v p1 [1] := ⟨drawnS0, A6, .of (f1.same (b2.trans b3)), by decide, by simp⟩
    have R2 : RowOf K H6 4 S0 v p2 [2] := ⟨drawnS0, A6, .of (f2.same b3), by decide, by simp⟩
    refine nil_read ⟨2, L, _, none, rfl, SqL.of f3, .inr (.inr (.inl ⟨rfl, v, .ref p1, v, .ref p2, .int 1, rfl, rfl, rfl, rfl, rfl, .inr ⟨4, S0, rowI [1], by decide, drawnS0, A6, (rowD_of R1).1, .inr ⟨p1, [1], rfl, R1, .inr ⟨nameD S0, stoG_of (by decide) drawnS0 A6, .inr ⟨S0, rowI [2], (name_shaped drawnS0).2, drawnS0, A6, rfl, rfl, (rowD_of R2).1, .inr ⟨p2, [2], rfl, R2, .inr ⟨rfl, .int 1, .int 1, .inr ⟨1, rfl, by decide, rfl⟩⟩⟩⟩⟩⟩⟩⟩)), (fun C b e => nomatch e), fun T H7 s7 _ eT => ?_⟩
    refine ⟨by show 1 ≤ sizeLine; decide, fun p3 n3 => ?_⟩
    have b8 := same_new n3 (o := .lst [V.str "let"])
    refine ⟨.list [.str "let"], .list [.str "let"], .lst (SqL.of (b8 _ _ eT)) (.cons (.str _) .nil), .lst (SqL.of upd_same) (.cons (.str _) .nil), by decide +kernel, by decide +kernel, ?_⟩
    rw [show PyData.eqv (.list [.str "let"]) (.list [.str "let"]) = true by decide +kernel]
    exact q _ ((((s1.trans s2).trans s6).trans s7).trans b8)
end
end DQ

set_option Elab.async false
set_option linter.all false
set_option maxRecDepth 100000
set_option maxHeartbeats 2000000
namespace DQ
open PySem PySem.Spec PyProof.Rows L2
/-! ### the law's store: one item more -/
def lastOf (ns : List Int) : Int := (1 :: ns).getLast (by simp)
def Store.one (S : Store) : Store := { S with items := S.items ++ [lastOf S.items + 1] }
theorem last_ge {ns : List Int} (h : ns.Pairwise (· < ·)) : ∀ x ∈ ns, x ≤ lastOf ns := fun x hx => by
  cases ns with
  | nil => cases hx
  | cons y r =>
    have e : lastOf (y :: r) = (y :: r).getLast (by simp) := by
      unfold lastOf
      rw [List.getLast_cons (by simp)]
    rw [e]
    obtain ⟨k, hk, rfl⟩ := List.mem_iff_getElem.mp hx
    rw [List.getLast_eq_getElem]
    rcases Nat.lt_or_ge k ((y :: r).length - 1) with l | l
    · exact Int.le_of_lt (List.pairwise_iff_getElem.mp h _ _ _ _ l)
    · have : k = (y :: r).length - 1 := by omega
      subst this
      exact Int.le_refl _
theorem last_mem (ns : List Int) : lastOf ns = 1 ∨ lastOf ns ∈ ns := by
  have h := List.getLast_mem (l := 1 :: ns) (by simp)
  rcases List.mem_cons.mp h with e | e
  · exact .inl e
  · exact .inr e
theorem one_drawn {m : Nat} {S : Store} (D : Drawn m S) (low : ∀ x ∈ S.items, x < 1000000000) : Drawn (m + 1) S.one ∧ lastOf S.items + 1 ≤ 1000000000 ∧ 0 ≤ lastOf S.items := by
  have ge := last_ge D.items.1
  have b : 0 ≤ lastOf S.items ∧ lastOf S.items + 1 ≤ 1000000000 := by
    rcases last_mem S.items with e | e
    · rw [e]; decide
    · have h1 := D.items.2 _ e
      have h2 := low _ e
      omega
  have sub : ∀ y ∈ S.items, y ∈ S.items ++ [lastOf S.items + 1] := fun y hy => List.mem_append_left _ hy
  refine ⟨⟨D.marks, D.columns, ⟨List.pairwise_append.mpr ⟨D.items.1, List.pairwise_singleton _ _, fun x hx y hy => ?_⟩, fun x hx => ?_⟩, ?_, D.short, D.rise, fun y hy => of_items (D.facts y hy) fun j hj => sub j (nums_in (D.facts y hy) j hj), fun c => oneToOne_items (D.links c) fun p hp => ⟨sub _ ((D.links c).2.2 p hp).1, sub _ ((D.links c).2.2 p hp).2⟩⟩, b.2, b.1⟩
  · rw [List.mem_singleton.mp hy]
    have := ge x hx
    omega
  · rcases List.mem_append.mp hx with h | h
    · exact D.items.2 x h
    · rw [List.mem_singleton.mp h]
      omega
  · show (S.items ++ [lastOf S.items + 1]).length ≤ m + 1
    rw [List.length_append, List.length_singleton]
    have := D.few
    omega
theorem far_out {m : Nat} {S : Store} (D : Drawn m S) : lastOf S.items + 1 + 1 ∉ S.one.items := fun h => by
  rcases List.mem_append.mp h with h | h
  · have := last_ge D.items.1 _ h
    omega
  · have := List.mem_singleton.mp h
    omega
end DQ

set_option Elab.async false
set_option linter.all false
set_option maxRecDepth 100000
set_option maxHeartbeats 2000000
namespace DQ
open PySem PySem.Spec PyProof.Rows L2
/-! ### every door is refused, whatever stands behind: stage by stage -/
theorem args_odd {gs bs : List V} {odd : V} : (gs ++ [odd] ++ bs.drop (gs.length + 1))[gs.length]? = some odd := by
  rw [List.append_assoc, List.getElem?_append_right (Nat.le_refl _), Nat.sub_self]
  rfl
theorem args_gs {gs bs : List V} {odd : V} {k : Nat} {v : V} (h : gs[k]? = some v) : (gs ++ [odd] ++ bs.drop (gs.length + 1))[k]? = some v := by
  have l := (List.getElem?_eq_some_iff.mp h).1
  rw [List.append_assoc, List.getElem?_append_left l]
  exact h
theorem args_more {gs bs : List V} {odd : V} (hg : gs.length + 1 ≤ bs.length) {k : Nat} (h : k < bs.length) : ∃ v, (gs ++ [odd] ++ bs.drop (gs.length + 1))[k]? = some v := by
  have l : k < (gs ++ [odd] ++ bs.drop (gs.length + 1)).length := by
    rw [List.length_append, List.length_append, List.length_singleton, List.length_drop]
    omega
  exact ⟨_, List.getElem?_eq_getElem l⟩
theorem behind_len {bs goods : List V} {odd : V} {n : Nat} (n6 : n ≤ 6) (hg : n ≤ goods.length) (h : bs = List.replicate 6 .non ∨ bs = List.replicate 6 odd ∨ bs = goods) : n ≤ bs.length := by
  rcases h with rfl | rfl | rfl
  · simpa using n6
  · simpa using n6
  · exact hg
section
variable {K : PySem.W.Frag} {C0 CL CU CN : Addr} {H : Hp} {odd : V} {goods : List V}
/-- what is no store, at the first place -/
theorem ref_first (no : NoStoG K H odd) {ds : List Nat} (hd : (∀ d ∈ ds, d ≤ 1) ∧ 3 ≤ goods.length ∨ (∀ d ∈ ds, d ≤ 3) ∧ 5 ≤ goods.length) : AllRef K C0 CL CU CN H ds [] odd goods C0 := fun d hm bs hb => by
  have o := args_odd (gs := []) (bs := bs) (odd := odd)
  rcases hd with ⟨h1, l⟩ | ⟨h1, l⟩
  · have lb := behind_len (odd := odd) (by decide) l hb
    have m := fun {k : Nat} (h : k < bs.length) => args_more (gs := []) (bs := bs) (odd := odd) (by simp; omega) h
    obtain ⟨x, hx⟩ := m (k := 1) (by omega)
    obtain ⟨n, hn⟩ := m (k := 2) (by omega)
    have c : d = 0 ∨ d = 1 := by have := h1 d hm; omega
    rcases c with rfl | rfl
    · exact .inl ⟨rfl, odd, x, n, o, hx, hn, .inl ⟨no, rfl⟩⟩
    · exact .inr (.inl ⟨rfl, odd, x, o, hx, .inl ⟨no, rfl⟩⟩)
  · have lb := behind_len (odd := odd) (by decide) l hb
    have m := fun {k : Nat} (h : k < bs.length) => args_more (gs := []) (bs := bs) (odd := odd) (by simp; omega) h
    obtain ⟨x, hx⟩ := m (k := 1) (by omega)
    obtain ⟨n, hn⟩ := m (k := 2) (by omega)
    obtain ⟨y, hy⟩ := m (k := 3) (by omega)
    obtain ⟨z, hz⟩ := m (k := 4) (by omega)
    have c : d = 0 ∨ d = 1 ∨ d = 2 ∨ d = 3 := by have := h1 d hm; omega
    rcases c with rfl | rfl | rfl | rfl
    · exact .inl ⟨rfl, odd, x, n, o, hx, hn, .inl ⟨no, rfl⟩⟩
    · exact .inr (.inl ⟨rfl, odd, x, o, hx, .inl ⟨no, rfl⟩⟩)
    · exact .inr (.inr (.inl ⟨rfl, odd, x, n, y, z, o, hx, hn, hy, hz, .inl ⟨no, rfl⟩⟩))
    · exact .inr (.inr (.inr ⟨rfl, odd, x, n, y, o, hx, hn, hy, .inl ⟨no, rfl⟩⟩))
/-- a row that is none, at the second place -/
theorem ref_row {v : V} {m : Nat} {S : Store} {dx : PyData} (hm : m ≤ 100) (D : Drawn m S) (A : StoAt H v S) (hx : Dp K H odd dx) (no : rowD S.items dx = false) {ds : List Nat} (hd : (∀ d ∈ ds, d ≤ 1) ∧ 3 ≤ goods.length ∨ (∀ d ∈ ds, d ≤ 3) ∧ 5 ≤ goods.length) : AllRef K C0 CL CU CN H ds [v] odd goods CL := fun d hmm bs hb => by
  have o := args_odd (gs := [v]) (bs := bs) (odd := odd)
  have g := args_gs (gs := [v]) (bs := bs) (odd := odd) (k := 0) (v := v) rfl
  have R : ∀ {rest : Store → Nat → List Int → Addr → Prop}, RowEnds K C0 CL H v odd (some (CL, odd)) rest := .inr ⟨m, S, dx, hm, D, A, hx, .inl ⟨no, rfl⟩⟩
  rcases hd with ⟨h1, l⟩ | ⟨h1, l⟩
  · have lb := behind_len (odd := odd) (by decide) l hb
    obtain ⟨n, hn⟩ := args_more (gs := [v]) (bs := bs) (odd := odd) (by simp; omega) (k := 2) (by omega)
    have c : d = 0 ∨ d = 1 := by have := h1 d hmm; omega
    rcases c with rfl | rfl
    · exact .inl ⟨rfl, v, odd, n, g, o, hn, R⟩
    · exact .inr (.inl ⟨rfl, v, odd, g, o, R⟩)
  · have lb := behind_len (odd := odd) (by decide) l hb
    have mm := fun {k : Nat} (h : k < bs.length) => args_more (gs := [v]) (bs := bs) (odd := odd) (by simp; omega) h
    obtain ⟨n, hn⟩ := mm (k := 2) (by omega)
    obtain ⟨y, hy⟩ := mm (k := 3) (by omega)
    obtain ⟨z, hz⟩ := mm (k := 4) (by omega)
    have c : d = 0 ∨ d = 1 ∨ d = 2 ∨ d = 3 := by have := h1 d hmm; omega
    rcases c with rfl | rfl | rfl | rfl
    · exact .inl ⟨rfl, v, odd, n, g, o, hn, R⟩
    · exact .inr (.inl ⟨rfl, v, odd, g, o, R⟩)
    · exact .inr (.inr (.inl ⟨rfl, v, odd, n, y, z, g, o, hn, hy, hz, R⟩))
    · exact .inr (.inr (.inr ⟨rfl, v, odd, n, y, g, o, hn, hy, R⟩))
/-- the second store -/
theorem ref_second {v : V} {r : Addr} {m : Nat} {S : Store} {row : List Int} {C : Addr} (hm : m ≤ 100) (R : RowOf K H m S v r row) (no : (NoStoG K H odd ∧ C = C0) ∨ ∃ dn, StoG K H odd dn ∧ PyData.eqv (nameD S) dn = false ∧ C = CU) (l : 5 ≤ goods.length) : AllRef K C0 CL CU CN H [2, 3] [v, .ref r] odd goods C := fun d hmm bs hb => by
  have o := args_odd (gs := [v, .ref r]) (bs := bs) (odd := odd)
  have g0 := args_gs (gs := [v, .ref r]) (bs := bs) (odd := odd) (k := 0) (v := v) rfl
  have g1 := args_gs (gs := [v, .ref r]) (bs := bs) (odd := odd) (k := 1) (v := .ref r) rfl
  have lb := behind_len (odd := odd) (by decide) l hb
  have mm := fun {k : Nat} (h : k < bs.length) => args_more (gs := [v, .ref r]) (bs := bs) (odd := odd) (by simp; omega) h
  obtain ⟨y, hy⟩ := mm (k := 3) (by omega)
  obtain ⟨z, hz⟩ := mm (k := 4) (by omega)
  have B : ∀ {rest : Store → Store → List Int → List Int → Prop}, BothEnds K C0 CL CU H v (.ref r) odd y (some (C, odd)) rest := by
    refine .inr ⟨m, S, rowI row, hm, R.drawn, R.sto, (rowD_of R).1, .inr ⟨r, row, rfl, R, ?_⟩⟩
    rcases no with ⟨a, rfl⟩ | ⟨dn, G, ne, rfl⟩
    · exact .inl ⟨a, rfl⟩
    · exact .inr ⟨dn, G, .inl ⟨ne, rfl⟩⟩
  simp only [List.mem_cons, List.not_mem_nil, or_false] at hmm
  rcases hmm with rfl | rfl
  · exact .inr (.inr (.inl ⟨rfl, v, .ref r, odd, y, z, g0, g1, o, hy, hz, B⟩))
  · exact .inr (.inr (.inr ⟨rfl, v, .ref r, odd, y, g0, g1, o, hy, B⟩))
/-- the second row -/
theorem ref_secRow {v : V} {r : Addr} {m : Nat} {S : Store} {row : List Int} {C : Addr} {dy : PyData} (hm : m ≤ 100) (R : RowOf K H m S v r row) (hy : Dp K H odd dy) (no : (rowD S.items dy = false ∧ C = CL) ∨ ∃ z sec, odd = .ref z ∧ RowOf K H m S v z sec ∧ sec.length ≠ row.length ∧ C = CU) (l : 5 ≤ goods.length) : AllRef K C0 CL CU CN H [2, 3] [v, .ref r, v] odd goods C := fun d hmm bs hb => by
  have o := args_odd (gs := [v, .ref r, v]) (bs := bs) (odd := odd)
  have g0 := args_gs (gs := [v, .ref r, v]) (bs := bs) (odd := odd) (k := 0) (v := v) rfl
  have g1 := args_gs (gs := [v, .ref r, v]) (bs := bs) (odd := odd) (k := 1) (v := .ref r) rfl
  have g2 := args_gs (gs := [v, .ref r, v]) (bs := bs) (odd := odd) (k := 2) (v := v) rfl
  have lb := behind_len (odd := odd) (by decide) l hb
  obtain ⟨z, hz⟩ := args_more (gs := [v, .ref r, v]) (bs := bs) (odd := odd) (by simp; omega) (k := 4) (by omega)
  have B : ∀ {rest : Store → Store → List Int → List Int → Prop}, BothEnds K C0 CL CU H v (.ref r) v odd (some (C, odd)) rest := by
    refine .inr ⟨m, S, rowI row, hm, R.drawn, R.sto, (rowD_of R).1, .inr ⟨r, row, rfl, R, .inr ⟨nameD S, stoG_of (by omega) R.drawn R.sto, .inr ⟨S, dy, (name_shaped R.drawn).2, R.drawn, R.sto, rfl, rfl, hy, ?_⟩⟩⟩⟩
    rcases no with ⟨a, rfl⟩ | ⟨z, sec, e, R', ne, rfl⟩
    · exact .inl ⟨a, rfl⟩
    · exact .inr ⟨z, sec, e, R', .inl ⟨ne, rfl⟩⟩
  simp only [List.mem_cons, List.not_mem_nil, or_false] at hmm
  rcases hmm with rfl | rfl
  · exact .inr (.inr (.inl ⟨rfl, v, .ref r, v, odd, z, g0, g1, g2, o, hz, B⟩))
  · exact .inr (.inr (.inr ⟨rfl, v, .ref r, v, odd, g0, g1, g2, o, B⟩))
/-- the depth -/
theorem ref_depth0 {v : V} {r : Addr} {m : Nat} {S : Store} {row : List Int} {dn : PyData} (hm : m ≤ 100) (R : RowOf K H m S v r row) (hn : Dp K H odd dn) (no : betweenD 0 4 dn = false) (l : 3 ≤ goods.length) : AllRef K C0 CL CU CN H [0] [v, .ref r] odd goods CN := fun d hmm bs hb => by
  have o := args_odd (gs := [v, .ref r]) (bs := bs) (odd := odd)
  have g0 := args_gs (gs := [v, .ref r]) (bs := bs) (odd := odd) (k := 0) (v := v) rfl
  have g1 := args_gs (gs := [v, .ref r]) (bs := bs) (odd := odd) (k := 1) (v := .ref r) rfl
  rw [List.mem_singleton] at hmm
  subst hmm
  exact .inl ⟨rfl, v, .ref r, odd, g0, g1, o, .inr ⟨m, S, rowI row, hm, R.drawn, R.sto, (rowD_of R).1, .inr ⟨r, row, rfl, R, dn, hn, .inl ⟨no, rfl⟩⟩⟩⟩
theorem ref_depth2 {v : V} {r : Addr} {m : Nat} {S : Store} {row : List Int} {dn : PyData} (hm : m ≤ 100) (R : RowOf K H m S v r row) (hn : Dp K H odd dn) (no : betweenD 0 4 dn = false) (l : 5 ≤ goods.length) : AllRef K C0 CL CU CN H [2] [v, .ref r, v, .ref r] odd goods CN := fun d hmm bs hb => by
  have o := args_odd (gs := [v, .ref r, v, .ref r]) (bs := bs) (odd := odd)
  have g0 := args_gs (gs := [v, .ref r, v, .ref r]) (bs := bs) (odd := odd) (k := 0) (v := v) rfl
  have g1 := args_gs (gs := [v, .ref r, v, .ref r]) (bs := bs) (odd := odd) (k := 1) (v := .ref r) rfl
  have g2 := args_gs (gs := [v, .ref r, v, .ref r]) (bs := bs) (odd := odd) (k := 2) (v := v) rfl
  have g3 := args_gs (gs := [v, .ref r, v, .ref r]) (bs := bs) (odd := odd) (k := 3) (v := .ref r) rfl
  rw [List.mem_singleton] at hmm
  subst hmm
  exact .inr (.inr (.inl ⟨rfl, v, .ref r, v, .ref r, odd, g0, g1, g2, g3, o, .inr ⟨m, S, rowI row, hm, R.drawn, R.sto, (rowD_of R).1, .inr ⟨r, row, rfl, R, .inr ⟨nameD S, stoG_of (by omega) R.drawn R.sto, .inr ⟨S, rowI row, (name_shaped R.drawn).2, R.drawn, R.sto, rfl, rfl, (rowD_of R).1, .inr ⟨r, row, rfl, R, .inr ⟨rfl, dn, hn, .inl ⟨no, rfl⟩⟩⟩⟩⟩⟩⟩⟩))
end
end DQ

set_option Elab.async false
set_option linter.all false
set_option maxRecDepth 100000
set_option maxHeartbeats 4000000
namespace DQ
open PySem PySem.Spec PyProof.Rows L2
abbrev sItems : Stmt := topS 57
theorem scItems : FnScope ["generator", "most", "item", "found", "turn"] ["generator", "most"] (defScope sItems) := ⟨rfl, rfl, rfl, by decide +kernel, rfl, by decide +kernel, by decide +kernel⟩
section
variable {P : Program} {w : World} {K : PySem.W.Frag} {mg : Str → Option Value} {base : Heap}
def spItems : Sp := fun vs H Q _ => ∃ (g : Addr) (m : Nat) (n : Int), vs = [.ref g, .int m] ∧ m ≤ 100 ∧ Gen H g n ∧ n + 3 * m + 6 ≤ 1073741824 ∧
  ∀ (p : Addr) (ns : List Int) (H' : Hp), Rising ns → (∀ x ∈ ns, x < 1000000000) → ns.length ≤ m → Keep g H H' → H p = none → H' p = some (.lst (ns.map V.int)) → Gen H' g (n + 3 * m + 6) → Q (.ref p) H'
theorem ok_items {f fr : Addr} {fd fdr : FuncData} (F : Fun K "_law_drawn_items" "_law_drawn_items" sItems f fd)
    (GR : FnOk P w K mg base CX0 2 fr fdr ["generator", "bound"] spRandom) (bR : Binds K fdr ["generator", "bound"] []) (kR : PySem.W.keepIn K (.ref fr) = true) (mR : mg "_law_random" = some (.ref fr)) (mRange : mg "range" = none) : FnOk P w K mg base CX0 3 f fd ["generator", "most"] spItems := by
  refine F.ok scItems (fun vs H Q E h => ?_) (fun cdv A outer s H vs Q E hr h => ?_)
  · obtain ⟨g, m, n, rfl, _⟩ := h
    rfl
  obtain ⟨g, m, n, rfl, hm, gen, hn, q⟩ := h
  have nd := scItems.nd
  refine ⟨_, (pss_cons (ps_par (i := 2) (j := 3) rfl nd rfl rfl (by decide) rfl rfl (pa_cons (pe_ix ix_list (pe_lst (pa_cons pe_int (pa_cons pe_int (pa_cons pe_int (pa_cons (pe_op op_sub (pe_op op_pow pe_int pe_int) (pe_op op_mul pe_int (pv 1))) pa_nil))))) (pe_call GR (hr.mono (by decide)) rfl mR kR bR .nil pass0 (pa_cons (pv 0) (pa_cons pe_int pa_nil))) (fun _ _ => rfl)) (pa_cons (pe_lst pa_nil) pa_nil)) (by rfl))
    (pss_cons (ps_for PassesOwn.never rfl (pi_range1 (by rfl) mRange (pa_cons (pe_call GR (hr.mono (by decide)) rfl mR kR bR .nil pass0 (pa_cons (pv 0) (pa_cons (pe_op op_add (pv 1) pe_int) pa_nil))) pa_nil)) (pg_name (i := 4) nd rfl (.inl rfl))
      (pss_cons (ps_expr (pe_bm PySem.F.plainAttrs_list PySem.F.slot_list_append PySem.F.type_list_append mt_append (pv 3) (pa_cons (pv 2) pa_nil)))
      (pss_one (ps_set (i := 2) nd rfl (.inl rfl) (pe_op op_add (pe_op op_add (pv 2) pe_int) (pe_call GR (hr.mono (by decide)) rfl mR kR bR .nil pass0 (pa_cons (pv 0) (pa_cons pe_int pa_nil))))))))
    (pss_one (ps_ret (pv 3))))), ?_⟩
  refine ⟨_, _, rfl, rfl, ⟨by decide, by decide, by decide⟩, _, rfl, _, _, rfl, rfl, .inl ⟨by decide, by decide⟩, _, _, rfl, rfl, by show 4 ≤ sizeLine; decide, fun p0 n0 => ?_⟩
  have pw : (10 : Int) ^ (9 : Int).toNat = 1000000000 := by decide
  have m0 := same_new n0 (o := .lst [.int 0, .int 0, .int 3, .int ((10 : Int) ^ (9 : Int).toNat - 3 * (m : Int))])
  have e0 : upd H p0 (.lst [.int 0, .int 0, .int 3, .int ((10 : Int) ^ (9 : Int).toNat - 3 * (m : Int))]) p0 = some (.lst [.int 0, .int 0, .int 3, .int ((10 : Int) ^ (9 : Int).toNat - 3 * (m : Int))]) := upd_same
  generalize upd H p0 (.lst [.int 0, .int 0, .int 3, .int ((10 : Int) ^ (9 : Int).toNat - 3 * (m : Int))]) = H1 at m0 e0 ⊢
  refine ⟨_, rfl, g, 4, _, rfl, gen.same m0, by decide, by decide, by omega, fun r H2 r0 r1 gen2 b2 => ?_⟩
  have e2 := (b2 p0 (gen.ne n0)).trans e0
  obtain ⟨v0, ev, h0, h1⟩ : ∃ v0 : Int, atI [V.int 0, .int 0, .int 3, .int ((10 : Int) ^ (9 : Int).toNat - 3 * (m : Int))] r = some (.int v0) ∧ 0 ≤ v0 ∧ v0 ≤ 1000000000 - 3 * m := by
    have c4 : r = 0 ∨ r = 1 ∨ r = 2 ∨ r = 3 := by omega
    rcases c4 with rfl | rfl | rfl | rfl
    · exact ⟨_, rfl, by decide, by omega⟩
    · exact ⟨_, rfl, by decide, by omega⟩
    · exact ⟨_, rfl, by decide, by omega⟩
    · exact ⟨_, rfl, by omega, by omega⟩
  refine ⟨p0, _, r, _, rfl, rfl, SqL.of e2, ev, Nat.zero_le _, fun p1 n1 => ⟨_, _, rfl, ?_⟩⟩
  have k2 : Keep g H H2 := (Keep.of_same m0).trans (Keep.of_but b2)
  have n1H : H p1 = none := Keep.free k2 gen.at n1 gen2.at
  have n1g : p1 ≠ g := gen.ne n1H
  have m1 := same_new n1 (o := .lst [])
  have e1 : upd H2 p1 (.lst []) p1 = some (.lst []) := upd_same
  generalize upd H2 p1 (.lst []) = H3 at m1 e1 ⊢
  have k3 := k2.trans (Keep.of_same m1)
  -- the turns
  refine ⟨_, rfl, _, rfl, _, _, rfl, rfl, g, _, _, rfl, gen2.same m1, by omega, by omega, by omega, fun rt H4 t0 t1 gen4 b4 => ⟨rt, rfl, by omega, by omega, ?_⟩⟩
  refine for_range (lo := 0) (n := rt.toNat) (fun i σ H' => ∃ (v : Int) (ns : List Int) (y : Option V), σ = [some (.ref g), some (.int m), some (.int v), some (.ref p1), y] ∧ H' p1 = some (.lst (ns.map V.int)) ∧ ns.length = i ∧ Rising ns ∧ (∀ x ∈ ns, x < v) ∧ 0 ≤ v ∧ v ≤ 1000000000 - 3 * m + 3 * i ∧ Keep g H H' ∧ Gen H' g (n + 6 + 3 * i))
    ⟨v0, [], none, rfl, (b4 p1 n1g).trans e1, rfl, ⟨List.Pairwise.nil, (fun x h => by cases h)⟩, (fun x h => by cases h), h0, by omega, k3.trans (Keep.of_but b4), gen4.mono (by omega)⟩ (fun i σ H' hi hP => ?_) fun σ H' hP => ?_
  · obtain ⟨v, ns, y, rfl, ep, hl, rs, lt, v0, v1, kp, gn⟩ := hP
    refine ⟨_, rfl, .inl ⟨rfl, _, SqL.of ep⟩, _, rfl, p1, _, _, rfl, rfl, ep, by rw [List.length_map]; exact small1000 (by omega), ?_⟩
    refine ⟨_, rfl, _, _, rfl, rfl, _, rfl, g, 3, _, rfl, gn.upd n1g.symm, by decide, by decide, by omega, fun r3 H5 r30 r31 gn5 b5 => ⟨_, _, rfl, rfl, ?_⟩⟩
    refine ⟨v + 1 + r3, ns ++ [v], _, rfl, ?_, by rw [List.length_append, hl]; rfl, rising_put rs lt v0 (by omega), fun x hx => ?_, by omega, by omega, ?_, gn5.mono (by omega)⟩
    · rw [b5 p1 n1g, upd_same, List.map_append]
      rfl
    · rcases List.mem_append.mp hx with z | z
      · have := lt x z
        omega
      · rw [List.mem_singleton] at z
        omega
    · exact (kp.upd_new n1H).trans (Keep.of_but b5)
  · obtain ⟨v, ns, y, rfl, ep, hl, rs, lt, v0, v1, kp, gn⟩ := hP
    exact ⟨_, rfl, q p1 ns H' rs (fun x hx => by have := lt x hx; omega) (by omega) kp n1H ep (gn.mono (by omega))⟩
end
end DQ

set_option Elab.async false
set_option linter.all false
set_option maxRecDepth 100000
set_option maxHeartbeats 4000000
namespace DQ
open PySem PySem.Spec PyProof.Rows L2
abbrev sStore : Stmt := topS 58
abbrev NS : List Str := ["generator", "most", "marks", "columns", "items", "facts", "mark", "often", "item", "column", "one", "other"]
theorem scStore : FnScope NS ["generator", "most"] (defScope sStore) := ⟨rfl, rfl, rfl, by decide +kernel, rfl, by decide +kernel, by decide +kernel⟩
section
variable {P : Program} {w : World} {K : PySem.W.Frag} {mg : Str → Option Value} {base : Heap}
def spStore : Sp := fun vs H Q _ => ∃ (g : Addr) (m : Nat) (n : Int), vs = [.ref g, .int m] ∧ m ≤ 100 ∧ Gen H g n ∧ n + 30000 ≤ 1073741824 ∧
  ∀ (v : V) (S : Store) (H' : Hp), Drawn m S → (∀ x ∈ S.items, x < 1000000000) → Keep g H H' → StoAt H' v S → StoAt (del H' g) v S → Gen H' g (n + 30000) → Q v H'
theorem ok_store {f fi fp fr : Addr} {fd fdi fdp fdr : FuncData} (F : Fun K "_law_drawn_store" "_law_drawn_store" sStore f fd)
    (GI : FnOk P w K mg base CX0 3 fi fdi ["generator", "most"] spItems) (bI : Binds K fdi ["generator", "most"] []) (kI : PySem.W.keepIn K (.ref fi) = true) (mI : mg "_law_drawn_items" = some (.ref fi))
    (GP : FnOk P w K mg base CX0 4 fp fdp ["generator", "items"] (spPairs K)) (bP : Binds K fdp ["generator", "items"] []) (kP : PySem.W.keepIn K (.ref fp) = true) (mP : mg "_law_drawn_pairs" = some (.ref fp))
    (GR : FnOk P w K mg base CX0 2 fr fdr ["generator", "bound"] spRandom) (bR : Binds K fdr ["generator", "bound"] []) (kR : PySem.W.keepIn K (.ref fr) = true) (mR : mg "_law_random" = some (.ref fr)) (mSorted : mg "sorted" = none) : FnOk P w K mg base CX0 5 f fd ["generator", "most"] spStore := by
  refine F.ok scStore (fun vs H Q E h => ?_) (fun cdv A outer s H vs Q E hr h => ?_)
  · obtain ⟨g, m, n, rfl, _⟩ := h
    rfl
  obtain ⟨g, m, n, rfl, hm, gen, hn, q⟩ := h
  have nd := scStore.nd
  refine ⟨_, (pss_cons (ps_par (i := 2) (j := 3) rfl nd rfl rfl (by decide) rfl rfl (pa_cons (pe_slice sl_list (pe_lst (pa_cons pe_str (pa_cons pe_str (pa_cons pe_str pa_nil)))) po_none (po_some (pe_call GR (hr.mono (by decide)) rfl mR kR bR .nil pass0 (pa_cons (pv 0) (pa_cons pe_int pa_nil))))) (pa_cons (pe_slice sl_list (pe_lst (pa_cons pe_str (pa_cons pe_str pa_nil))) po_none (po_some (pe_op op_add pe_int (pe_call GR (hr.mono (by decide)) rfl mR kR bR .nil pass0 (pa_cons (pv 0) (pa_cons pe_int pa_nil)))))) pa_nil)) (by rfl))
    (pss_cons (ps_par (i := 4) (j := 5) rfl nd rfl rfl (by decide) rfl rfl (pa_cons (pe_call GI (hr.mono (by decide)) rfl mI kI bI .nil pass0 (pa_cons (pv 0) (pa_cons (pv 1) pa_nil))) (pa_cons (pe_lst pa_nil) pa_nil)) (by rfl))
    (pss_cons (ps_for PassesOwn.never rfl (pi_list (pv 2)) (pg_name (i := 6) nd rfl (.inr rfl)) (pss_cons (ps_set (i := 7) nd rfl (.inr rfl) (pe_op op_add pe_int (pe_call GR (hr.mono (by decide)) rfl mR kR bR .nil pass0 (pa_cons (pv 0) (pa_cons pe_int pa_nil))))) (pss_one (ps_set (i := 5) nd rfl (.inl rfl) (pe_op op_cat (pv 5) (pe_lc (own := [("item", 8)]) (g := gName 8) rfl nd (pi_list (pv 4)) (blkOk_by (own := [("item", 8)]) (N := NS) (sc := defScope sStore) (by decide +kernel)) (fun _ _ _ _ _ => pg_name (i := 8) nd rfl (Or.inl rfl)) (fun _ _ _ _ _ => pts_one (pt_cmpR op_eq (pe_call GR (hr.mono (by decide)) rfl mR kR bR .nil pass0 (pa_cons (pv 0) (pa_cons (pv 7) pa_nil))) pe_int (nomark _))) (fun _ _ _ _ _ => (pe_tup (pa_cons pe_str (pa_cons (pv 6) (pa_cons (pv 8) pa_nil)))))))))))
    (pss_cons (ps_for PassesOwn.never rfl (pi_list (pv 3)) (pg_name (i := 9) nd rfl (.inr rfl)) (pss_one (ps_set (i := 5) nd rfl (.inl rfl) (pe_op op_cat (pv 5) (pe_lc (own := [("one", 10), ("other", 11)]) (g := gTup K 2 (gCons (gName 10) (gCons (gName 11) gNil))) (tt := tYes) rfl nd (pi_list (pe_call GP (hr.mono (by decide)) rfl mP kP bP .nil pass0 (pa_cons (pv 0) (pa_cons (pv 4) pa_nil)))) (blkOk_by (own := [("one", 10), ("other", 11)]) (N := NS) (sc := defScope sStore) (by decide +kernel)) (fun _ _ _ _ _ => pg_tup rfl (pgs_cons (pg_name (i := 10) nd rfl (Or.inl rfl) (.inr rfl)) (pgs_cons (pg_name (i := 11) nd rfl (Or.inl rfl) (.inr rfl)) pgs_nil))) (fun _ _ _ _ _ => pts_nil) (fun _ _ _ _ _ => (pe_tup (pa_cons pe_str (pa_cons (pv 9) (pa_cons (pv 10) (pa_cons (pv 11) pa_nil)))))))))))
    (pss_one (ps_ret (pe_tup (pa_cons pe_str (pa_cons (pv 2) (pa_cons (pv 3) (pa_cons (pv 4) (pa_cons (pe_callB (cr_sortD (enc := Fact.d) hr.units) (by rfl) mSorted (by decide +kernel) (pa_cons (pv 5) pa_nil)) pa_nil)))))))))))), ?_⟩
  refine ⟨by show 3 ≤ sizeLine; decide, fun q1 nq1 => ?_⟩
  have mq1 := same_new nq1 (o := .lst [.str "red", .str "blue", .str "gold"])
  have eq1 : upd H q1 (.lst [.str "red", .str "blue", .str "gold"]) q1 = some (.lst [.str "red", .str "blue", .str "gold"]) := upd_same
  generalize upd H q1 (.lst [.str "red", .str "blue", .str "gold"]) = H1 at mq1 eq1 ⊢
  refine ⟨_, rfl, g, 4, _, rfl, gen.same mq1, by decide, by decide, by omega, fun r1 H2 r10 r11 gen2 b2 => ?_⟩
  refine ⟨_, rfl, q1, _, rfl, SqL.of ((b2 q1 (gen.ne nq1)).trans eq1), fun pm nm => ?_⟩
  rw [cut_take r10, show ([V.str "red", .str "blue", .str "gold"].take r1.toNat) = ((["red", "blue", "gold"] : List Str).take r1.toNat).map V.str by rw [List.map_take]; rfl]
  have hMS : ∃ k, k ≤ 3 ∧ (["red", "blue", "gold"] : List Str).take r1.toNat = (["red", "blue", "gold"] : List Str).take k := ⟨r1.toNat, by omega, rfl⟩
  generalize hms : (["red", "blue", "gold"] : List Str).take r1.toNat = MS at hMS ⊢
  have mm := same_new nm (o := .lst (MS.map V.str))
  have em : upd H2 pm (.lst (MS.map V.str)) pm = some (.lst (MS.map V.str)) := upd_same
  generalize upd H2 pm (.lst (MS.map V.str)) = H3 at mm em ⊢
  -- columns
  refine ⟨by show 2 ≤ sizeLine; decide, fun q2 nq2 => ?_⟩
  have mq2 := same_new nq2 (o := .lst [.str "next", .str "below"])
  have eq2 : upd H3 q2 (.lst [.str "next", .str "below"]) q2 = some (.lst [.str "next", .str "below"]) := upd_same
  generalize upd H3 q2 (.lst [.str "next", .str "below"]) = H4 at mq2 eq2 ⊢
  have k3 : Keep g H H3 := ((Keep.of_same mq1).trans (Keep.of_but b2)).trans (Keep.of_same mm)
  have gen3 := gen2.same mm
  refine ⟨_, rfl, g, 2, _, rfl, gen3.same mq2, by decide, by decide, by omega, fun r2 H5 r20 r21 gen5 b5 => ⟨_, _, rfl, rfl, _, rfl, q2, _, rfl, SqL.of ((b5 q2 (gen3.ne nq2)).trans eq2), fun pc nc => ?_⟩⟩
  rw [cut_take (show 0 ≤ 1 + r2 by omega), show ([V.str "next", .str "below"].take (1 + r2).toNat) = ((["next", "below"] : List Str).take (1 + r2).toNat).map V.str by rw [List.map_take]; rfl]
  have hCS : ∃ k, 1 ≤ k ∧ k ≤ 2 ∧ (["next", "below"] : List Str).take (1 + r2).toNat = (["next", "below"] : List Str).take k := ⟨(1 + r2).toNat, by omega, by omega, rfl⟩
  generalize hcs : (["next", "below"] : List Str).take (1 + r2).toNat = CS at hCS ⊢
  have mc := same_new nc (o := .lst (CS.map V.str))
  have ec : upd H5 pc (.lst (CS.map V.str)) pc = some (.lst (CS.map V.str)) := upd_same
  generalize upd H5 pc (.lst (CS.map V.str)) = H6 at mc ec ⊢
  have k6 : Keep g H H6 := ((k3.trans (Keep.of_same mq2)).trans (Keep.of_but b5)).trans (Keep.of_same mc)
  have gen6 := gen5.same mc
  have nmg : pm ≠ g := gen2.ne nm
  have ncg : pc ≠ g := gen5.ne nc
  have em6 : H6 pm = some (.lst (MS.map V.str)) := mc _ _ ((b5 pm nmg).trans (mq2 _ _ em))
  -- items, facts
  refine ⟨_, _, rfl, _, rfl, _, rfl, g, m, _, rfl, hm, gen6, by omega, fun pi ns H7 rise low few k7 ni ei gen7 => ⟨Nat.zero_le _, fun pf nf => ⟨_, _, rfl, ?_⟩⟩⟩
  have mf := same_new nf (o := .lst [])
  have ef : upd H7 pf (.lst []) pf = some (.lst []) := upd_same
  generalize upd H7 pf (.lst []) = H8 at mf ef ⊢
  have k8 : Keep g H H8 := (k6.trans k7).trans (Keep.of_same mf)
  have gen8 : Gen H8 g (n + 400) := (gen7.same mf).mono (by omega)
  have nig : pi ≠ g := gen6.ne ni
  have em8 : H8 pm = some (.lst (MS.map V.str)) := mf _ _ (k7 _ _ nmg em6)
  have ec8 : H8 pc = some (.lst (CS.map V.str)) := mf _ _ (k7 _ _ ncg ec)
  have ei8 : H8 pi = some (.lst (ns.map V.int)) := mf _ _ ei
  have nodn := rise.nodup
  have nodM : MS.Nodup := by rw [← hms]; exact (List.take_sublist _ _).nodup (by decide)
  have nodC : CS.Nodup := by rw [← hcs]; exact (List.take_sublist _ _).nodup (by decide)
  have lenM : MS.length ≤ 3 := by rw [← hms, List.length_take]; exact Nat.min_le_right _ _
  have lenC : CS.length ≤ 2 := by rw [← hcs, List.length_take]; exact Nat.min_le_right _ _
  -- the marks
  refine ⟨_, rfl, pm, rfl, ⟨_, SqL.of em8⟩, for_list (K := K) (a := pm) (xs := MS.map V.str) (fun i σ H' => ∃ (pf : Addr) (fs : List Fact) (rs : List V) (y6 y7 : Option V), σ = [some (.ref g), some (.int m), some (.ref pm), some (.ref pc), some (.ref pi), some (.ref pf), y6, y7, none, none, none, none] ∧ pf ≠ g ∧ H' pf = some (.lst rs) ∧ rs.length ≤ 100 * i ∧ Tups H' rs (fs.map Fact.v) ∧ fs.Nodup ∧ (∀ x ∈ fs, ∃ mk it, x = .mark mk it ∧ mk ∈ MS.take i ∧ it ∈ ns) ∧ Keep g H8 H' ∧ Gen H' g (n + 400 + 400 * i))
    ⟨pf, [], [], none, none, rfl, gen7.ne nf, ef, Nat.le_refl _, .nil, List.nodup_nil, (fun x h => by cases h), Keep.refl g H8, gen8.mono (by omega)⟩ (fun i σ H' _ hP => ?_) (fun i x σ H' hx hP => ?_) fun σ H' hP => ?_⟩
  · obtain ⟨pf, fs, rs, y6, y7, rfl, npf, ef, hl, tp, nf, al, kp, gn⟩ := hP
    exact SqL.of (kp _ _ nmg em8)
  · obtain ⟨pf, fs, rs, y6, y7, rfl, npf, ef, hl, tp, nodf, al, kp, gn⟩ := hP
    obtain ⟨mk, hmk, rfl⟩ := at_map hx
    have hi : i < MS.length := (List.getElem?_eq_some_iff.mp hmk).1
    refine ⟨_, rfl, g, 3, _, rfl, gn, by decide, by decide, by omega, fun r H9 r0 r1' gn9 b9 => ⟨_, _, rfl, rfl, ?_⟩⟩
    have k9 : Keep g H8 H9 := kp.trans (Keep.of_but b9)
    refine ⟨_, rfl, _, rfl, pi, rfl, ⟨_, SqL.of (k9 _ _ nig ei8)⟩, fun D nD => lc_list (K := K) (a := pi) (xs := ns.map V.int) (fun k H' => ∃ (fs' : List Fact) (rs' : List V), H' D = some (.lst rs') ∧ rs'.length ≤ k ∧ Tups H' rs' (fs'.map Fact.v) ∧ fs'.Sublist ((ns.map (Fact.mark mk)).take k) ∧ Keep g H9 H' ∧ Gen H' g (n + 400 + 400 * i + 3 + 3 * k))
      ⟨[], [], upd_same, Nat.le_refl _, .nil, List.nil_sublist _, Keep.of_same (same_new nD), (gn9.same (same_new nD)).mono (by omega)⟩ (fun k H' _ hP => ?_) (fun k x H' hx hP => ?_) fun H' hP => ?_⟩
    · obtain ⟨fs', rs', eD, hl', tp', sb, kp', gn'⟩ := hP
      exact SqL.of (kp' _ _ nig (k9 _ _ nig ei8))
    · obtain ⟨fs', rs', eD, hl', tp', sb, kp', gn'⟩ := hP
      obtain ⟨it, hit, rfl⟩ := at_map hx
      have nDg : D ≠ g := gn9.ne nD
      have gz : (ns.map (Fact.mark mk))[k]? = some (.mark mk it) := by rw [List.getElem?_map, hit]; rfl
      have hk : k < ns.length := (List.getElem?_eq_some_iff.mp hit).1
      refine ⟨rfl, _, rfl, _, rfl, g, _, _, rfl, gn', by omega, by omega, by omega, fun q H10 q0 q1 gn10 b10 => ⟨rfl, _, rfl, ite2 (fun c2 => ?_) fun c2 => ?_⟩⟩
      · have eD10 : H10 D = some (.lst rs') := (b10 D nDg).trans eD
        refine ⟨_, rfl, _, rfl, by show 3 ≤ sizeLine; decide, fun T nT => ?_⟩
        have mT := same_new nT (o := .tup [.str "mark", .str mk, .int it])
        have eT : upd H10 T (.tup [.str "mark", .str mk, .int it]) T = some (.tup [.str "mark", .str mk, .int it]) := upd_same
        generalize upd H10 T (.tup [.str "mark", .str mk, .int it]) = H11 at mT eT ⊢
        have eD11 := mT _ _ eD10
        refine ⟨rs', eD11, small1000 (by omega), fs' ++ [.mark mk it], rs' ++ [.ref T], upd_same, ?_, ?_, sub_put sb gz, ?_, ?_⟩
        · rw [List.length_append, List.length_singleton]
          omega
        · rw [List.map_append]
          exact (Tups.put eT ((tp'.keep (tk_keep (Keep.of_but b10) gn')).keep (tk_same mT))).keep (tk_lst eD11)
        · exact ((kp'.trans (Keep.of_but b10)).trans (Keep.of_same mT)).upd_new nD
        · exact ((gn10.same mT).upd nDg.symm).mono (by omega)
      · exact ⟨fs', rs', (b10 D nDg).trans eD, by omega, tp'.keep (tk_keep (Keep.of_but b10) gn'), sub_skip sb gz, kp'.trans (Keep.of_but b10), gn10.mono (by omega)⟩
    · obtain ⟨fs', rs', eD, hl', tp', sb, kp', gn'⟩ := hP
      rw [List.length_map] at hl' sb gn'
      have npD : pf ≠ D := ne_of_none ((b9 pf npf).trans ef) nD
      have ef9 := kp' _ _ npf ((b9 pf npf).trans ef)
      refine ⟨pf, D, _, _, rfl, rfl, ef9, eD, Nat.le_trans (show rs.length + rs'.length ≤ 1000 by omega) (by decide), fun p7 n7 => ?_⟩
      have m7 := same_new n7 (o := .lst (rs ++ rs'))
      have sub' : fs'.Sublist (ns.map (Fact.mark mk)) := sb.trans (List.take_sublist _ _)
      have tke := take_next hmk
      refine ⟨p7, fs ++ fs', rs ++ rs', _, _, rfl, gn'.ne n7, upd_same, ?_, ?_, ?_, fun x hx => ?_, (k9.trans kp').trans (Keep.of_same m7), (gn'.same m7).mono (by omega)⟩
      · rw [List.length_append]
        omega
      · rw [List.map_append]
        exact (Tups.append ((tp.keep (tk_keep (Keep.of_but b9) gn)).keep (tk_keep kp' gn9)) tp').keep (tk_same m7)
      · refine List.nodup_append.mpr ⟨nodf, sub'.nodup (List.pairwise_map.mpr (nodn.imp fun h e => h (by cases e; rfl))), fun x hx y hy e => ?_⟩
        obtain ⟨mk', it', rfl, hm', _⟩ := al x hx
        obtain ⟨it2, _, e2⟩ := List.mem_map.mp (sub'.subset hy)
        rw [← e2] at e
        cases e
        have z : (MS.take i ++ [mk]).Nodup := by
          rw [← tke]
          exact (List.take_sublist _ _).nodup nodM
        exact (List.nodup_append.mp z).2.2 mk hm' mk (List.mem_singleton.mpr rfl) rfl
      · rcases List.mem_append.mp hx with z | z
        · obtain ⟨mk', it', e, hm', hi'⟩ := al x z
          exact ⟨mk', it', e, by rw [tke]; exact List.mem_append_left _ hm', hi'⟩
        · obtain ⟨it2, h2, e2⟩ := List.mem_map.mp (sub'.subset z)
          exact ⟨mk, it2, e2.symm, by rw [tke]; exact List.mem_append_right _ (List.mem_singleton.mpr rfl), h2⟩
  obtain ⟨pf', fs0, rs0, y6, y7, rfl, npf0, ef0, hl0, tp0, nod0, al0, kp0, gn0⟩ := hP
  rw [List.length_map] at hl0 gn0 al0
  refine ⟨_, rfl, pc, rfl, ⟨_, SqL.of (kp0 _ _ ncg ec8)⟩, for_list (K := K) (a := pc) (xs := CS.map V.str) (fun i σ H' => ∃ (pf : Addr) (fs : List Fact) (rs : List V) (y9 : Option V), σ = [some (.ref g), some (.int m), some (.ref pm), some (.ref pc), some (.ref pi), some (.ref pf), y6, y7, none, y9, none, none] ∧ pf ≠ g ∧ H' pf = some (.lst rs) ∧ rs.length ≤ 400 + 100 * i ∧ Tups H' rs (fs.map Fact.v) ∧ fs.Nodup ∧ (∀ x ∈ fs, Fact.of ⟨MS, CS.take i, ns, []⟩ x) ∧ (∀ c, OneToOne ns (linksOf c fs)) ∧ Keep g H8 H' ∧ Gen H' g (n + 2000 + 2200 * i))
    ⟨pf', fs0, rs0, none, rfl, npf0, ef0, by omega, tp0, nod0, (fun x h => by
      obtain ⟨mk, it, rfl, h1, h2⟩ := al0 x h
      exact ⟨List.mem_of_mem_take h1, h2⟩), (fun c => by
      rw [links_marks fun x h => let ⟨mk, it, e, _⟩ := al0 x h; ⟨mk, it, e⟩]
      exact oneToOne_nil ns), kp0, gn0.mono (by omega)⟩ (fun i σ H' _ hP => ?_) (fun i x σ H' hx hP => ?_) fun σ H' hP => ?_⟩
  · obtain ⟨pf, fs, rs, y9, rfl, npf, ef, hl, tp, nf, al, oo, kp, gn⟩ := hP
    exact SqL.of (kp _ _ ncg ec8)
  · obtain ⟨pf, fs, rs, y9, rfl, npf, ef, hl, tp, nodf, al, oo, kp, gn⟩ := hP
    obtain ⟨cc, hcc, rfl⟩ := at_map hx
    have hi : i < CS.length := (List.getElem?_eq_some_iff.mp hcc).1
    refine ⟨_, rfl, _, rfl, _, rfl, g, pi, ns, _, rfl, SqL.of (kp _ _ nig ei8), nig, nodn, gn, by omega, by omega, fun pp rsP ps H9 o9 k9 nP eP tpP gn9 => ?_⟩
    have npp : pp ≠ g := gn.ne nP
    have lenP : rsP.length = ps.length := by rw [tpP.length, List.length_map]
    have lenPs := o9.len
    have nodps := o9.nodup
    refine ⟨_, rfl, ⟨_, SqL.of eP⟩, fun D nD => lc_list (K := K) (a := pp) (xs := rsP) (fun k H' => ∃ (rs' : List V), H' D = some (.lst rs') ∧ rs'.length ≤ k ∧ Tups H' rs' (((ps.take k).map fun p => Fact.link cc p.1 p.2).map Fact.v) ∧ Keep g H9 H' ∧ Gen H' g (n + 2000 + 2200 * i + 20 * ns.length + 100))
      ⟨[], upd_same, Nat.le_refl _, .nil, Keep.of_same (same_new nD), gn9.same (same_new nD)⟩ (fun k H' _ hP => ?_) (fun k x H' hx hP => ?_) fun H' hP => ?_⟩
    · obtain ⟨rs', eD, hl', tp', kp', gn'⟩ := hP
      exact SqL.of (kp' _ _ npp eP)
    · obtain ⟨rs', eD, hl', tp', kp', gn'⟩ := hP
      obtain ⟨a, t, rfl, ha, ht⟩ := tpP.get hx
      obtain ⟨p, hp, rfl⟩ := at_map ht
      have nDg : D ≠ g := gn9.ne nD
      have hk : k < ps.length := (List.getElem?_eq_some_iff.mp hp).1
      have ha' : H' a = some (.tup (pairV p)) := tk_keep kp' gn9 _ _ ha
      refine ⟨a, pairV p, rfl, .inl (.inl ha'), rfl, ?_⟩
      refine ⟨.int p.1, [.int p.2], rfl, .int p.2, [], rfl, rfl, rfl, _, rfl, _, rfl, _, rfl, by show 4 ≤ sizeLine; decide, fun T nT => ?_⟩
      have mT := same_new nT (o := .tup [.str "link", .str cc, .int p.1, .int p.2])
      have eT : upd H' T (.tup [.str "link", .str cc, .int p.1, .int p.2]) T = some (.tup [.str "link", .str cc, .int p.1, .int p.2]) := upd_same
      generalize upd H' T (.tup [.str "link", .str cc, .int p.1, .int p.2]) = H11 at mT eT ⊢
      have eD11 := mT _ _ eD
      refine ⟨rs', eD11, small1000 (by omega), rs' ++ [.ref T], upd_same, ?_, ?_, ?_, ?_⟩
      · rw [List.length_append, List.length_singleton]
        omega
      · rw [take_next hp, List.map_append, List.map_append]
        exact (Tups.put eT (tp'.keep (tk_same mT))).keep (tk_lst eD11)
      · exact (kp'.trans (Keep.of_same mT)).upd_new nD
      · exact (gn'.same mT).upd nDg.symm
    · obtain ⟨rs', eD, hl', tp', kp', gn'⟩ := hP
      rw [lenP] at hl' tp'
      rw [List.take_length] at tp'
      have npD : pf ≠ D := ne_of_none (k9 _ _ npf ef) nD
      have ef9 := kp' _ _ npf (k9 _ _ npf ef)
      refine ⟨pf, D, _, _, rfl, rfl, ef9, eD, Nat.le_trans (show rs.length + rs'.length ≤ 1000 by omega) (by decide), fun p7 n7 => ?_⟩
      have m7 := same_new n7 (o := .lst (rs ++ rs'))
      have tke := take_next hcc
      have ncc : cc ∉ CS.take i := fun h => by
        have z : (CS.take i ++ [cc]).Nodup := by
          rw [← tke]
          exact (List.take_sublist _ _).nodup nodC
        exact (List.nodup_append.mp z).2.2 cc h cc (List.mem_singleton.mpr rfl) rfl
      have out : linksOf cc fs = [] := links_out al ncc
      refine ⟨p7, fs ++ ps.map (fun p => Fact.link cc p.1 p.2), rs ++ rs', _, rfl, gn'.ne n7, upd_same, ?_, ?_, ?_, fun x hx => ?_, fun c => ?_, ((kp.trans k9).trans kp').trans (Keep.of_same m7), (gn'.same m7).mono (by omega)⟩
      · rw [List.length_append]
        omega
      · rw [List.map_append]
        exact (Tups.append ((tp.keep (tk_keep k9 gn)).keep (tk_keep kp' gn9)) tp').keep (tk_same m7)
      · refine List.nodup_append.mpr ⟨nodf, List.pairwise_map.mpr (nodps.imp fun {x y} h e => h (by injection e with _ e1 e2; exact Prod.ext e1 e2)), fun x hx y hy e => ?_⟩
        obtain ⟨p2, _, e2⟩ := List.mem_map.mp hy
        rw [← e] at e2
        have z := al x hx
        rw [← e2] at z
        exact ncc z.1
      · rcases List.mem_append.mp hx with z | z
        · have w0 := al x z
          cases x with
          | mark a b => exact w0
          | link a b c => exact ⟨by rw [tke]; exact List.mem_append_left _ w0.1, w0.2⟩
        · obtain ⟨p2, h2, e2⟩ := List.mem_map.mp z
          rw [← e2]
          exact ⟨by rw [tke]; exact List.mem_append_right _ (List.mem_singleton.mpr rfl), o9.2.2 p2 h2⟩
      · rw [links_append]
        by_cases ec : cc = c
        · rw [← ec, out, List.nil_append, links_self]
          exact o9
        · rw [links_other ec, List.append_nil]
          exact oo c
  · obtain ⟨pf, fs, rs, y9, rfl, npf, ef, hl, tp, nodf, al, oo, kp, gn⟩ := hP
    rw [List.length_map] at hl al gn
    rw [List.take_length] at al
    have lenR : rs.length = fs.length := by rw [tp.length, List.length_map]
    have z1 : (rs.zip fs).map (·.1) = rs := List.map_fst_zip (Nat.le_of_eq lenR)
    have z2 : (rs.zip fs).map (·.2) = fs := List.map_snd_zip (Nat.le_of_eq lenR.symm)
    refine ⟨_, rfl, _, rfl, _, rfl, _, rfl, pf, rs.zip fs, rfl, ?_, fun z hz => ?_, ?_, Or.inl fun d hd => ?_, fun z hz => fact_depth _, fun p hp => ?_⟩
    · rw [z1]
      exact SqL.of ef
    · obtain ⟨a, e, h⟩ := tp.zip z hz
      rw [e]
      exact fact_dp h
    · intro d hd d' hd'
      obtain ⟨x, _, rfl⟩ := List.mem_map.mp hd
      obtain ⟨y, _, rfl⟩ := List.mem_map.mp hd'
      exact fact_alike _ _
    · obtain ⟨x, _, rfl⟩ := List.mem_map.mp hd
      exact fact_tuple _
    · refine ⟨by show 5 ≤ sizeLine; decide, fun T nT => ?_⟩
      have pmZ := List.mergeSort_perm (rs.zip fs) (PySem.W.dataLe false fun z => z.2.d)
      have ri := sorted_rise (zs := rs.zip fs) (by rw [z2]; exact nodf)
      have tz : ∀ z ∈ (rs.zip fs).mergeSort (PySem.W.dataLe false fun z => z.2.d), ∃ a, z.1 = .ref a ∧ H' a = some (.tup z.2.v) := fun z hz => tp.zip z (pmZ.subset hz)
      generalize hzs : (rs.zip fs).mergeSort (PySem.W.dataLe false fun z => z.2.d) = zs at pmZ ri tz nT ⊢
      have pf2 : (zs.map (·.2)).Perm fs := by
        have := pmZ.map (·.2)
        rwa [z2] at this
      have mp := same_new hp (o := .lst (zs.map (·.1)))
      have ep : upd H' p (.lst (zs.map (·.1))) p = some (.lst (zs.map (·.1))) := upd_same
      generalize upd H' p (.lst (zs.map (·.1))) = H11 at mp ep nT ⊢
      have mT := same_new nT (o := .tup [.str "store", .ref pm, .ref pc, .ref pi, .ref p])
      have eT : upd H11 T (.tup [.str "store", .ref pm, .ref pc, .ref pi, .ref p]) T = some (.tup [.str "store", .ref pm, .ref pc, .ref pi, .ref p]) := upd_same
      generalize upd H11 T (.tup [.str "store", .ref pm, .ref pc, .ref pi, .ref p]) = H12 at mT eT ⊢
      have kH := kp
      refine q (.ref T) ⟨MS, CS, ns, zs.map (·.2)⟩ _ ⟨hMS, hCS, rise, few, by rw [pf2.length_eq, ← lenR]; omega, ri, fun x hx => ?_, fun c => (oo c).perm (links_perm pf2)⟩ low (((k8.trans kp).trans (Keep.of_same mp)).trans (Keep.of_same mT)) ⟨T, pm, pc, pi, p, zs.map (·.1), rfl, eT, mT _ _ (mp _ _ (kp _ _ nmg em8)), mT _ _ (mp _ _ (kp _ _ ncg ec8)), mT _ _ (mp _ _ (kp _ _ nig ei8)), mT _ _ ep, ((tups_of zs tz).keep (tk_same mp)).keep (tk_same mT)⟩ ⟨T, pm, pc, pi, p, zs.map (·.1), rfl, (del_ne (((gn.same mp).ne nT))).trans eT, (del_ne nmg).trans (mT _ _ (mp _ _ (kp _ _ nmg em8))), (del_ne ncg).trans (mT _ _ (mp _ _ (kp _ _ ncg ec8))), (del_ne nig).trans (mT _ _ (mp _ _ (kp _ _ nig ei8))), (del_ne (gn.ne hp)).trans (mT _ _ ep), (((tups_of zs tz).keep (tk_same mp)).keep (tk_same mT)).keep (tk_del ((gn.same mp).same mT))⟩ (((gn.same mp).same mT).mono (by omega))
      have w0 := al x (pf2.subset hx)
      cases x with
      | mark a b => exact w0
      | link a b c => exact w0
end
end DQ

set_option Elab.async false
set_option linter.all false
set_option maxRecDepth 100000
set_option maxHeartbeats 4000000
namespace DQ
open PySem PySem.Spec PyProof.Rows L2
abbrev sPick : Stmt := topS 59
theorem scPick : FnScope ["generator", "things"] ["generator", "things"] (defScope sPick) := ⟨rfl, rfl, rfl, by decide +kernel, rfl, by decide +kernel, by decide +kernel⟩
section
variable {X : Cx} {CX : CXT} {k : Nat} {f : Addr} {fd : FuncData} {ps : List Str} {sp : Sp} {dvs : List V} {ds : List Value} {E : XK} {x : Str} {p pos : Pos}
/-- f() of a def that is shown for calls around which no guard is -/
theorem pe_callGd0 (F : FnG X.prog X.w X.K X.mg X.base CX k f fd ps sp) (hr : Room k X.A) (hG : X.A.guards = some []) (hg : Gl X x) (hm : X.mg x = some (.ref f)) (hk : PySem.W.keepIn X.K (.ref f) = true) (hb : Binds X.K fd ps ds) (hd : Vals dvs ds) (hx : Passes CX X E)
    (hdb : (x == ("__debug__" : Str)) = false := by decide) : PE X (.Call (.Name x p) [] [] pos) (tCall sp dvs E tNil) := by
  refine ⟨fun pins s σ H Q I h => ?_⟩
  refine wpAny_Call_Name_kw (ld_glob I hg hm ?_ hdb)
  exact PySem.W.callWith_K0 I.kIn hk (run_fnG (us := []) F hr hG hb hd hx I .nil h)
end
section
variable {P : Program} {w : World} {K : PySem.W.Frag} {mg : Str → Option Value} {base : Heap}
def spPick (K : PySem.W.Frag) : Sp := fun vs H Q _ => ∃ (g t : Addr) (ns : List Int) (n : Int), vs = [.ref g, .ref t] ∧ SqL K H t (ns.map V.int) ∧ t ≠ g ∧ ns ≠ [] ∧ ns.length ≤ 2000 ∧ Gen H g n ∧ n + 3 ≤ 1073741824 ∧ ∀ i H', i ∈ ns → Gen H' g (n + 3) → But g H H' → Q (.int i) H'
theorem ok_pick {f fr : Addr} {fd fdr : FuncData} (F : Fun K "_law_pick" "_law_pick" sPick f fd) (GR : FnOk P w K mg base CX0 2 fr fdr ["generator", "bound"] spRandom) (bR : Binds K fdr ["generator", "bound"] []) (kR : PySem.W.keepIn K (.ref fr) = true) (mR : mg "_law_random" = some (.ref fr))
    (mLen : mg "len" = none) : FnOk P w K mg base CX0 3 f fd ["generator", "things"] (spPick K) := by
  refine F.ok scPick (fun vs H Q E h => ?_) (fun cdv A outer s H vs Q E hr h => ?_)
  · obtain ⟨_, _, _, _, rfl, _⟩ := h
    rfl
  obtain ⟨g, t, ns, n, rfl, sq, ne, nn, few, G, hn, q⟩ := h
  refine ⟨_, pss_one (ps_ret (pe_ix (r := rIxL K) ix_list (pv 1) (pe_call GR (hr.mono (by decide)) rfl mR kR bR .nil pass0 (pa_cons (pv 0) (pa_cons (pe_callB call_len_seq (by rfl) mLen PySem.boot_len (pa_cons (pv 1) pa_nil)) pa_nil))) (fun _ _ => rfl))), ?_⟩
  have pos : 1 ≤ ns.length := Nat.pos_of_ne_zero fun e => nn (List.length_eq_zero_iff.mp e)
  refine ⟨_, rfl, _, rfl, _, rfl, t, _, rfl, .inl sq, nil_read ?_⟩
  rw [List.length_map]
  refine ⟨g, (ns.length : Nat), n, rfl, G, by omega, by omega, hn, fun r H' r0 r1 G' bt => ?_⟩
  obtain ⟨k, rfl⟩ : ∃ k : Nat, r = (k : Int) := ⟨r.toNat, by omega⟩
  have hk : k < ns.length := by omega
  have hi : ns[k]? = some ns[k] := List.getElem?_eq_getElem hk
  refine ⟨t, _, _, _, rfl, rfl, (Keep.of_but bt).seq ne sq, atI_nat (j := k) (show (ns.map V.int)[k]? = some (.int ns[k]) by rw [List.getElem?_map, hi]; rfl), ?_⟩
  exact q _ H' (List.getElem_mem hk) G' bt
end
end DQ

set_option Elab.async false
set_option linter.all false
set_option maxRecDepth 100000
set_option maxHeartbeats 2000000
namespace DQ
open PySem PySem.Spec PyProof.Rows L2
/-! ### a row of one item, some times over: a tuple whose object is known -/
def rRepF (K : PySem.W.Frag) : R2 := fun x y H Q => ∃ (c : Addr) (k : Nat) (z : V), x = .ref c ∧ y = .int k ∧ SqT K H c [z] ∧ 2 ≤ k ∧ k ≤ 100 ∧ ∀ p o, H p = none → TupO o → Q (.ref p) (upd H p (.frz o (.tup (List.replicate k [z]).flatten)))
theorem op_repF {X : Cx} : OpR X (binaryOp .Mult) (rRepF X.K) := fun pins u σ G y1 y2 b1 b2 Q J rel1 rel2 ask => by
  obtain ⟨c, k, z, rfl, rfl, sq, two, most, go⟩ := ask
  cases (show b1 = Value.ref c from rel1)
  obtain ⟨tok, rfl⟩ := rel2
  obtain ⟨us, each, ⟨⟨kl, dt, dat, sls⟩, got, isC, cnt, isD⟩, le⟩ := J.tuple sq
  dsimp only at isC isD
  subst isC isD
  have one : us.length = 1 := each.length.symm
  have size1 : us.toArray.size = 1 := by rw [List.size_toArray, one]
  have full : us.toArray.isEmpty = false := by
    cases us with
    | nil => cases one
    | cons _ _ => rfl
  have flat : List.foldl (fun r t => r ++ t) #[] (List.replicate k us.toArray) = (List.replicate k us).flatten.toArray := size_rep us k
  have long : (List.replicate k us).flatten.length = k := by rw [PyProof.Rows.lm_len_rep_flat, one, Nat.mul_one]
  have small : k ≤ sizeLine := by
    rw [sizeLine_eq]
    omega
  have inW : (decide ((k : Int) < -(2 ^ 63)) || decide ((k : Int) ≥ 2 ^ 63)) = false := by
    rw [Bool.or_eq_false_iff]
    exact ⟨decide_eq_false (by omega), decide_eq_false (by omega)⟩
  have more : (us.toArray.isEmpty || (k : Int) == 1) = false := by
    rw [Bool.or_eq_false_iff]
    exact ⟨full, beq_eq_false_iff_ne.mpr (by omega)⟩
  have some_ : (decide ((k : Int) ≤ 0) || us.toArray.isEmpty) = false := by
    rw [Bool.or_eq_false_iff]
    exact ⟨decide_eq_false (by omega), full⟩
  have fits : ¬ ((us.toArray.size : Nat) : Int) * k > (2 ^ 63 - 1) / 8 := by
    rw [size1]
    omega
  have few : Builtin.Tuple.tupleTooMany (((us.toArray.size : Nat) : Int) * (k : Int)) = false := decide_eq_false (by
    rw [size1, sizeLine_eq]
    omega)
  have room : (List.foldl (fun r t => r ++ t) #[] (List.replicate (k : Int).toNat us.toArray)).size ≤ sizeLine := by
    rw [Int.toNat_natCast, flat, List.size_toArray, long]
    exact small
  have step := tuple_mulW c us.toArray cnt dt sls k tok inW more some_ fits few room
  rw [Int.toNat_natCast, flat] at step
  have isI := typeIs_int u (k : Int) tok
  refine wpAny_binaryOp_repeat_ref (T := "tuple") (U := "int") (by decide) ⟨_, got, rfl⟩ (fun u' => typeIs_int u' (k : Int) tok) noFill_tuple_mul F.fills_int_mul F.slot_int_rmul repeat_tuple F.slot_int_index.lookup ?_
  refine call_meets F.slot_int_rmul isI F.entry_int_rmul (F.args_int_rmul_2 _ _) (int_rmul_tuple k tok c us.toArray cnt dt sls) ⟨got, rfl, ⟨_, got, rfl⟩, ?_⟩
  refine call_meets F.slot_tuple_mul ⟨_, got, rfl⟩ F.entry_tuple_mul (F.args_tuple_mul_2 _ _) step ⟨got, ?_⟩
  let ob : Obj := { cls := .type "tuple", data := .seq (List.replicate k us).flatten.toArray }
  have ok : ObjOk X.prog X.w (upd G u.heap.objs.size (.frz ob (.tup (List.replicate k [z]).flatten))) (u.heap.push ob) u.heap.objs.size (.frz ob (.tup (List.replicate k [z]).flatten)) :=
    ⟨Heap.get?_push_size _ rfl, by rw [← (each.rep k).length] at *; rw [PyProof.Rows.lm_len_rep_flat, List.length_singleton, Nat.mul_one]; exact small, _, each.rep k, IsTup.new _ _⟩
  exact ⟨.ref u.heap.objs.size, _, J.laid (t' := u.toks) (fun d o q => Heap.get?_push_of_some _ q) (Nat.le_refl _) ok, rfl, go _ ob (J.hok.fresh (Nat.le_refl _)) ⟨rfl, rfl⟩⟩
end DQ

set_option Elab.async false
set_option linter.all false
set_option maxRecDepth 100000
set_option maxHeartbeats 2000000
namespace DQ
open PySem PySem.Spec PyProof.Rows L2
/-! ### the law's wrong values, and a call of _law_all_refused -/
theorem gset_cut {i : Nat} {v : V} {t rest : TS} {D : Ends} {rt : VK} {bk ct : L2.St → Hp → Prop} {σ : L2.St} {H : Hp} (Pz : L2.St → Hp → Prop) (h1 : ∀ D' : Ends, (∀ σ' H', Pz σ' H' → D'.nx σ' H') → t D' (σ.set i (some v)) H) (h2 : ∀ σ' H', Pz σ' H' → rest D σ' H') : gName i v σ H (Ends.mk (tSeq t rest D) rt bk ct).nx := h1 _ h2
/-- tests that do not come true: not f(..), not f(..) or not g(..) -/
theorem not_one {ta : TE} {ts : TS} {D : Ends} {σ : L2.St} {H : Hp} (h1 : ∀ R : VK, (∀ H2, Same H H2 → R (.bl true) H2) → ta σ H R) (h3 : ∀ H2, Same H H2 → D.nx σ H2) : tIfS (tNot (tB ta)) ts tNext D σ H := h1 _ fun H2 s2 => ⟨true, rfl, iteF' rfl (h3 H2 s2)⟩
theorem not_two {ta tb : TE} {ts : TS} {D : Ends} {σ : L2.St} {H : Hp} (h1 : ∀ R : VK, (∀ H2, Same H H2 → R (.bl true) H2) → ta σ H R) (h2 : ∀ H1, Same H H1 → ∀ R : VK, (∀ H2, Same H1 H2 → R (.bl true) H2) → tb σ H1 R) (h3 : ∀ H2, Same H H2 → D.nx σ H2) : tIfS (tOr (tNot (tB ta)) (tNot (tB tb))) ts tNext D σ H :=
  h1 _ fun H1 s1 => ⟨true, rfl, iteF' rfl (h2 H1 s1 _ fun H2 s2 => ⟨true, rfl, iteF' rfl (h3 H2 (s1.trans s2))⟩)⟩
theorem g_one {i : Nat} {x : V} {ta : TE} {ts : TS} {D : Ends} {σ : L2.St} {H : Hp} (h1 : ∀ R : VK, (∀ H2, Same H H2 → R (.bl true) H2) → ta (σ.set i (some x)) H R) (h3 : ∀ H2, Same H H2 → D.nx (σ.set i (some x)) H2) : gName i x σ H (fun σ2 H2 => tIfS (tNot (tB ta)) ts tNext D σ2 H2) := not_one h1 h3
theorem g_two {i : Nat} {x : V} {ta tb : TE} {ts : TS} {D : Ends} {σ : L2.St} {H : Hp} (h1 : ∀ R : VK, (∀ H2, Same H H2 → R (.bl true) H2) → ta (σ.set i (some x)) H R) (h2 : ∀ H1, Same H H1 → ∀ R : VK, (∀ H2, Same H1 H2 → R (.bl true) H2) → tb (σ.set i (some x)) H1 R) (h3 : ∀ H2, Same H H2 → D.nx (σ.set i (some x)) H2) : gName i x σ H (fun σ2 H2 => tIfS (tOr (tNot (tB ta)) (tNot (tB tb))) ts tNext D σ2 H2) := not_two h1 h2 h3
theorem g_three {i : Nat} {x : V} {ta tb tc : TE} {ts ts' : TS} {D : Ends} {σ : L2.St} {H : Hp} (h1 : ∀ R : VK, (∀ H2, Same H H2 → R (.bl true) H2) → ta (σ.set i (some x)) H R) (h2 : ∀ H1, Same H H1 → ∀ R : VK, (∀ H2, Same H1 H2 → R (.bl true) H2) → tb (σ.set i (some x)) H1 R) (h2' : ∀ H1, Same H H1 → ∀ R : VK, (∀ H2, Same H1 H2 → R (.bl true) H2) → tc (σ.set i (some x)) H1 R) (h3 : ∀ H2, Same H H2 → D.nx (σ.set i (some x)) H2) : gName i x σ H (fun σ2 H2 => tSeq (tIfS (tOr (tNot (tB ta)) (tNot (tB tb))) ts tNext) (tIfS (tNot (tB tc)) ts' tNext) D σ2 H2) :=
  not_two h1 h2 fun H2 s2 => not_one (h2' H2 s2) fun H3 s3 => h3 H3 (s2.trans s3)
theorem set_cut {te : TE} {i : Nat} {rest : TS} {D : Ends} {σ : L2.St} {H : Hp} (Pz : V → Hp → Prop) (h1 : ∀ R : VK, (∀ x H2, Pz x H2 → R x H2) → te σ H R) (h2 : ∀ x H2, Pz x H2 → rest D (σ.set i (some x)) H2) : tSeq (tAsg te (gName i)) rest D σ H := h1 _ h2
theorem at_end {ns : List Int} {x : Int} : atI ((ns ++ [x]).map V.int) (-1) = some (.int x) := by
  have e : ixN ((ns ++ [x]).map V.int).length (-1) = some ns.length := by
    rw [List.length_map, List.length_append, List.length_singleton]
    unfold ixN
    rw [if_neg (by decide), if_pos (by omega)]
    exact congrArg some (by omega)
  unfold atI
  rw [e, Option.bind_some, List.getElem?_map, List.getElem?_append_right (Nat.le_refl _), Nat.sub_self]
  rfl
theorem wrongs_sm {i f : Int} (i0 : 0 ≤ i) (i1 : i ≤ 2000000000) (f0 : 0 ≤ f) (f1 : f ≤ 2000000000) : ∀ d ∈ WD.datas (wrongs (.int i) (.int f)) ++ [.tuple [.int i, .int i, .bool false]], SmZ 60 500000 d := by
  have qi : SmZ 10 100 (.int i) := (sm_int (by omega) (by omega)).z.mono (by decide) (by decide)
  have qf : SmZ 10 100 (.int f) := (sm_int (by omega) (by omega)).z.mono (by decide) (by decide)
  have le := Nat.le_refl 10
  have nl := smzl_nil (k := 10)
  have ti : ∀ {d : PyData}, tinyB d = true → SmZ 60 500000 d := fun h => (tiny h).mono (by decide) (by decide)
  intro d hd
  simp only [wrongs, WD.datas, WD.data, leafD, List.cons_append, List.nil_append, List.mem_cons, List.not_mem_nil, or_false] at hd
  rcases hd with rfl | rfl | rfl | rfl | rfl | rfl | rfl | rfl | rfl | rfl | rfl | rfl | rfl | rfl | rfl | rfl | rfl | rfl
  · exact ti (by decide +kernel)
  · exact ti (by decide +kernel)
  · exact qi.mono (by decide) (by decide)
  · exact ti (by decide +kernel)
  · exact ((qi.cons nl le).list).mono (by decide) (by decide)
  · exact ti (by decide +kernel)
  · exact ti (by decide +kernel)
  · exact ti (by decide +kernel)
  · exact ((qf.cons nl le).tuple).mono (by decide) (by decide)
  · exact ((qi.cons (qf.cons nl le) le).tuple).mono (by decide) (by decide)
  · exact ((qi.cons (qi.cons (qi.cons (qi.cons (qi.cons nl le) le) le) le) le).tuple).mono (by decide) (by decide)
  · exact ti (by decide +kernel)
  · exact ti (by decide +kernel)
  · exact ti (by decide +kernel)
  · exact ((((qi.cons nl le).list).cons (smzl_nil (k := 11)) (Nat.le_refl _)).tuple).mono (by decide) (by decide)
  · exact ti (by decide +kernel)
  · exact (((qi.mono (by decide) (Nat.le_refl _)).cons (((qi.cons nl le).tuple).cons (smzl_nil (k := 11)) (Nat.le_refl _)) (by decide : 11 ≤ 11)).tuple).mono (by decide) (by decide)
  · exact ((qi.cons (qi.cons ((((sm_bool false).z.mono (by decide) (by decide) : SmZ 10 10 (.bool false))).cons nl le) le) le).tuple).mono (by decide) (by decide)
/-- the columns that another store has -/
def otherCols (cs : List Str) : List Str := if cs.length < 2 then cs ++ [("extra" : Str)] else cs.take 1
abbrev othersOf (S : Store) : List (List Str × List Str) := [(S.marks ++ [("extra" : Str)], S.columns), (S.marks, otherCols S.columns), (S.marks, [])]
def emptyOk (ms cs : List Str) : Bool := (okWords (.list (ms.map .str)) && okWords (.list (cs.map .str))) && (isStoreD (.str "store") (.list (ms.map .str)) (.list (cs.map .str)) (.list []) (.list []) && SeqAt.shaped (.tuple [.list (ms.map .str), .list (cs.map .str)]))
def othersOk (ms cs : List Str) : Bool := ([(ms ++ [("extra" : Str)], cs), (ms, otherCols cs), (ms, [])] : List (List Str × List Str)).all fun p => emptyOk p.1 p.2 && (!PyData.eqv (.tuple [.list (ms.map .str), .list (cs.map .str)]) (.tuple [.list (p.1.map .str), .list (p.2.map .str)]) && tinyB (.tuple [.str "store", .list (p.1.map .str), .list (p.2.map .str), .list [], .list []]))
theorem others_ok {m : Nat} {S : Store} (D : Drawn m S) : othersOk S.marks S.columns = true := by
  obtain ⟨k, hk, ek⟩ := D.marks
  obtain ⟨j, h1, hj, ej⟩ := D.columns
  rw [ek, ej]
  have ck : k = 0 ∨ k = 1 ∨ k = 2 ∨ k = 3 := by omega
  have cj : j = 1 ∨ j = 2 := by omega
  rcases ck with rfl | rfl | rfl | rfl <;> rcases cj with rfl | rfl <;> decide +kernel
theorem stoG_words {K : PySem.W.Frag} {H : Hp} {t ma ca ia fa : Addr} {ms cs : List Str} (ht : H t = some (.tup [.str "store", .ref ma, .ref ca, .ref ia, .ref fa])) (hma : H ma = some (.lst (ms.map V.str))) (hca : H ca = some (.lst (cs.map V.str))) (hia : H ia = some (.lst [])) (hfa : H fa = some (.lst []))
    (ok : emptyOk ms cs = true) : StoG K H (.ref t) (.tuple [.list (ms.map .str), .list (cs.map .str)]) := by
  unfold emptyOk at ok
  simp only [Bool.and_eq_true] at ok
  obtain ⟨⟨h1, h2⟩, e, sh⟩ := ok
  refine ⟨fun H' Q E s q => ?_, ⟨t, _, _, _, _, _, _, _, rfl, .inl (.inl ht), .lst (SqL.of hma) (dp_texts _), .lst (SqL.of hca) (dp_texts _), rfl⟩, sh⟩
  refine ⟨_, rfl, .inr ⟨t, .str "store", .ref ma, .ref ca, .ref ia, .ref fa, .str "store", _, _, .list [], .list [], rfl, .inl (.inl (s _ _ ht)), .str _, by decide +kernel, .lst (SqL.of (s _ _ hma)) (dp_texts _), (fits_words h1).1, (fits_words h1).2, .lst (SqL.of (s _ _ hca)) (dp_texts _), (fits_words h2).1, (fits_words h2).2, .lst (SqL.of (s _ _ hia)) .nil, fun ds e => ?_, .inl ⟨fa, [], [], rfl, rfl, SqL.of (s _ _ hfa), .nil, by decide, (fun _ h => nomatch h), fun fs e => ?_⟩, fun H'' s' => ?_⟩⟩
  · injection e with e
    subst e
    exact ⟨by decide, fun _ h => nomatch h⟩
  · cases fs with
    | nil => exact .nil
    | cons => cases e
  · rw [e]
    exact q H'' s'
/-- a comprehension whose items stand in a relation to what is new -/
theorem lc_rel {J : It} {n : Nat} {G : Hp → Prop} {Y : Nat → Hp → V → Hp → Prop} (w : Walk J n G Y) {g : TG} {te : TE} {vs : List Nat} {σ : L2.St} {H1 : Hp} {D : Addr} {Qd : Hp → Prop} (Pr : Nat → Hp → V → Prop) (st : ∀ i H H' v, Same H H' → Pr i H v → Pr i H' v) (few : n < sizeLine) (nD : H1 D = none)
    (hG : ∀ H, Same H1 H → G H) (hY : ∀ i H x H', Y i H x H' → Same H H')
    (turn : ∀ i x H H', i < n → Same H1 H → (∃ acc, H D = some (.lst acc)) → Y i H x H' → ∀ R : V → Hp → Prop, (∀ v H4, Same H' H4 → Pr i (del H4 D) v → R v H4) → g x (wipe σ vs) H' fun σ2 H2 => wipe σ2 vs = wipe σ vs ∧ te σ2 H2 R)
    (mono : ∀ x H' (A B : L2.St → Hp → Prop), (∀ σ2 H2, A σ2 H2 → B σ2 H2) → g x (wipe σ vs) H' A → g x (wipe σ vs) H' B)
    (after : ∀ H rs, Same H1 H → H D = some (.lst rs) → rs.length = n → (∀ j v, rs[j]? = some v → Pr j (del H D) v) → Qd H) :
    ∃ W : Nat → Nat → Hp → Prop, (∃ m, W 0 m (upd H1 D (.lst []))) ∧ ∀ i m H, W i m H →
      (J.stop i H ∧ Qd H) ∨ (J.go i H ∧ ∃ Nx : Hp → Prop, (∀ H', Nx H' → ∃ m', m' < m ∧ W (i + 1) m' H') ∧ ∀ x H', J.yld i H x H' → g x (wipe σ vs) H' fun σ2 H2 => wipe σ2 vs = wipe σ vs ∧ tYes σ2 H2 fun b H3 =>
        if b = true then te σ2 H3 fun y H4 => ∃ acc, H4 D = some (.lst acc) ∧ acc.length < sizeLine ∧ Nx (upd H4 D (.lst (acc ++ [y]))) else Nx H3) := by
  refine lc_it w (fun i H => Same H1 H ∧ ∃ acc, H D = some (.lst acc) ∧ acc.length = i ∧ ∀ j v, acc[j]? = some v → Pr j (del H D) v) ⟨same_new nD, [], upd_same, rfl, fun _ _ h => nomatch h⟩ (fun i H _ p => hG H p.1) (fun i x H H' hi p y => ?_) fun H p => ?_
  · obtain ⟨sm, acc, eD, la, al⟩ := p
    refine mono x H' _ _ (fun σ2 H2 z => ⟨z.1, z.2⟩) (turn i x H H' hi sm ⟨acc, eD⟩ y (fun y H4 => ∃ acc, H4 D = some (.lst acc) ∧ acc.length < sizeLine ∧ Same H1 (upd H4 D (.lst (acc ++ [y]))) ∧ ∃ ac2, upd H4 D (.lst (acc ++ [y])) D = some (.lst ac2) ∧ ac2.length = i + 1 ∧ ∀ j v, ac2[j]? = some v → Pr j (del (upd H4 D (.lst (acc ++ [y]))) D) v) fun v H4 s4 pv => ?_)
    have s' := (hY _ _ _ _ y).trans s4
    refine ⟨acc, s' _ _ eD, by omega, same_upd (sm.trans s') nD, acc ++ [v], upd_same, by rw [List.length_append, List.length_singleton, la], fun j u hj => ?_⟩
    rw [del_upd]
    by_cases z : j < acc.length
    · rw [List.getElem?_append_left z] at hj
      exact st j _ _ u (same_del s') (al j u hj)
    · rw [List.getElem?_append_right (by omega)] at hj
      have hk := (List.getElem?_eq_some_iff.mp hj).1
      rw [List.length_singleton] at hk
      have e : j = i := by omega
      subst e
      rw [la, Nat.sub_self] at hj
      cases hj
      exact pv
  · obtain ⟨sm, acc, eD, la, al⟩ := p
    exact after H acc sm eD la al
theorem rowAt_nil {K : PySem.W.Frag} {H : Hp} {p : Addr} (h : H p = some (.tup [])) : RowAt K H p [] := ⟨.inl (.inl h), fun n => absurd rfl n⟩
theorem eqK_refl (S : Store) (n : Nat) (hn : n ≤ 4) (row : List Int) : eqK S S n row row = true := like_refl (like_kind _ _ n row) (by have := dep_kind n; omega)
/-- depths that are none -/
def depthsOdd : List PyData := [.none, .int (-1), .bool true, .bool false, .str "1", .list [.int 1], .tuple [.int 1], .dict [], .int 5, .int 100000000000000000000]
theorem depths_odd : ∀ d ∈ depthsOdd, betweenD 0 4 d = false ∧ ShowsZ d ∧ ShowsZ (.list [.str "number", d]) := by
  have sz : ∀ {d : PyData}, (d.showable && (decide (d.depth ≤ 64) && decide (d.shown.length ≤ 100))) = true → ShowsZ d := fun h => by
    simp only [Bool.and_eq_true, decide_eq_true_eq] at h
    exact ⟨h.1, h.2.1, Nat.le_trans h.2.2 (by rw [sizeLine_eq]; decide)⟩
  intro d hd
  simp only [depthsOdd, List.mem_cons, List.not_mem_nil, or_false] at hd
  rcases hd with rfl | rfl | rfl | rfl | rfl | rfl | rfl | rfl | rfl | rfl
  all_goals exact ⟨by decide +kernel, sz (by decide +kernel), sz (by decide +kernel)⟩
/-- an asked pair: a door and what is handed to it; the call ends with that value -/
def AskOk (K : PySem.W.Frag) (C0 CL CU CN : Addr) (bad : V) (H : Hp) (v : V) : Prop := ∃ (door : Nat) (t l : Addr) (gs : List V) (C : Addr), v = .ref t ∧ H t = some (.tup [.int (door : Nat), .ref l]) ∧ H l = some (.lst gs) ∧ DoorEnds K C0 CL CU CN H door gs (some (C, bad)) ∧ C ∈ [C0, CL, CU, CN]
theorem AskOk.same {K : PySem.W.Frag} {C0 CL CU CN : Addr} {bad : V} {H H' : Hp} {v : V} (h : AskOk K C0 CL CU CN bad H v) (s : Same H H') : AskOk K C0 CL CU CN bad H' v := by
  obtain ⟨door, t, l, gs, C, e, h1, h2, h3, h4⟩ := h
  exact ⟨door, t, l, gs, C, e, s _ _ h1, s _ _ h2, h3.same s, h4⟩
/-- a told value: a list whose second item is that value -/
def ToldOk (bd : Addr) (H : Hp) (v : V) : Prop := ∃ (T : Addr) (x : V), v = .ref T ∧ T ≠ bd ∧ H T = some (.lst [x, .ref bd])
theorem gpairN_mono {K : PySem.W.Frag} {i j : Nat} (v : V) (σ : L2.St) (H : Hp) (R R' : L2.St → Hp → Prop) (m : ∀ σ H, R σ H → R' σ H) (h : gTup K 2 (gCons (gName i) (gCons (gName j) gNil)) v σ H R) : gTup K 2 (gCons (gName i) (gCons (gName j) gNil)) v σ H R' := gpair_mono v σ H R R' m h
theorem gset_set {i j : Nat} {v : V} {te : TE} {rest : TS} {D : Ends} {rt : VK} {bk ct : L2.St → Hp → Prop} {σ : L2.St} {H : Hp} (Pz : V → Hp → Prop) (h1 : ∀ R : VK, (∀ x H2, Pz x H2 → R x H2) → te (σ.set i (some v)) H R) (h2 : ∀ x H2, Pz x H2 → rest D ((σ.set i (some v)).set j (some x)) H2) : gName i v σ H (Ends.mk (tSeq (tAsg te (gName j)) rest D) rt bk ct).nx := h1 _ h2
theorem lt4 {k : Nat} (h : k < 4) : k ∈ [0, 1, 2, 3] := by
  have : k = 0 ∨ k = 1 ∨ k = 2 ∨ k = 3 := by omega
  rcases this with rfl | rfl | rfl | rfl <;> decide
def nineD : List PyData := [.list [.int 5, .int 7], .list [.int 5, .int 7], .list [.int 5, .int 7], .list [.int 5, .int 7], .list [.int 5, .int 7], .list [.int 5, .int 7], .list [.int 5, .int 7], .list [.int 5, .int 7], .list [.int 5, .int 7]]
theorem nine_ok : SeqAt.shaped (.list nineD) = true ∧ PyData.eqv (.list nineD) (.list nineD) = true := ⟨by decide +kernel, by decide +kernel⟩
def fourD : List PyData := [.list [.str "let"], .list [.str "let"], .list [.str "let"], .list [.str "let"]]
theorem four_ok : SeqAt.shaped (.list fourD) = true ∧ PyData.eqv (.list fourD) (.list fourD) = true := ⟨by decide +kernel, by decide +kernel⟩
theorem same_cut {H H' : Hp} {D : Addr} (s : Same H H') (n : H D = none) : Same H (del H' D) := fun b o h => by
  rw [del_ne (ne_of_none h n)]
  exact s b o h
theorem ne_some {H : Hp} {a b : Addr} {o : HO} (h : H a = none) (h' : H b = some o) : a ≠ b := fun e => by
  rw [e, h'] at h
  cases h
theorem lc_range1 {c : Nat} {n : Nat} (h : c < n) : ((0 : Int) + ((c : Nat) : Int)) = ((c : Nat) : Int) := Int.zero_add _
theorem AllRef.same {K : PySem.W.Frag} {C0 CL CU CN C : Addr} {H H' : Hp} {ds : List Nat} {gs goods : List V} {odd : V} (h : AllRef K C0 CL CU CN H ds gs odd goods C) (s : Same H H') : AllRef K C0 CL CU CN H' ds gs odd goods C := fun d hm bs hb => (h d hm bs hb).same s
theorem smz_wordAt {C0 CL CU C : Addr} : SmZ 60 10 (.str (wordAt C0 CL CU C)) := by
  have h : ∀ x : Str, x ∈ words4 → SmZ 60 10 (.str x) := fun x hx => by
    simp only [words4, List.mem_cons, List.not_mem_nil, or_false] at hx
    rcases hx with rfl | rfl | rfl | rfl <;> exact (sm_str (n := 10) (by decide +kernel) (by decide +kernel)).z.mono (by decide) (by decide)
  refine h _ ?_
  unfold wordAt
  split
  · decide
  · split
    · decide
    · split <;> decide
theorem all_callZ {K : PySem.W.Frag} {C0 CL CU CN C : Addr} {σ : L2.St} {H : Hp} {Q : VK} {E : XK} {td tg tgood : TE} {odd : V} {d : PyData} {wd : Str} (ds : List Nat) (gs goods : List V)
    (hd : ∀ Q' : VK, (∀ p, H p = none → Q' (.ref p) (L2.upd H p (.lst (ds.map fun k => V.int (k : Nat))))) → td σ H Q')
    (hg : ∀ (H' : Hp) (Q' : VK), Same H H' → (∀ p, H' p = none → Q' (.ref p) (L2.upd H' p (.lst gs))) → tg σ H' Q')
    (ho : σ[6]? = some (some odd))
    (hgd : ∀ (H' : Hp) (Q' : VK), Same H H' → (∀ (p : Addr) (H'' : Hp), Same H' H'' → H'' p = some (.lst goods) → Q' (.ref p) H'') → tgood σ H' Q')
    (hw : wordAt C0 CL CU C = wd) (l1 : ds.length ≤ 4) (l2 : gs.length ≤ 5) (l3 : goods.length ≤ 6) (hdp : Dp K H odd d) (sh : ShowsZ d) (sh2 : ShowsZ (.list [.str (wordAt C0 CL CU C), d])) (hC : C ∈ [C0, CL, CU, CN]) (all : AllRef K C0 CL CU CN H ds gs odd goods C)
    (q : ∀ H', Same H H' → Q (.bl true) H') : tCall (spAll K C0 CL CU CN) [] E (tCons td (tCons tg (tCons (tC (.str wd)) (tCons (tVar 6) (tCons tgood tNil))))) σ H Q := by
  refine hd _ fun p1 n1 => hg _ _ (same_new n1) fun p2 n2 => ⟨odd, ho, hgd _ _ ((same_new n1).trans (same_new n2)) fun p3 H3 s3 e3 => ?_⟩
  have b1 := same_new n1 (o := .lst (ds.map fun k => V.int (k : Nat)))
  have f1 : L2.upd H p1 (.lst (ds.map fun k => V.int (k : Nat))) p1 = some (.lst (ds.map fun k => V.int (k : Nat))) := upd_same
  generalize L2.upd H p1 (.lst (ds.map fun k => V.int (k : Nat))) = H1 at b1 f1 n2 s3 ⊢
  have b2 := same_new n2 (o := .lst gs)
  have f2 : L2.upd H1 p2 (.lst gs) p2 = some (.lst gs) := upd_same
  generalize L2.upd H1 p2 (.lst gs) = H2 at b2 f2 s3 ⊢
  have s := (b1.trans b2).trans s3
  subst hw
  refine nil_read ⟨p1, p2, p3, ds, gs, goods, odd, d, C, rfl, l1, l2, l3, s3 _ _ (b2 _ _ f1), s3 _ _ f2, e3, dp_same s _ _ hdp, sh, sh2, hC, all.same s, fun H' s' => q H' (s.trans s')⟩
theorem all_call {K : PySem.W.Frag} {C0 CL CU CN C : Addr} {σ : L2.St} {H : Hp} {Q : VK} {E : XK} {td tg tgood : TE} {odd : V} {d : PyData} {wd : Str} (ds : List Nat) (gs goods : List V)
    (hd : ∀ Q' : VK, (∀ p, H p = none → Q' (.ref p) (L2.upd H p (.lst (ds.map fun k => V.int (k : Nat))))) → td σ H Q')
    (hg : ∀ (H' : Hp) (Q' : VK), Same H H' → (∀ p, H' p = none → Q' (.ref p) (L2.upd H' p (.lst gs))) → tg σ H' Q')
    (ho : σ[6]? = some (some odd))
    (hgd : ∀ (H' : Hp) (Q' : VK), Same H H' → (∀ (p : Addr) (H'' : Hp), Same H' H'' → H'' p = some (.lst goods) → Q' (.ref p) H'') → tgood σ H' Q')
    (hw : wordAt C0 CL CU C = wd) (l1 : ds.length ≤ 4) (l2 : gs.length ≤ 5) (l3 : goods.length ≤ 6) (hdp : Dp K H odd d) (sm : SmZ 60 500000 d) (hC : C ∈ [C0, CL, CU, CN]) (all : AllRef K C0 CL CU CN H ds gs odd goods C)
    (q : ∀ H', Same H H' → Q (.bl true) H') : tCall (spAll K C0 CL CU CN) [] E (tCons td (tCons tg (tCons (tC (.str wd)) (tCons (tVar 6) (tCons tgood tNil))))) σ H Q := all_callZ ds gs goods hd hg ho hgd hw l1 l2 l3 hdp (sm.shows (by decide) (by decide)) (smz_pair smz_wordAt sm (by decide)) hC all q
/-- what is no store -/
def OddS (K : PySem.W.Frag) (H : Hp) (v : V) : Prop := ∃ d, Dp K H v d ∧ SmZ 60 500000 d ∧ NoStoG K H v
theorem OddS.same {K : PySem.W.Frag} {H H1 : Hp} {v : V} (h : OddS K H v) (s : Same H H1) : OddS K H1 v := by
  obtain ⟨d, hd, sm, no⟩ := h
  exact ⟨d, dp_same s _ _ hd, sm, no.same s⟩
theorem oddS_of {K : PySem.W.Frag} {H : Hp} {v : V} {d : PyData} (hd : Dp K H v d) (sm : SmZ 60 500000 d) (n5 : ∀ ds, d = .tuple ds → ds.length ≠ 5) : OddS K H v := ⟨d, hd, sm, noSto_of hd n5⟩
theorem smz_parts {m : Nat} {S : Store} (D : Drawn m S) (hm : m ≤ 500) : SmZ 10 10 (.str "store") ∧ SmZ 10 110 (.list (S.marks.map PyData.str)) ∧ SmZ 10 110 (.list (S.columns.map PyData.str)) ∧ SmZ 10 65000 (.list (S.items.map PyData.int)) ∧ SmZ 10 261000 (.list (S.facts.map Fact.d)) :=
  ⟨(sm_str (n := 10) (by decide +kernel) (by decide +kernel)).z.mono (by decide) (by decide), (sm_words (fun x h => D.word (.inl h)) D.fewMarks).z.mono (by decide) (by decide), (sm_words (fun x h => D.word (.inr h)) D.fewColumns).z.mono (by decide) (by decide), (sm_items D.items.2 (Nat.le_trans D.few (by omega))).z.mono (by decide) (by decide), (sm_facts D (fun x h => h) D.short).z.mono (by decide) (by decide)⟩
theorem words_fit {ms : List Str} (l : ms.length ≤ 10000) (h : ∀ x ∈ ms, x ∈ drawnWords) : Fits (.list (ms.map PyData.str)) ∧ Lays (.list (ms.map PyData.str)) := by
  refine ⟨fun ds e => ?_, fun ds e d hd => ?_⟩
  · injection e with e
    subst e
    refine ⟨by rw [List.length_map]; exact l, fun d hd x ex => ?_⟩
    obtain ⟨y, hy, e⟩ := List.mem_map.mp hd
    rw [ex] at e
    injection e with e
    rw [← e]
    exact (lay_words y (h y hy)).2
  · injection e with e
    subst e
    obtain ⟨y, hy, rfl⟩ := List.mem_map.mp hd
    exact (lay_words y (h y hy)).1
theorem ints_fit {ns : List Int} (l : ns.length ≤ 10000) : Fits (.list (ns.map PyData.int)) := fun ds e => by
  injection e with e
  subst e
  refine ⟨by rw [List.length_map]; exact l, fun d hd x ex => ?_⟩
  obtain ⟨y, hy, e⟩ := List.mem_map.mp hd
  rw [ex] at e
  exact nomatch e
theorem facts_at {K : PySem.W.Frag} {H : Hp} {m : Nat} {S : Store} {fa : Addr} {rs : List V} (D : Drawn m S) (hfa : H fa = some (.lst rs)) (tp : Tups H rs (S.facts.map Fact.v)) : FactsAt K H (.ref fa) (.list (S.facts.map Fact.d)) := by
  refine .inl ⟨fa, rs, S.facts.map Fact.d, rfl, rfl, SqL.of hfa, dp_facts tp, by rw [List.length_map]; have := D.short; omega, fun e he => ?_, fun fs e => by rw [← facts_inj e]; exact tp⟩
  obtain ⟨x, hx, rfl⟩ := List.mem_map.mp he
  exact fact_parts x (lay_words _ (D.factWord hx)).1
/-- a tuple of five of a store's parts, one of them bent -/
theorem odd5 {K : PySem.W.Frag} {H : Hp} {m : Nat} {S : Store} {t ma ca : Addr} {x0 vi vf : V} {d0 di df : PyData} (D : Drawn m S) (ht : H t = some (.tup [x0, .ref ma, .ref ca, vi, vf])) (hx : Dp K H x0 d0) (s0 : SeqAt.shaped d0 = true) (hma : H ma = some (.lst (S.marks.map V.str))) (hca : H ca = some (.lst (S.columns.map V.str)))
    (hi : Dp K H vi di) (fi : Fits di) (hf : FactsAt K H vf df) (no : isStoreD d0 (.list (S.marks.map PyData.str)) (.list (S.columns.map PyData.str)) di df = false) : NoStoG K H (.ref t) := fun H' Q E s q => by
  obtain ⟨f1, l1⟩ := words_fit (ms := S.marks) (Nat.le_trans D.fewMarks (by decide)) fun x h => D.word (.inl h)
  obtain ⟨f2, l2⟩ := words_fit (ms := S.columns) (Nat.le_trans D.fewColumns (by decide)) fun x h => D.word (.inr h)
  refine ⟨_, rfl, .inr ⟨t, x0, .ref ma, .ref ca, vi, vf, d0, _, _, di, df, rfl, .inl (.inl (s _ _ ht)), dp_same s _ _ hx, s0, .lst (SqL.of (s _ _ hma)) (dp_texts S.marks), f1, l1, .lst (SqL.of (s _ _ hca)) (dp_texts S.columns), f2, l2, dp_same s _ _ hi, fi, factsAt_same s hf, fun H'' s' => ?_⟩⟩
  rw [no]
  exact q H'' s'
/-- ints, not ascending at some place -/
theorem ascB_noI {ns : List Int} {i : Nat} {a b : Int} (h1 : ns[i]? = some a) (h2 : ns[i + 1]? = some b) (h : ¬ a < b) : ascB (ns.map PyData.int) = false := by
  cases e : ascB (ns.map PyData.int) with
  | false => rfl
  | true =>
    exfalso
    have z := List.all_eq_true.mp e (.int a, .int b) ?_
    · have z : PySem.W.dataLt (.int a) (.int b) = true := z
      rw [PySem.W.dataLt_int] at z
      exact h (of_decide_eq_true z)
    · refine List.mem_of_getElem? (i := i) ?_
      rw [List.getElem?_zip_eq_some]
      refine ⟨?_, ?_⟩
      · rw [List.getElem?_map, h1]
        rfl
      · show ((ns.map PyData.int).drop 1)[i]? = _
        rw [List.getElem?_drop, List.getElem?_map, Nat.add_comm, h2]
        rfl
/-- a row that is turned back to its first item does not rise -/
theorem asc_twice {ns : List Int} {x : Int} (h0 : ns[0]? = some x) (asc : ns.Pairwise (· < ·)) : ascB ((ns ++ [x]).map PyData.int) = false := by
  have pos : 0 < ns.length := (List.getElem?_eq_some_iff.mp h0).1
  have hl : ns[ns.length - 1]? = some ns[ns.length - 1] := List.getElem?_eq_getElem (by omega)
  cases e : ascB ((ns ++ [x]).map PyData.int) with
  | false => rfl
  | true =>
    exfalso
    have h1 : (ns ++ [x])[ns.length - 1]? = some ns[ns.length - 1] := by
      rw [List.getElem?_append_left (by omega)]
      exact hl
    have h2 : (ns ++ [x])[ns.length - 1 + 1]? = some x := by
      rw [show ns.length - 1 + 1 = ns.length by omega, List.getElem?_append_right (Nat.le_refl _), Nat.sub_self]
      rfl
    have ge : x ≤ ns[ns.length - 1] := by
      have e0 : ns[0] = x := (List.getElem?_eq_some_iff.mp h0).2
      rcases Nat.eq_or_lt_of_le (Nat.zero_le (ns.length - 1)) with z | z
      · have : ns[ns.length - 1] = ns[0] := by congr 1; omega
        omega
      · have := List.pairwise_iff_getElem.mp asc 0 (ns.length - 1) (by omega) (by omega) z
        omega
    have := ascB_noI (i := ns.length - 1) h1 h2 (by omega)
    rw [e] at this
    cases this
end DQ

set_option Elab.async false
set_option linter.all false
set_option maxRecDepth 100000
set_option maxHeartbeats 4000000
namespace DQ
open PySem PySem.Spec PyProof.Rows L2
abbrev sLaw : Stmt := topS 65
abbrev NLw : List Str := ["script", "generator", "drawn", "store", "row", "good", "odd", "columns", "bad", "door", "asked", "given", "told", "item"]
theorem scLaw : FnScope NLw ["script"] (defScope sLaw) := ⟨rfl, rfl, rfl, by decide +kernel, rfl, by decide +kernel, by decide +kernel⟩
def spLaw (K : PySem.W.Frag) : Sp := fun vs H Q _ => ∃ (a : Addr) (ns : List Int), vs = [.ref a] ∧ SqL K H a (ns.map V.int) ∧ ∀ H', Q (.bl true) H'
section
variable {P : Program} {w : World} {K : PySem.W.Frag} {mg : Str → Option Value} {base : Heap}
theorem ok_law {f fG fS fP fAl fW fTd fU C0 CL CU CN : Addr} {fd dG dS dP dAl dW dTd dU : FuncData} (F : Fun K "law" "law" sLaw f fd)
    (GG : FnOk P w K mg base CX0 2 fG dG ["script", "index"] (spGenerator K)) (bG : Binds K dG ["script", "index"] []) (kG : PySem.W.keepIn K (.ref fG) = true) (mG : mg "_law_generator" = some (.ref fG))
    (GS : FnOk P w K mg base CX0 5 fS dS ["generator", "most"] spStore) (bS : Binds K dS ["generator", "most"] []) (kS : PySem.W.keepIn K (.ref fS) = true) (mS : mg "_law_drawn_store" = some (.ref fS))
    (GP : FnOk P w K mg base CX0 3 fP dP ["generator", "things"] (spPick K)) (bP : Binds K dP ["generator", "things"] []) (kP : PySem.W.keepIn K (.ref fP) = true) (mP : mg "_law_pick" = some (.ref fP))
    (GAl : FnG P w K mg base CX0 13 fAl dAl ["doors", "given", "due", "odd", "good"] (spAll K C0 CL CU CN)) (bAl : Binds K dAl ["doors", "given", "due", "odd", "good"] []) (kAl : PySem.W.keepIn K (.ref fAl) = true) (mAl : mg "_law_all_refused" = some (.ref fAl))
    (GW : FnOk P w K mg base CX0 1 fW dW ["store"] (spWrong K)) (bW : Binds K dW ["store"] []) (kW : PySem.W.keepIn K (.ref fW) = true) (mW : mg "_law_wrong_rows" = some (.ref fW))
    (GTd : FnG P w K mg base CX0 12 fTd dTd ["door", "given"] (spTold K C0 CL CU CN)) (bTd : Binds K dTd ["door", "given"] []) (kTd : PySem.W.keepIn K (.ref fTd) = true) (mTd : mg "_law_told" = some (.ref fTd))
    (GU : FnG P w K mg base CX0 13 fU dU [] spUnlike) (bU : Binds K dU [] []) (kU : PySem.W.keepIn K (.ref fU) = true) (mU : mg "_law_unlike_right" = some (.ref fU))
    (ndC : [C0, CL, CU, CN].Nodup) (mList : mg "list" = none) (mLen : mg "len" = none) (mRange : mg "range" = none) : FnG P w K mg base CX0 14 f fd ["script"] (spLaw K) := by
  refine fun_okG F scLaw (fun vs H Q E h => ?_) (fun cdv A outer s H vs Q E hr hG h => ?_)
  · obtain ⟨_, _, rfl, _⟩ := h
    rfl
  obtain ⟨a, ns, rfl, L, q⟩ := h
  have nd := scLaw.nd
  refine ⟨_, (pss_cons (ps_set (i := 1) nd rfl (.inl rfl) (pe_call GG (hr.mono (by decide)) rfl mG kG bG .nil pass0 (pa_cons (pv 0) (pa_cons pe_int pa_nil))))
    (pss_cons (ps_set (i := 2) nd rfl (.inl rfl) (pe_call GS (hr.mono (by decide)) rfl mS kS bS .nil pass0 (pa_cons (pv 1) (pa_cons pe_int pa_nil))))
    (pss_cons (ps_set (i := 3) nd rfl (.inr rfl) (pe_tup (pa_cons (pe_ix (r := rIxT K) ix_tup (pv 2) pe_int (fun _ _ => rfl)) (pa_cons (pe_ix (r := rIxT K) ix_tup (pv 2) pe_int (fun _ _ => rfl)) (pa_cons (pe_ix (r := rIxT K) ix_tup (pv 2) pe_int (fun _ _ => rfl)) (pa_cons (pe_op op_cat (pe_ix (r := rIxT K) ix_tup (pv 2) pe_int (fun _ _ => rfl)) (pe_lst (pa_cons (pe_op op_add (pe_ix (r := rIxL K) ix_list (pe_op op_cat (pe_lst (pa_cons pe_int pa_nil)) (pe_ix (r := rIxT K) ix_tup (pv 2) pe_int (fun _ _ => rfl))) (pe_un un_neg pe_int) (fun _ _ => rfl)) pe_int) pa_nil))) (pa_cons (pe_ix (r := rIxT K) ix_tup (pv 2) pe_int (fun _ _ => rfl)) pa_nil)))))))
    (pss_cons (ps_set (i := 4) nd rfl (.inl rfl) (pe_tupF (pa_cons (pe_call GP (hr.mono (by decide)) rfl mP kP bP .nil pass0 (pa_cons (pv 1) (pa_cons (pe_ix (r := rIxT K) ix_tup (pv 3) pe_int (fun _ _ => rfl)) pa_nil))) pa_nil)))
    (pss_cons (ps_set (i := 5) nd rfl (.inl rfl) (pe_lst (pa_cons (pv 3) (pa_cons (pv 4) (pa_cons (pv 3) (pa_cons (pv 4) (pa_cons pe_int (pa_cons pe_non pa_nil))))))))
    (pss_cons (ps_for (passes_of rfl) rfl (pi_list (pe_lst (pa_cons pe_non (pa_cons pe_int (pa_cons pe_str (pa_cons (pe_lst pa_nil) (pa_cons (pe_tup pa_nil) (pa_cons pe_dnewK (pa_cons pe_bl (pa_cons (pe_callTy call_list_of (by rfl) mList (by decide +kernel) (pa_cons (pv 3) pa_nil)) (pa_cons (pe_slice (r := rSlT K) sl_tup (pv 3) po_none (po_some pe_int)) (pa_cons (pe_op (r := rCatT K) op_catT (pv 3) (pe_tup (pa_cons pe_int pa_nil))) (pa_cons (pe_op (r := rCatT K) op_catT (pe_slice (r := rSlT K) sl_tup (pv 3) po_none (po_some pe_int)) (pe_tup (pa_cons (pe_op op_cat (pe_ix (r := rIxT K) ix_tup (pv 3) pe_int (fun _ _ => rfl)) (pe_slice (r := rSlL K) sl_list (pe_ix (r := rIxT K) ix_tup (pv 3) pe_int (fun _ _ => rfl)) po_none (po_some pe_int))) (pa_cons (pe_lst pa_nil) pa_nil)))) (pa_cons (pe_op (r := rCatT K) op_catT (pe_slice (r := rSlT K) sl_tup (pv 3) po_none (po_some pe_int)) (pe_tup (pa_cons pe_non pa_nil))) (pa_cons (pe_op (r := rCatT K) op_catT (pe_tup (pa_cons pe_int pa_nil)) (pe_slice (r := rSlT K) sl_tup (pv 3) (po_some pe_int) po_none)) pa_nil))))))))))))))) (pg_name (i := 6) nd rfl (.inl rfl)) (pss_cons (ps_if (PW.pt (pw_or (pt_not (pt_val (pe_callGd GAl (hr.mono (by decide)) hG rfl mAl kAl bAl .nil pass0 (pa_cons (pe_lst (pa_cons pe_int (pa_cons pe_int pa_nil))) (pa_cons (pe_lst pa_nil) (pa_cons pe_str (pa_cons (pv 6) (pa_cons (pe_lst (pa_cons (pv 6) (pa_cons (pv 4) (pa_cons pe_int pa_nil)))) pa_nil)))))))) (pw_or1 (pt_not (pt_val (pe_callGd GAl (hr.mono (by decide)) hG rfl mAl kAl bAl .nil pass0 (pa_cons (pe_lst (pa_cons pe_int (pa_cons pe_int pa_nil))) (pa_cons (pe_lst pa_nil) (pa_cons pe_str (pa_cons (pv 6) (pa_cons (pv 5) pa_nil))))))))))) (pss_one (ps_ret pe_bl)) pss_nil)
    (pss_one (ps_if (pt_not (pt_val (pe_callGd GAl (hr.mono (by decide)) hG rfl mAl kAl bAl .nil pass0 (pa_cons (pe_lst (pa_cons pe_int (pa_cons pe_int pa_nil))) (pa_cons (pe_lst (pa_cons (pv 3) (pa_cons (pv 4) pa_nil))) (pa_cons pe_str (pa_cons (pv 6) (pa_cons (pv 5) pa_nil)))))))) (pss_one (ps_ret pe_bl)) pss_nil))))
    (pss_cons (ps_for (passes_of rfl) rfl (pi_list (pe_call GW (hr.mono (by decide)) rfl mW kW bW .nil pass0 (pa_cons (pv 3) pa_nil))) (pg_name (i := 6) nd rfl (.inl rfl)) (pss_cons (ps_if (PW.pt (pw_or (pt_not (pt_val (pe_callGd GAl (hr.mono (by decide)) hG rfl mAl kAl bAl .nil pass0 (pa_cons (pe_lst (pa_cons pe_int (pa_cons pe_int pa_nil))) (pa_cons (pe_lst (pa_cons (pv 3) pa_nil)) (pa_cons pe_str (pa_cons (pv 6) (pa_cons (pe_lst (pa_cons (pv 3) (pa_cons (pv 6) (pa_cons pe_int pa_nil)))) pa_nil)))))))) (pw_or1 (pt_not (pt_val (pe_callGd GAl (hr.mono (by decide)) hG rfl mAl kAl bAl .nil pass0 (pa_cons (pe_lst (pa_cons pe_int (pa_cons pe_int pa_nil))) (pa_cons (pe_lst (pa_cons (pv 3) pa_nil)) (pa_cons pe_str (pa_cons (pv 6) (pa_cons (pv 5) pa_nil))))))))))) (pss_one (ps_ret pe_bl)) pss_nil)
    (pss_one (ps_if (pt_not (pt_val (pe_callGd GAl (hr.mono (by decide)) hG rfl mAl kAl bAl .nil pass0 (pa_cons (pe_lst (pa_cons pe_int (pa_cons pe_int pa_nil))) (pa_cons (pe_lst (pa_cons (pv 3) (pa_cons (pv 4) (pa_cons (pv 3) pa_nil)))) (pa_cons pe_str (pa_cons (pv 6) (pa_cons (pv 5) pa_nil)))))))) (pss_one (ps_ret pe_bl)) pss_nil))))
    (pss_cons (ps_set (i := 7) nd rfl (.inl rfl) (pe_ifExp (pt_cmpR op_lt (pe_callB call_len_seq (by rfl) mLen PySem.boot_len (pa_cons (pe_ix (r := rIxT K) ix_tup (pv 3) pe_int (fun _ _ => rfl)) pa_nil)) pe_int (nomark _)) (pe_op op_cat (pe_ix (r := rIxT K) ix_tup (pv 3) pe_int (fun _ _ => rfl)) (pe_lst (pa_cons pe_str pa_nil))) (pe_slice (r := rSlL K) sl_list (pe_ix (r := rIxT K) ix_tup (pv 3) pe_int (fun _ _ => rfl)) po_none (po_some pe_int))))
    (pss_cons (ps_for (passes_of rfl) rfl (pi_list (pe_lst (pa_cons (pe_tup (pa_cons pe_str (pa_cons (pe_op op_cat (pe_ix (r := rIxT K) ix_tup (pv 3) pe_int (fun _ _ => rfl)) (pe_lst (pa_cons pe_str pa_nil))) (pa_cons (pe_ix (r := rIxT K) ix_tup (pv 3) pe_int (fun _ _ => rfl)) (pa_cons (pe_lst pa_nil) (pa_cons (pe_lst pa_nil) pa_nil)))))) (pa_cons (pe_tup (pa_cons pe_str (pa_cons (pe_ix (r := rIxT K) ix_tup (pv 3) pe_int (fun _ _ => rfl)) (pa_cons (pv 7) (pa_cons (pe_lst pa_nil) (pa_cons (pe_lst pa_nil) pa_nil)))))) (pa_cons (pe_tup (pa_cons pe_str (pa_cons (pe_ix (r := rIxT K) ix_tup (pv 3) pe_int (fun _ _ => rfl)) (pa_cons (pe_slice (r := rSlL K) sl_list (pe_ix (r := rIxT K) ix_tup (pv 3) pe_int (fun _ _ => rfl)) po_none (po_some pe_int)) (pa_cons (pe_lst pa_nil) (pa_cons (pe_lst pa_nil) pa_nil)))))) pa_nil))))) (pg_name (i := 6) nd rfl (.inl rfl)) (pss_one (ps_if (pt_not (pt_val (pe_callGd GAl (hr.mono (by decide)) hG rfl mAl kAl bAl .nil pass0 (pa_cons (pe_lst (pa_cons pe_int (pa_cons pe_int pa_nil))) (pa_cons (pe_lst (pa_cons (pv 3) (pa_cons (pv 4) pa_nil))) (pa_cons pe_str (pa_cons (pv 6) (pa_cons (pv 5) pa_nil)))))))) (pss_one (ps_ret pe_bl)) pss_nil)))
    (pss_cons (ps_for (passes_of rfl) rfl (pi_list (pe_lst (pa_cons (pe_tup pa_nil) (pa_cons (pe_op (r := rRepF K) op_repF (pv 4) pe_int) (pa_cons (pe_op (r := rRepF K) op_repF (pv 4) pe_int) pa_nil))))) (pg_name (i := 6) nd rfl (.inl rfl)) (pss_one (ps_if (pt_not (pt_val (pe_callGd GAl (hr.mono (by decide)) hG rfl mAl kAl bAl .nil pass0 (pa_cons (pe_lst (pa_cons pe_int (pa_cons pe_int pa_nil))) (pa_cons (pe_lst (pa_cons (pv 3) (pa_cons (pv 4) (pa_cons (pv 3) pa_nil)))) (pa_cons pe_str (pa_cons (pv 6) (pa_cons (pv 5) pa_nil)))))))) (pss_one (ps_ret pe_bl)) pss_nil)))
    (pss_cons (ps_for (passes_of rfl) rfl (pi_list (pe_lst (pa_cons pe_non (pa_cons (pe_un un_neg pe_int) (pa_cons pe_bl (pa_cons pe_bl (pa_cons pe_str (pa_cons (pe_lst (pa_cons pe_int pa_nil)) (pa_cons (pe_tup (pa_cons pe_int pa_nil)) (pa_cons pe_dnewK (pa_cons pe_int (pa_cons (pe_op op_pow pe_int pe_int) pa_nil)))))))))))) (pg_name (i := 6) nd rfl (.inl rfl)) (pss_one (ps_if (PW.pt (pw_or (pt_not (pt_val (pe_callGd GAl (hr.mono (by decide)) hG rfl mAl kAl bAl .nil pass0 (pa_cons (pe_lst (pa_cons pe_int pa_nil)) (pa_cons (pe_lst (pa_cons (pv 3) (pa_cons (pv 4) pa_nil))) (pa_cons pe_str (pa_cons (pv 6) (pa_cons (pe_lst (pa_cons (pv 3) (pa_cons (pv 4) (pa_cons (pv 6) pa_nil)))) pa_nil)))))))) (pw_or1 (pt_not (pt_val (pe_callGd GAl (hr.mono (by decide)) hG rfl mAl kAl bAl .nil pass0 (pa_cons (pe_lst (pa_cons pe_int pa_nil)) (pa_cons (pe_lst (pa_cons (pv 3) (pa_cons (pv 4) (pa_cons (pv 3) (pa_cons (pv 4) pa_nil))))) (pa_cons pe_str (pa_cons (pv 6) (pa_cons (pv 5) pa_nil))))))))))) (pss_one (ps_ret pe_bl)) pss_nil)))
    (pss_cons (ps_set (i := 8) nd rfl (.inr rfl) (pe_lst (pa_cons pe_int pa_nil)))
    (pss_cons (ps_set (i := 10) nd rfl (.inl rfl) (pe_op op_cat (pe_lc (own := [("door", 9)]) (g := gName 9) (tt := tYes) rfl nd (pi_range1 (by rfl) mRange (pa_cons pe_int pa_nil)) (blkOk_by (own := [("door", 9)]) (N := NLw) (sc := defScope sLaw) (by decide +kernel)) (fun _ _ _ _ _ => pg_name (i := 9) nd rfl (Or.inl rfl)) (fun _ _ _ _ _ => pts_nil) (fun _ _ _ _ _ => (pe_tup (pa_cons (pv 9) (pa_cons (pe_lst (pa_cons (pv 8) (pa_cons (pv 8) (pa_cons (pv 8) (pa_cons (pv 8) (pa_cons (pv 8) pa_nil)))))) pa_nil))))) (pe_lc (own := [("door", 9)]) (g := gName 9) (tt := tYes) rfl nd (pi_range1 (by rfl) mRange (pa_cons pe_int pa_nil)) (blkOk_by (own := [("door", 9)]) (N := NLw) (sc := defScope sLaw) (by decide +kernel)) (fun _ _ _ _ _ => pg_name (i := 9) nd rfl (Or.inl rfl)) (fun _ _ _ _ _ => pts_nil) (fun _ _ _ _ _ => (pe_tup (pa_cons (pv 9) (pa_cons (pe_lst (pa_cons (pv 3) (pa_cons (pv 8) (pa_cons (pv 8) (pa_cons (pv 8) (pa_cons (pv 8) pa_nil)))))) pa_nil)))))))
    (pss_cons (ps_setLc (i := 12) (own := [("door", 9), ("given", 11)]) (g := gTup K 2 (gCons (gName 9) (gCons (gName 11) gNil))) (tt := tYes) rfl nd rfl rfl (sw_true rfl rfl rfl rfl) (pi_list (pe_op op_cat (pv 10) (pe_lst (pa_cons (pe_tup (pa_cons pe_int (pa_cons (pe_lst (pa_cons (pv 3) (pa_cons (pv 4) (pa_cons (pv 3) (pa_cons (pv 4) (pa_cons (pv 8) pa_nil)))))) pa_nil))) pa_nil)))) (blkOk_by (own := [("door", 9), ("given", 11)]) (N := NLw) (sc := defScope sLaw) (by decide +kernel)) (fun _ _ _ _ _ => pg_tup rfl (pgs_cons (pg_name (i := 9) nd rfl (Or.inl rfl)) (pgs_cons (pg_name (i := 11) nd rfl (Or.inl rfl)) pgs_nil))) (fun _ _ _ _ _ => pts_nil) (fun _ _ _ _ _ => (pe_callGd GTd (hr.mono (by decide)) hG rfl mTd kTd bTd .nil pass0 (pa_cons (pv 9) (pa_cons (pv 11) pa_nil)))))
    (pss_cons (ps_expr (pe_bm PySem.F.plainAttrs_list PySem.F.slot_list_append PySem.F.type_list_append mt_append (pv 8) (pa_cons pe_int pa_nil)))
    (pss_cons (ps_if (PW.pt (pw_or (pt_cmpR (op_neD hr.units) (pe_lc (own := [("item", 13)]) (g := gName 13) (tt := tYes) rfl nd (pi_list (pv 12)) (blkOk_by (own := [("item", 13)]) (N := NLw) (sc := defScope sLaw) (by decide +kernel)) (fun _ _ _ _ _ => pg_name (i := 13) nd rfl (Or.inl rfl)) (fun _ _ _ _ _ => pts_nil) (fun _ _ _ _ _ => (pe_ix (r := rIxL K) ix_list (pv 13) pe_int (fun _ _ => rfl)))) (pe_op op_rep (pe_lst (pa_cons (pe_lst (pa_cons pe_int (pa_cons pe_int pa_nil))) pa_nil)) pe_int) (nomark _)) (pw_or1 (pt_not (pt_val (pe_callGd0 GU hr hG (by rfl) mU kU bU .nil pass0)))))) (pss_one (ps_ret pe_bl)) pss_nil)
    (pss_cons (ps_set (i := 5) nd rfl (.inl rfl) (pe_lst (pa_cons (pe_callGd GTd (hr.mono (by decide)) hG rfl mTd kTd bTd .nil pass0 (pa_cons pe_int (pa_cons (pe_lst (pa_cons (pv 3) (pa_cons (pv 4) (pa_cons pe_int pa_nil)))) pa_nil))) (pa_cons (pe_callGd GTd (hr.mono (by decide)) hG rfl mTd kTd bTd .nil pass0 (pa_cons pe_int (pa_cons (pe_lst (pa_cons (pv 3) (pa_cons (pe_op (r := rRepF K) op_repF (pv 4) pe_int) pa_nil))) pa_nil))) (pa_cons (pe_callGd GTd (hr.mono (by decide)) hG rfl mTd kTd bTd .nil pass0 (pa_cons pe_int (pa_cons (pe_lst (pa_cons (pv 3) (pa_cons (pv 4) (pa_cons (pv 3) (pa_cons (pv 4) (pa_cons pe_int pa_nil)))))) pa_nil))) (pa_cons (pe_callGd GTd (hr.mono (by decide)) hG rfl mTd kTd bTd .nil pass0 (pa_cons pe_int (pa_cons (pe_lst (pa_cons (pv 3) (pa_cons (pe_tup pa_nil) (pa_cons (pv 3) (pa_cons (pe_tup pa_nil) pa_nil))))) pa_nil))) pa_nil))))))
    (pss_one (ps_ret (pe_cmpR (r := rEqD K) (op_eqD hr.units) (pv 5) (pe_op op_rep (pe_lst (pa_cons (pe_lst (pa_cons pe_str pa_nil)) pa_nil)) pe_int) (by rfl))))))))))))))))))))), ?_⟩
  refine ⟨_, rfl, a, ns, 0, rfl, by decide, L, fun g H1 s1 n1 gen1 => ?_⟩
  refine ⟨_, rfl, g, 4, _, rfl, by decide, gen1, by decide, fun v S H2 D0 low k2 A2 A2' gen2 => ?_⟩
  obtain ⟨t, ma, ca, ia, fa, rs, rfl, ht, hma, hca, hia, hfa, tp⟩ := id A2'
  have c2 : Same (del H2 g) H2 := del_le
  have sq2 : SqT K H2 t [.str "store", .ref ma, .ref ca, .ref ia, .ref fa] := .inl (.inl (c2 _ _ ht))
  -- the store with one item more
  refine ⟨_, rfl, t, _, 0, .str "store", rfl, rfl, sq2, atI_nat (j := 0) rfl, _, rfl, t, _, 1, .ref ma, rfl, rfl, sq2, atI_nat (j := 1) rfl, _, rfl, t, _, 2, .ref ca, rfl, rfl, sq2, atI_nat (j := 2) rfl, _, rfl, t, _, 3, .ref ia, rfl, rfl, sq2, atI_nat (j := 3) rfl, by show 1 ≤ sizeLine; decide, fun q1 nq1 => ?_⟩
  have b1 := same_new nq1 (o := .lst [V.int 1])
  have f1 : L2.upd H2 q1 (.lst [V.int 1]) q1 = some (.lst [V.int 1]) := upd_same
  generalize L2.upd H2 q1 (.lst [V.int 1]) = H3 at b1 f1 ⊢
  refine ⟨_, rfl, t, _, 3, .ref ia, rfl, rfl, DQ.Same.seqT b1 sq2, atI_nat (j := 3) rfl, q1, ia, [.int 1], S.items.map V.int, rfl, rfl, f1, b1 _ _ (c2 _ _ hia), Nat.le_trans (show 1 + (S.items.map V.int).length ≤ 10 by rw [List.length_map]; have := D0.few; omega) (by decide), fun q2 nq2 => ?_⟩
  have b2 := same_new nq2 (o := .lst ([V.int 1] ++ S.items.map V.int))
  have f2 : L2.upd H3 q2 (.lst ([V.int 1] ++ S.items.map V.int)) q2 = some (.lst ((1 :: S.items).map V.int)) := upd_same
  generalize L2.upd H3 q2 (.lst ([V.int 1] ++ S.items.map V.int)) = H4 at b2 f2 ⊢
  have eLast : atI ((1 :: S.items).map V.int) (-1) = some (.int (lastOf S.items)) := at_last
  refine ⟨_, rfl, q2, _, _, _, rfl, rfl, SqL.of f2, eLast, _, _, rfl, rfl, by show 1 ≤ sizeLine; decide, fun q3 nq3 => ?_⟩
  have b3 := same_new nq3 (o := .lst [V.int (lastOf S.items + 1)])
  have f3 : L2.upd H4 q3 (.lst [V.int (lastOf S.items + 1)]) q3 = some (.lst [V.int (lastOf S.items + 1)]) := upd_same
  generalize L2.upd H4 q3 (.lst [V.int (lastOf S.items + 1)]) = H5 at b3 f3 ⊢
  have s5 : Same H2 H5 := (b1.trans b2).trans b3
  refine ⟨ia, q3, S.items.map V.int, [.int (lastOf S.items + 1)], rfl, rfl, s5 _ _ (c2 _ _ hia), f3, Nat.le_trans (show (S.items.map V.int).length + 1 ≤ 10 by rw [List.length_map]; have := D0.few; omega) (by decide), fun ia2 nia2 => ?_⟩
  have b4 := same_new nia2 (o := .lst (S.items.map V.int ++ [V.int (lastOf S.items + 1)]))
  have f4 : L2.upd H5 ia2 (.lst (S.items.map V.int ++ [V.int (lastOf S.items + 1)])) ia2 = some (.lst (S.one.items.map V.int)) := by rw [upd_same]; simp [Store.one]
  have gen5 := gen2.same s5
  have nia2g : ia2 ≠ g := gen5.ne nia2
  generalize L2.upd H5 ia2 (.lst (S.items.map V.int ++ [V.int (lastOf S.items + 1)])) = H6 at b4 f4 ⊢
  refine ⟨_, rfl, t, _, 4, .ref fa, rfl, rfl, DQ.Same.seqT (s5.trans b4) sq2, atI_nat (j := 4) rfl, nil_read ⟨by show 5 ≤ sizeLine; decide, fun st nst => ?_⟩⟩
  have b5 := same_new nst (o := .tup [.str "store", .ref ma, .ref ca, .ref ia2, .ref fa])
  have f5 : L2.upd H6 st (.tup [.str "store", .ref ma, .ref ca, .ref ia2, .ref fa]) st = some (.tup [.str "store", .ref ma, .ref ca, .ref ia2, .ref fa]) := upd_same
  generalize L2.upd H6 st (.tup [.str "store", .ref ma, .ref ca, .ref ia2, .ref fa]) = H7 at b5 f5 ⊢
  have s7 : Same H2 H7 := (s5.trans b4).trans b5
  have gen7 := gen2.same s7
  obtain ⟨D1, hl, l0⟩ := one_drawn D0 low
  have stg : st ≠ g := fun e => by
    obtain ⟨_, _, _, eg, _⟩ := gen7
    rw [e, eg] at f5
    cases f5
  have k7 : Same (del H2 g) (del H7 g) := keep_del (Keep.of_same s7)
  have dl : ∀ {x : Addr} {o : HO}, x ≠ g → H7 x = some o → del H7 g x = some o := fun ne h => by rw [del_ne ne]; exact h
  have AD : StoAt (del H7 g) (.ref st) S.one := ⟨st, ma, ca, ia2, fa, rs, rfl, dl stg f5, k7 _ _ hma, k7 _ _ hca, dl nia2g (b5 _ _ f4), k7 _ _ hfa, tp.keep (tk_same k7)⟩
  have ne1 : S.one.items ≠ [] := by simp [Store.one]
  have few1 := D1.few
  -- a row of one item
  refine ⟨_, rfl, _, rfl, st, _, 3, .ref ia2, rfl, rfl, .inl (.inl f5), atI_nat (j := 3) rfl, nil_read ⟨g, ia2, S.one.items, _, rfl, SqL.of (b5 _ _ f4), nia2g, ne1, by omega, gen7, by decide, fun i H8 hi gen8 b8 => ?_⟩⟩
  refine ⟨by show 1 ≤ sizeLine; decide, fun rp ro nrp tro => ?_⟩
  have b9 := same_new nrp (o := .frz ro (.tup [V.int i]))
  have kt9 : KTup (L2.upd H8 rp (.frz ro (.tup [V.int i]))) rp (([i] : List Int).map V.int) := ⟨ro, tro, upd_same⟩
  generalize L2.upd H8 rp (.frz ro (.tup [V.int i])) = H9 at b9 kt9 ⊢
  have A9 : StoAt H9 (.ref st) S.one := stoAt_same b9 (stoAt_same ((keep_del (Keep.of_but b8)).trans del_le) AD)
  have R9 : RowOf K H9 5 S.one (.ref st) rp [i] := ⟨D1, A9, .of kt9, by show 1 ≤ 4; decide, fun x hx => by rw [List.mem_singleton.mp hx]; exact hi⟩
  -- good arguments
  refine ⟨_, rfl, _, rfl, _, rfl, _, rfl, by show 6 ≤ sizeLine; decide, fun gd ngd => ?_⟩
  have b10 := same_new ngd (o := .lst [.ref st, .ref rp, .ref st, .ref rp, .int 1, .non])
  have f10 : L2.upd H9 gd (.lst [.ref st, .ref rp, .ref st, .ref rp, .int 1, .non]) gd = some (.lst [.ref st, .ref rp, .ref st, .ref rp, .int 1, .non]) := upd_same
  generalize L2.upd H9 gd (.lst [.ref st, .ref rp, .ref st, .ref rp, .int 1, .non]) = H10 at b10 f10 ⊢
  have R := R9.same b10
  clear R9 A9 AD kt9 f5 f4 dl k7
  have e10 : ((((List.set (L2.start NLw [V.ref a]) 1 (some (V.ref g))).set 2 (some (V.ref t))).set 3 (some (V.ref st))).set 4 (some (V.ref rp))).set 5 (some (V.ref gd)) = [some (.ref a), some (.ref g), some (.ref t), some (.ref st), some (.ref rp), some (.ref gd), none, none, none, none, none, none, none, none] := rfl
  obtain ⟨x0, xr, e0⟩ : ∃ x0 xr, S.one.items = x0 :: xr := by
    cases h : S.one.items with
    | nil => exact absurd h ne1
    | cons x r => exact ⟨x, r, rfl⟩
  have fgd := f10
  obtain ⟨st', ma, ca, ia, fa, rs, e, hst, hma, hca, hia, hfa, tp⟩ := id R.sto
  cases e
  refine gset_cut (fun σ' H' => ∃ y6, σ' = [some (.ref a), some (.ref g), some (.ref t), some (.ref st), some (.ref rp), some (.ref gd), y6, none, none, none, none, none, none, none] ∧ Same H10 H') (fun D' hD => ?_) (fun σ' H' hP => ?_)
  · rw [e10]
    refine ⟨by decide, fun o1 no1 => ?_⟩
    have b1 := same_new no1 (o := .lst [])
    have f1 : L2.upd H10 o1 (.lst []) o1 = some (.lst []) := upd_same
    generalize L2.upd H10 o1 (.lst []) = J1 at b1 f1 ⊢
    refine ⟨by decide, fun o2 no2 => ?_⟩
    have b2 := same_new no2 (o := .tup [])
    have f2 : L2.upd J1 o2 (.tup []) o2 = some (.tup []) := upd_same
    generalize L2.upd J1 o2 (.tup []) = J2 at b2 f2 ⊢
    refine fun o3 no3 => ?_
    have b3 := same_new no3 (o := .dK [])
    have f3 : L2.upd J2 o3 (.dK []) o3 = some (.dK []) := upd_same
    generalize L2.upd J2 o3 (.dK []) = J3 at b3 f3 ⊢
    refine ⟨_, rfl, st, _, rfl, .inr (.inl (.inl (((b1.trans b2).trans b3) _ _ hst))), fun o4 no4 => ?_⟩
    have b4 := same_new no4 (o := .lst [.str "store", .ref ma, .ref ca, .ref ia, .ref fa])
    have f4 : L2.upd J3 o4 (.lst [.str "store", .ref ma, .ref ca, .ref ia, .ref fa]) o4 = some (.lst [.str "store", .ref ma, .ref ca, .ref ia, .ref fa]) := upd_same
    generalize L2.upd J3 o4 (.lst [.str "store", .ref ma, .ref ca, .ref ia, .ref fa]) = J4 at b4 f4 ⊢
    refine ⟨_, rfl, _, rfl, st, _, rfl, (.inl (.inl ((((b1.trans b2).trans b3).trans b4) _ _ hst))), (fun z => absurd (show (4 : Nat) = 5 from z.2) (by decide)), fun o5 no5 => ?_⟩
    have b5 := same_new no5 (o := .tup (cutV [.str "store", .ref ma, .ref ca, .ref ia, .ref fa] none (some 4)))
    have f5 : L2.upd J4 o5 (.tup (cutV [.str "store", .ref ma, .ref ca, .ref ia, .ref fa] none (some 4))) o5 = some (.tup [.str "store", .ref ma, .ref ca, .ref ia]) := upd_same
    generalize L2.upd J4 o5 (.tup (cutV [.str "store", .ref ma, .ref ca, .ref ia, .ref fa] none (some 4))) = J5 at b5 f5 ⊢
    refine ⟨_, rfl, by show 1 ≤ sizeLine; decide, fun o6 no6 => ?_⟩
    have b6 := same_new no6 (o := .tup [.int 0])
    have f6 : L2.upd J5 o6 (.tup [.int 0]) o6 = some (.tup [.int 0]) := upd_same
    generalize L2.upd J5 o6 (.tup [.int 0]) = J6 at b6 f6 ⊢
    refine ⟨st, o6, _, _, rfl, rfl, (.inl (.inl ((((((b1.trans b2).trans b3).trans b4).trans b5).trans b6) _ _ hst))), .inl (.inl f6), (fun e => nomatch e), by show 6 ≤ sizeLine; decide, (fun e => nomatch e), fun _ => fun o7 no7 => ?_⟩
    have b7 := same_new no7 (o := .tup ([.str "store", .ref ma, .ref ca, .ref ia, .ref fa] ++ [.int 0]))
    have f7 : L2.upd J6 o7 (.tup ([.str "store", .ref ma, .ref ca, .ref ia, .ref fa] ++ [.int 0])) o7 = some (.tup [.str "store", .ref ma, .ref ca, .ref ia, .ref fa, .int 0]) := upd_same
    generalize L2.upd J6 o7 (.tup ([.str "store", .ref ma, .ref ca, .ref ia, .ref fa] ++ [.int 0])) = J7 at b7 f7 ⊢
    refine ⟨_, rfl, _, rfl, st, _, rfl, (.inl (.inl (((((((b1.trans b2).trans b3).trans b4).trans b5).trans b6).trans b7) _ _ hst))), (fun z => absurd (show (3 : Nat) = 5 from z.2) (by decide)), fun o8 no8 => ?_⟩
    have b8 := same_new no8 (o := .tup (cutV [.str "store", .ref ma, .ref ca, .ref ia, .ref fa] none (some 3)))
    have f8 : L2.upd J7 o8 (.tup (cutV [.str "store", .ref ma, .ref ca, .ref ia, .ref fa] none (some 3))) o8 = some (.tup [.str "store", .ref ma, .ref ca]) := upd_same
    generalize L2.upd J7 o8 (.tup (cutV [.str "store", .ref ma, .ref ca, .ref ia, .ref fa] none (some 3))) = J8 at b8 f8 ⊢
    refine ⟨_, rfl, st, _, 3, .ref ia, rfl, rfl, (.inl (.inl ((((((((b1.trans b2).trans b3).trans b4).trans b5).trans b6).trans b7).trans b8) _ _ hst))), atI_nat (j := 3) rfl, _, rfl, st, _, 3, .ref ia, rfl, rfl, (.inl (.inl ((((((((b1.trans b2).trans b3).trans b4).trans b5).trans b6).trans b7).trans b8) _ _ hst))), atI_nat (j := 3) rfl, _, rfl, ia, _, rfl, SqL.of ((((((((b1.trans b2).trans b3).trans b4).trans b5).trans b6).trans b7).trans b8) _ _ hia), fun o9 no9 => ?_⟩
    have b9 := same_new no9 (o := .lst (cutV (S.one.items.map V.int) none (some 1)))
    have f9 : L2.upd J8 o9 (.lst (cutV (S.one.items.map V.int) none (some 1))) o9 = some (.lst [V.int x0]) := by rw [upd_same, e0]; rfl
    generalize L2.upd J8 o9 (.lst (cutV (S.one.items.map V.int) none (some 1))) = J9 at b9 f9 ⊢
    refine ⟨ia, o9, _, _, rfl, rfl, ((((((((b1.trans b2).trans b3).trans b4).trans b5).trans b6).trans b7).trans b8).trans b9) _ _ hia, f9, Nat.le_trans (show (S.one.items.map V.int).length + 1 ≤ 10 by rw [List.length_map]; omega) (by decide), fun o10 no10 => ?_⟩
    have b10 := same_new no10 (o := .lst (S.one.items.map V.int ++ [V.int x0]))
    have f10 : L2.upd J9 o10 (.lst (S.one.items.map V.int ++ [V.int x0])) o10 = some (.lst ((S.one.items ++ [x0]).map V.int)) := by rw [upd_same, List.map_append]; rfl
    generalize L2.upd J9 o10 (.lst (S.one.items.map V.int ++ [V.int x0])) = J10 at b10 f10 ⊢
    refine ⟨by decide, fun o11 no11 => ?_⟩
    have b11 := same_new no11 (o := .lst [])
    have f11 : L2.upd J10 o11 (.lst []) o11 = some (.lst []) := upd_same
    generalize L2.upd J10 o11 (.lst []) = J11 at b11 f11 ⊢
    refine nil_read ⟨by show 2 ≤ sizeLine; decide, fun o12 no12 => ?_⟩
    have b12 := same_new no12 (o := .tup [.ref o10, .ref o11])
    have f12 : L2.upd J11 o12 (.tup [.ref o10, .ref o11]) o12 = some (.tup [.ref o10, .ref o11]) := upd_same
    generalize L2.upd J11 o12 (.tup [.ref o10, .ref o11]) = J12 at b12 f12 ⊢
    refine ⟨o8, o12, _, _, rfl, rfl, .inl (.inl ((((b9.trans b10).trans b11).trans b12) _ _ f8)), .inl (.inl f12), (fun e => nomatch e), by show 5 ≤ sizeLine; decide, (fun e => nomatch e), fun _ => fun o13 no13 => ?_⟩
    have b13 := same_new no13 (o := .tup ([.str "store", .ref ma, .ref ca] ++ [.ref o10, .ref o11]))
    have f13 : L2.upd J12 o13 (.tup ([.str "store", .ref ma, .ref ca] ++ [.ref o10, .ref o11])) o13 = some (.tup [.str "store", .ref ma, .ref ca, .ref o10, .ref o11]) := upd_same
    generalize L2.upd J12 o13 (.tup ([.str "store", .ref ma, .ref ca] ++ [.ref o10, .ref o11])) = J13 at b13 f13 ⊢
    refine ⟨_, rfl, _, rfl, st, _, rfl, (.inl (.inl (((((((((((((b1.trans b2).trans b3).trans b4).trans b5).trans b6).trans b7).trans b8).trans b9).trans b10).trans b11).trans b12).trans b13) _ _ hst))), (fun z => absurd (show (4 : Nat) = 5 from z.2) (by decide)), fun o14 no14 => ?_⟩
    have b14 := same_new no14 (o := .tup (cutV [.str "store", .ref ma, .ref ca, .ref ia, .ref fa] none (some 4)))
    have f14 : L2.upd J13 o14 (.tup (cutV [.str "store", .ref ma, .ref ca, .ref ia, .ref fa] none (some 4))) o14 = some (.tup [.str "store", .ref ma, .ref ca, .ref ia]) := upd_same
    generalize L2.upd J13 o14 (.tup (cutV [.str "store", .ref ma, .ref ca, .ref ia, .ref fa] none (some 4))) = J14 at b14 f14 ⊢
    refine ⟨by show 1 ≤ sizeLine; decide, fun o15 no15 => ?_⟩
    have b15 := same_new no15 (o := .tup [.non])
    have f15 : L2.upd J14 o15 (.tup [.non]) o15 = some (.tup [.non]) := upd_same
    generalize L2.upd J14 o15 (.tup [.non]) = J15 at b15 f15 ⊢
    refine ⟨o14, o15, _, _, rfl, rfl, .inl (.inl (b15 _ _ f14)), .inl (.inl f15), (fun e => nomatch e), by show 5 ≤ sizeLine; decide, (fun e => nomatch e), fun _ => fun o16 no16 => ?_⟩
    have b16 := same_new no16 (o := .tup ([.str "store", .ref ma, .ref ca, .ref ia] ++ [.non]))
    have f16 : L2.upd J15 o16 (.tup ([.str "store", .ref ma, .ref ca, .ref ia] ++ [.non])) o16 = some (.tup [.str "store", .ref ma, .ref ca, .ref ia, .non]) := upd_same
    generalize L2.upd J15 o16 (.tup ([.str "store", .ref ma, .ref ca, .ref ia] ++ [.non])) = J16 at b16 f16 ⊢
    refine ⟨by show 1 ≤ sizeLine; decide, fun o17 no17 => ?_⟩
    have b17 := same_new no17 (o := .tup [.int 0])
    have f17 : L2.upd J16 o17 (.tup [.int 0]) o17 = some (.tup [.int 0]) := upd_same
    generalize L2.upd J16 o17 (.tup [.int 0]) = J17 at b17 f17 ⊢
    refine ⟨_, rfl, _, rfl, st, _, rfl, (.inl (.inl (((((((((((((((((b1.trans b2).trans b3).trans b4).trans b5).trans b6).trans b7).trans b8).trans b9).trans b10).trans b11).trans b12).trans b13).trans b14).trans b15).trans b16).trans b17) _ _ hst))), (fun z => absurd (show (1 : Nat) = 0 from z.1) (by decide)), fun o18 no18 => ?_⟩
    have b18 := same_new no18 (o := .tup (cutV [.str "store", .ref ma, .ref ca, .ref ia, .ref fa] (some 1) none))
    have f18 : L2.upd J17 o18 (.tup (cutV [.str "store", .ref ma, .ref ca, .ref ia, .ref fa] (some 1) none)) o18 = some (.tup [.ref ma, .ref ca, .ref ia, .ref fa]) := upd_same
    generalize L2.upd J17 o18 (.tup (cutV [.str "store", .ref ma, .ref ca, .ref ia, .ref fa] (some 1) none)) = J18 at b18 f18 ⊢
    refine ⟨o17, o18, _, _, rfl, rfl, .inl (.inl (b18 _ _ f17)), .inl (.inl f18), (fun e => nomatch e), by show 5 ≤ sizeLine; decide, (fun e => nomatch e), fun _ => fun o19 no19 => ?_⟩
    have b19 := same_new no19 (o := .tup ([.int 0] ++ [.ref ma, .ref ca, .ref ia, .ref fa]))
    have f19 : L2.upd J18 o19 (.tup ([.int 0] ++ [.ref ma, .ref ca, .ref ia, .ref fa])) o19 = some (.tup [.int 0, .ref ma, .ref ca, .ref ia, .ref fa]) := upd_same
    generalize L2.upd J18 o19 (.tup ([.int 0] ++ [.ref ma, .ref ca, .ref ia, .ref fa])) = J19 at b19 f19 ⊢
    refine nil_read ⟨by show 13 ≤ sizeLine; decide, fun o20 no20 => ?_⟩
    have b20 := same_new no20 (o := .lst [V.non, .int 0, .str "store", .ref o1, .ref o2, .ref o3, .bl true, .ref o4, .ref o5, .ref o7, .ref o13, .ref o16, .ref o19])
    have f20 : L2.upd J19 o20 (.lst [V.non, .int 0, .str "store", .ref o1, .ref o2, .ref o3, .bl true, .ref o4, .ref o5, .ref o7, .ref o13, .ref o16, .ref o19]) o20 = some (.lst [V.non, .int 0, .str "store", .ref o1, .ref o2, .ref o3, .bl true, .ref o4, .ref o5, .ref o7, .ref o13, .ref o16, .ref o19]) := upd_same
    generalize L2.upd J19 o20 (.lst [V.non, .int 0, .str "store", .ref o1, .ref o2, .ref o3, .bl true, .ref o4, .ref o5, .ref o7, .ref o13, .ref o16, .ref o19]) = J20 at b20 f20 ⊢
    have W : Same H10 J20 := (((((((((((((((((((b1.trans b2).trans b3).trans b4).trans b5).trans b6).trans b7).trans b8).trans b9).trans b10).trans b11).trans b12).trans b13).trans b14).trans b15).trans b16).trans b17).trans b18).trans b19).trans b20)
    have dM : Dp K J20 (.ref ma) (.list (S.one.marks.map PyData.str)) := .lst (SqL.of (W _ _ hma)) (dp_texts _)
    have dC : Dp K J20 (.ref ca) (.list (S.one.columns.map PyData.str)) := .lst (SqL.of (W _ _ hca)) (dp_texts _)
    have dI : Dp K J20 (.ref ia) (.list (S.one.items.map PyData.int)) := .lst (SqL.of (W _ _ hia)) (dp_intsL _)
    have dF : Dp K J20 (.ref fa) (.list (S.one.facts.map Fact.d)) := .lst (SqL.of (W _ _ hfa)) (dp_facts (tp.keep (tk_same W)))
    obtain ⟨q1, q2, q3, q4, q5⟩ := smz_parts D1 (by decide)
    have q6 : SmZ 10 100 (.int 0) := (sm_int (by decide) (by decide)).z.mono (by decide) (by decide)
    have q7 : SmZ 10 65000 (.list ((S.one.items ++ [x0]).map PyData.int)) := (sm_items (ns := S.one.items ++ [x0]) (fun x hx => by
      rcases List.mem_append.mp hx with h | h
      · exact D1.items.2 x h
      · rw [List.mem_singleton.mp h]
        exact D1.items.2 x0 (by rw [e0]; exact List.mem_cons_self ..)) (by rw [List.length_append, List.length_singleton]; omega)).z.mono (by decide) (by decide)
    have q8 : SmZ 10 10 .none := sm_none.z.mono (by decide) (by decide)
    have q9 : SmZ 10 10 (.list []) := (smzl_nil (k := 0)).list.mono (by decide) (by decide)
    have le := Nat.le_refl 10
    have odds : ∀ x ∈ [V.non, .int 0, .str "store", .ref o1, .ref o2, .ref o3, .bl true, .ref o4, .ref o5, .ref o7, .ref o13, .ref o16, .ref o19], OddS K J20 x := by
      intro x hx
      simp only [List.mem_cons, List.not_mem_nil, or_false] at hx
      rcases hx with rfl | rfl | rfl | rfl | rfl | rfl | rfl | rfl | rfl | rfl | rfl | rfl | rfl
      · exact oddS_of .non (q8.mono (by decide) (by decide)) (fun _ e => nomatch e)
      · exact oddS_of (.int 0) (q6.mono (by decide) (by decide)) (fun _ e => nomatch e)
      · exact oddS_of (.str _) (q1.mono (by decide) (by decide)) (fun _ e => nomatch e)
      · exact oddS_of (.lst (SqL.of (((((((((((((((((((b2.trans b3).trans b4).trans b5).trans b6).trans b7).trans b8).trans b9).trans b10).trans b11).trans b12).trans b13).trans b14).trans b15).trans b16).trans b17).trans b18).trans b19).trans b20) _ _ f1)) .nil) (q9.mono (by decide) (by decide)) (fun _ e => nomatch e)
      · exact oddS_of (.tup (.inl (.inl ((((((((((((((((((b3.trans b4).trans b5).trans b6).trans b7).trans b8).trans b9).trans b10).trans b11).trans b12).trans b13).trans b14).trans b15).trans b16).trans b17).trans b18).trans b19).trans b20) _ _ f2))) .nil) ((smzl_nil (k := 0)).tuple.mono (by decide) (by decide)) (fun _ e => by injection e with e; subst e; decide)
      · exact oddS_of (.dct (((((((((((((((((b4.trans b5).trans b6).trans b7).trans b8).trans b9).trans b10).trans b11).trans b12).trans b13).trans b14).trans b15).trans b16).trans b17).trans b18).trans b19).trans b20) _ _ f3)) (smz_dct.mono (by decide) (by decide)) (fun _ e => nomatch e)
      · exact oddS_of (.bl true) ((sm_bool true).z.mono (by decide) (by decide)) (fun _ e => nomatch e)
      · exact oddS_of (.lst (SqL.of ((((((((((((((((b5.trans b6).trans b7).trans b8).trans b9).trans b10).trans b11).trans b12).trans b13).trans b14).trans b15).trans b16).trans b17).trans b18).trans b19).trans b20) _ _ f4)) (.cons (.str _) (.cons dM (.cons dC (.cons dI (.cons dF .nil)))))) (((q1.cons (q2.cons (q3.cons (q4.cons (q5.cons smzl_nil le) le) le) le) le).list).mono (by decide) (by decide)) (fun _ e => nomatch e)
      · exact oddS_of (.tup (.inl (.inl (((((((((((((((b6.trans b7).trans b8).trans b9).trans b10).trans b11).trans b12).trans b13).trans b14).trans b15).trans b16).trans b17).trans b18).trans b19).trans b20) _ _ f5))) (.cons (.str _) (.cons dM (.cons dC (.cons dI .nil))))) (((q1.cons (q2.cons (q3.cons (q4.cons smzl_nil le) le) le) le).tuple).mono (by decide) (by decide)) (fun _ e => by injection e with e; subst e; exact show (4 : Nat) ≠ 5 by decide)
      · exact oddS_of (.tup (.inl (.inl (((((((((((((b8.trans b9).trans b10).trans b11).trans b12).trans b13).trans b14).trans b15).trans b16).trans b17).trans b18).trans b19).trans b20) _ _ f7))) (.cons (.str _) (.cons dM (.cons dC (.cons dI (.cons dF (.cons (.int 0) .nil))))))) (((q1.cons (q2.cons (q3.cons (q4.cons (q5.cons (q6.cons smzl_nil le) le) le) le) le) le).tuple).mono (by decide) (by decide)) (fun _ e => by injection e with e; subst e; exact show (6 : Nat) ≠ 5 by decide)
      · refine ⟨_, .tup (.inl (.inl (((((((b14.trans b15).trans b16).trans b17).trans b18).trans b19).trans b20) _ _ f13))) (.cons (.str _) (.cons dM (.cons dC (.cons (.lst (SqL.of ((((((((((b11.trans b12).trans b13).trans b14).trans b15).trans b16).trans b17).trans b18).trans b19).trans b20) _ _ f10)) (dp_intsL _)) (.cons (.lst (SqL.of (((((((((b12.trans b13).trans b14).trans b15).trans b16).trans b17).trans b18).trans b19).trans b20) _ _ f11)) .nil) .nil))))), ((q1.cons (q2.cons (q3.cons (q7.cons (q9.cons smzl_nil le) le) le) le) le).tuple).mono (by decide) (by decide), ?_⟩
        refine odd5 D1 (((((((b14.trans b15).trans b16).trans b17).trans b18).trans b19).trans b20) _ _ f13) (.str _) (by decide +kernel) (W _ _ hma) (W _ _ hca) (.lst (SqL.of ((((((((((b11.trans b12).trans b13).trans b14).trans b15).trans b16).trans b17).trans b18).trans b19).trans b20) _ _ f10)) (dp_intsL _)) (ints_fit (by rw [List.length_append, List.length_singleton]; omega)) (df := .list []) (.inl ⟨_, [], [], rfl, rfl, SqL.of (((((((((b12.trans b13).trans b14).trans b15).trans b16).trans b17).trans b18).trans b19).trans b20) _ _ f11), .nil, by decide, (fun _ h => nomatch h), fun fs e => ?_⟩) ?_
        · cases fs with
          | nil => exact .nil
          | cons => cases e
        · unfold isStoreD
          rw [show ascB (listD (.list ((S.one.items ++ [x0]).map PyData.int))) = false from asc_twice (by rw [e0]; rfl) D1.items.1]
          simp only [Bool.false_and, Bool.and_false]
      · refine ⟨_, .tup (.inl (.inl ((((b17.trans b18).trans b19).trans b20) _ _ f16))) (.cons (.str _) (.cons dM (.cons dC (.cons dI (.cons .non .nil))))), ((q1.cons (q2.cons (q3.cons (q4.cons (q8.cons smzl_nil le) le) le) le) le).tuple).mono (by decide) (by decide), ?_⟩
        refine odd5 D1 ((((b17.trans b18).trans b19).trans b20) _ _ f16) (.str _) (by decide +kernel) (W _ _ hma) (W _ _ hca) dI (ints_fit (by omega)) (.inr ⟨.non, by simp only [isT, tyN]; decide⟩) ?_
        unfold isStoreD
        rw [show ∀ a b c, areFactsD a b c PyData.none = false from fun _ _ _ => rfl]
        simp only [Bool.and_false]
      · refine ⟨_, .tup (.inl (.inl (b20 _ _ f19))) (.cons (.int 0) (.cons dM (.cons dC (.cons dI (.cons dF .nil))))), ((q6.cons (q2.cons (q3.cons (q4.cons (q5.cons smzl_nil le) le) le) le) le).tuple).mono (by decide) (by decide), ?_⟩
        refine odd5 D1 (b20 _ _ f19) (.int 0) (by decide +kernel) (W _ _ hma) (W _ _ hca) dI (ints_fit (by omega)) (facts_at D1 (W _ _ hfa) (tp.keep (tk_same W))) ?_
        unfold isStoreD
        rw [show PyData.eqv (.int 0) (.str "store") = false by decide +kernel, Bool.false_and]
    refine ⟨o20, rfl, ⟨_, SqL.of f20⟩, for_list (K := K) (a := o20) (xs := [V.non, .int 0, .str "store", .ref o1, .ref o2, .ref o3, .bl true, .ref o4, .ref o5, .ref o7, .ref o13, .ref o16, .ref o19]) (fun k σ H' => ∃ y6, σ = [some (.ref a), some (.ref g), some (.ref t), some (.ref st), some (.ref rp), some (.ref gd), y6, none, none, none, none, none, none, none] ∧ Same J20 H') ⟨none, rfl, fun _ _ h => h⟩ (fun k σ H3 _ hP => ?_) (fun k x σ H3 hx hP => ?_) fun σ H3 hP => ?_⟩
    · obtain ⟨_, _, s3⟩ := hP
      exact SqL.of (s3 _ _ f20)
    · obtain ⟨y, rfl, s3⟩ := hP
      obtain ⟨d, hdp, sm, no⟩ := (odds x (List.mem_of_getElem? hx)).same s3
      have R3 := R.same (W.trans s3)
      have f3 := s3 _ _ (W _ _ fgd)
      refine g_three (fun R hR => ?_) (fun H4 s4 R hR => ?_) (fun H4 s4 R hR => ?_) fun H4 s4 => ⟨_, rfl, s3.trans s4⟩
      · exact all_call (C := C0) [0, 1] [] [x, .ref rp, .int 1] (fun Q' q => ⟨by show 2 ≤ sizeLine; decide, fun p np => q p np⟩) (fun H' Q' _ q => ⟨by decide, fun p np => q p np⟩) rfl (fun H' Q' _ q => ⟨_, rfl, _, rfl, by show 3 ≤ sizeLine; decide, fun p np => q p _ (same_new np) upd_same⟩)
          (if_pos rfl) (by decide) (by decide) (by simp) hdp sm (by simp) (ref_first no (.inl ⟨by decide, by simp⟩)) hR
      · exact all_call (C := C0) [2, 3] [] [.ref st, .ref rp, .ref st, .ref rp, .int 1, .non] (fun Q' q => ⟨by show 2 ≤ sizeLine; decide, fun p np => q p np⟩) (fun H' Q' _ q => ⟨by decide, fun p np => q p np⟩) rfl (fun H' Q' s q => ⟨_, rfl, q _ _ (fun _ _ h => h) (s _ _ (s4 _ _ f3))⟩)
          (if_pos rfl) (by decide) (by decide) (by simp) (dp_same s4 _ _ hdp) sm (by simp) (ref_first (no.same s4) (.inr ⟨by decide, by simp⟩)) hR
      · exact all_call (C := C0) [2, 3] [.ref st, .ref rp] [.ref st, .ref rp, .ref st, .ref rp, .int 1, .non] (fun Q' q => ⟨by show 2 ≤ sizeLine; decide, fun p np => q p np⟩) (fun H' Q' _ q => ⟨_, rfl, _, rfl, by show 2 ≤ sizeLine; decide, fun p np => q p np⟩) rfl (fun H' Q' s q => ⟨_, rfl, q _ _ (fun _ _ h => h) (s _ _ (s4 _ _ f3))⟩)
          (if_pos rfl) (by decide) (by simp) (by simp) (dp_same s4 _ _ hdp) sm (by simp) (ref_second (by decide) (R3.same s4) (.inl ⟨no.same s4, rfl⟩) (by simp)) hR
    · obtain ⟨y, rfl, s3⟩ := hP
      exact hD _ _ ⟨_, rfl, W.trans s3⟩
    
  · have wL : wordAt C0 CL CU CL = "list" := by
      simp only [List.nodup_cons, List.mem_cons, List.not_mem_nil, or_false, not_or] at ndC
      simp [wordAt, Ne.symm ndC.1.1]
    have wU : wordAt C0 CL CU CU = "unlike" := by
      simp only [List.nodup_cons, List.mem_cons, List.not_mem_nil, or_false, not_or] at ndC
      simp [wordAt, Ne.symm ndC.1.2.1, Ne.symm ndC.2.1.1]
    have wN : wordAt C0 CL CU CN = "number" := by
      simp only [List.nodup_cons, List.mem_cons, List.not_mem_nil, or_false, not_or] at ndC
      simp [wordAt, Ne.symm ndC.1.2.2, Ne.symm ndC.2.1.2, Ne.symm ndC.2.2.1]
    obtain ⟨y6, rfl, sA⟩ := hP
    have RA := R.same sA
    have fA := sA _ _ fgd
    have li0 : S.one.items[0]? = some x0 := by rw [e0]; rfl
    have x0b := D1.items.2 x0 (by rw [e0]; exact List.mem_cons_self ..)
    -- the rows that are none
    refine try_cut (fun σ'' H'' => ∃ y6, σ'' = [some (.ref a), some (.ref g), some (.ref t), some (.ref st), some (.ref rp), some (.ref gd), y6, none, none, none, none, none, none, none] ∧ Same H' H'') (fun D'' hD => ?_) (fun σ'' H'' hP => ?_)
    · refine ⟨_, rfl, nil_read ⟨.ref st, S.one, x0, lastOf S.items + 1, rfl, RA.sto, li0, at_end, x0b.1, x0b.2, by omega, hl, fun Lp rs HB sB fL dpR => ?_⟩⟩
      have no := wrongs_no (far_out D0) (i := x0)
      have smR := wrongs_sm (i := x0) (f := lastOf S.items + 1 + 1) x0b.1 (by omega) (by omega) (by omega)
      refine ⟨Lp, rfl, ⟨_, SqL.of fL⟩, for_list (K := K) (a := Lp) (xs := rs) (fun k σ J => ∃ y6, σ = [some (.ref a), some (.ref g), some (.ref t), some (.ref st), some (.ref rp), some (.ref gd), y6, none, none, none, none, none, none, none] ∧ Same HB J) ⟨y6, rfl, fun _ _ h => h⟩ (fun k σ H3 _ hP => ?_) (fun k x σ H3 hx hP => ?_) fun σ H3 hP => ?_⟩
      · obtain ⟨_, _, s3⟩ := hP
        exact SqL.of (s3 _ _ fL)
      · obtain ⟨y, rfl, s3⟩ := hP
        obtain ⟨d, hd, hdp⟩ := dp_at dpR hx
        have hm := List.mem_of_getElem? hd
        have sm := smR d hm
        have nd := no d hm
        have hdp := dp_same s3 _ _ hdp
        have R3 := RA.same (sB.trans s3)
        have f3 := s3 _ _ (sB _ _ fA)
        refine g_three (fun R hR => ?_) (fun H4 s4 R hR => ?_) (fun H4 s4 R hR => ?_) fun H4 s4 => ⟨_, rfl, s3.trans s4⟩
        · exact all_call (C := CL) [0, 1] [.ref st] [.ref st, x, .int 1] (fun Q' q => ⟨by show 2 ≤ sizeLine; decide, fun p np => q p np⟩) (fun H' Q' _ q => ⟨_, rfl, by show 1 ≤ sizeLine; decide, fun p np => q p np⟩) rfl (fun H' Q' _ q => ⟨_, rfl, _, rfl, by show 3 ≤ sizeLine; decide, fun p np => q p _ (same_new np) upd_same⟩)
            wL (by decide) (by simp) (by simp) hdp sm (by simp) (ref_row (by decide) R3.drawn R3.sto hdp nd (.inl ⟨by decide, by simp⟩)) hR
        · exact all_call (C := CL) [2, 3] [.ref st] [.ref st, .ref rp, .ref st, .ref rp, .int 1, .non] (fun Q' q => ⟨by show 2 ≤ sizeLine; decide, fun p np => q p np⟩) (fun H' Q' _ q => ⟨_, rfl, by show 1 ≤ sizeLine; decide, fun p np => q p np⟩) rfl (fun H' Q' s q => ⟨_, rfl, q _ _ (fun _ _ h => h) (s _ _ (s4 _ _ f3))⟩)
            wL (by decide) (by simp) (by simp) (dp_same s4 _ _ hdp) sm (by simp) (ref_row (by decide) R3.drawn (R3.same s4).sto (dp_same s4 _ _ hdp) nd (.inr ⟨by decide, by simp⟩)) hR
        · exact all_call (C := CL) [2, 3] [.ref st, .ref rp, .ref st] [.ref st, .ref rp, .ref st, .ref rp, .int 1, .non] (fun Q' q => ⟨by show 2 ≤ sizeLine; decide, fun p np => q p np⟩) (fun H' Q' _ q => ⟨_, rfl, _, rfl, _, rfl, by show 3 ≤ sizeLine; decide, fun p np => q p np⟩) rfl (fun H' Q' s q => ⟨_, rfl, q _ _ (fun _ _ h => h) (s _ _ (s4 _ _ f3))⟩)
            wL (by decide) (by simp) (by simp) (dp_same s4 _ _ hdp) sm (by simp) (ref_secRow (by decide) (R3.same s4) (dp_same s4 _ _ hdp) (.inl ⟨nd, rfl⟩) (by simp)) hR
      · obtain ⟨y, rfl, s3⟩ := hP
        exact hD _ _ ⟨_, rfl, sB.trans s3⟩
    obtain ⟨z6, rfl, sB⟩ := hP
    have sAB := sA.trans sB
    have RB := R.same sAB
    have fB := sAB _ _ fgd
    have c1 : S.columns.length = 1 ∨ S.columns.length = 2 := by
      obtain ⟨j, h1, hj, ej⟩ := D0.columns
      rw [ej, List.length_take, show (["next", "below"] : List Str).length = 2 from rfl]
      omega
    -- other columns
    refine set_cut (fun v J => ∃ q, v = .ref q ∧ Same H'' J ∧ J q = some (.lst ((otherCols S.columns).map V.str))) (fun R hR => ?_) (fun v HC hv => ?_)
    · have hst' : ∀ {J : Hp}, Same H'' J → SqT K J st [.str "store", .ref ma, .ref ca, .ref ia, .ref fa] := fun s => .inl (.inl (s _ _ (sAB _ _ hst)))
      have hca' : H'' ca = some (.lst (S.columns.map V.str)) := sAB _ _ hca
      have r0 : Same H'' H'' := fun _ _ h => h
      refine ⟨_, rfl, st, _, 2, .ref ca, rfl, rfl, hst' r0, atI_nat (j := 2) rfl, ca, _, rfl, .inl (SqL.of hca'), ?_⟩
      refine ⟨_, _, rfl, rfl, _, rfl, ite2 (fun c => ?_) (fun c => ?_)⟩
      · have c : ((S.columns.map V.str).length : Int) < 2 := of_decide_eq_true c
        rw [List.length_map] at c
        refine ⟨_, rfl, st, _, 2, .ref ca, rfl, rfl, hst' r0, atI_nat (j := 2) rfl, by show 1 ≤ sizeLine; decide, fun p np => ⟨ca, p, _, _, rfl, rfl, (same_new np) _ _ hca', upd_same, Nat.le_trans (show (S.columns.map V.str).length + 1 ≤ 10 by rw [List.length_map]; omega) (by decide), fun q nq => hR _ _ ⟨q, rfl, (same_new np).trans (same_new nq), ?_⟩⟩⟩
        rw [upd_same]
        unfold otherCols
        rw [if_pos (by omega), List.map_append]
        rfl
      · have c : ¬ ((S.columns.map V.str).length : Int) < 2 := of_decide_eq_false (by simpa using c)
        rw [List.length_map] at c
        refine ⟨_, rfl, st, _, 2, .ref ca, rfl, rfl, hst' r0, atI_nat (j := 2) rfl, _, rfl, ca, _, rfl, SqL.of hca', fun q nq => hR _ _ ⟨q, rfl, same_new nq, ?_⟩⟩
        rw [upd_same, cut_take (by decide)]
        unfold otherCols
        rw [if_neg (by omega), List.map_take]
        rfl
    obtain ⟨q7, rfl, sC, f7⟩ := hv
    have sAC := sAB.trans sC
    have RC := R.same sAC
    have fC := sAC _ _ fgd
    refine try_cut (fun σ3 J => ∃ y6, σ3 = [some (.ref a), some (.ref g), some (.ref t), some (.ref st), some (.ref rp), some (.ref gd), y6, some (.ref q7), none, none, none, none, none, none] ∧ Same HC J) (fun D3 hD => ?_) (fun σ3 HD hP => ?_)
    · have stC := sAC _ _ hst
      have maC := sAC _ _ hma
      have caC := sAC _ _ hca
      refine ⟨_, rfl, st, _, 1, .ref ma, rfl, rfl, (.inl (.inl stC)), atI_nat (j := 1) rfl, by show 1 ≤ sizeLine; decide, fun u1 nu1 => ?_⟩
      have c1 := same_new nu1 (o := .lst [V.str "extra"])
      have h1 : L2.upd HC u1 (.lst [V.str "extra"]) u1 = some (.lst [V.str "extra"]) := upd_same
      generalize L2.upd HC u1 (.lst [V.str "extra"]) = M1 at c1 h1 ⊢
      refine ⟨ma, u1, _, _, rfl, rfl, (c1 _ _ maC), h1, Nat.le_trans (show (S.marks.map V.str).length + 1 ≤ 20 by rw [List.length_map]; have := D0.fewMarks; omega) (by decide), fun u2 nu2 => ?_⟩
      have c2 := same_new nu2 (o := .lst (S.one.marks.map V.str ++ [V.str "extra"]))
      have h2 : L2.upd M1 u2 (.lst (S.one.marks.map V.str ++ [V.str "extra"])) u2 = some (.lst ((S.marks ++ [("extra" : Str)]).map V.str)) := by rw [upd_same, List.map_append]; rfl
      generalize L2.upd M1 u2 (.lst (S.one.marks.map V.str ++ [V.str "extra"])) = M2 at c2 h2 ⊢
      refine ⟨_, rfl, st, _, 2, .ref ca, rfl, rfl, (.inl (.inl ((c1.trans c2) _ _ stC))), atI_nat (j := 2) rfl, by decide, fun u3 nu3 => ?_⟩
      have c3 := same_new nu3 (o := .lst [])
      have h3 : L2.upd M2 u3 (.lst []) u3 = some (.lst []) := upd_same
      generalize L2.upd M2 u3 (.lst []) = M3 at c3 h3 ⊢
      refine ⟨by decide, fun u4 nu4 => ?_⟩
      have c4 := same_new nu4 (o := .lst [])
      have h4 : L2.upd M3 u4 (.lst []) u4 = some (.lst []) := upd_same
      generalize L2.upd M3 u4 (.lst []) = M4 at c4 h4 ⊢
      refine nil_read ⟨by show 5 ≤ sizeLine; decide, fun u5 nu5 => ?_⟩
      have c5 := same_new nu5 (o := .tup [.str "store", .ref u2, .ref ca, .ref u3, .ref u4])
      have h5 : L2.upd M4 u5 (.tup [.str "store", .ref u2, .ref ca, .ref u3, .ref u4]) u5 = some (.tup [.str "store", .ref u2, .ref ca, .ref u3, .ref u4]) := upd_same
      generalize L2.upd M4 u5 (.tup [.str "store", .ref u2, .ref ca, .ref u3, .ref u4]) = M5 at c5 h5 ⊢
      refine ⟨_, rfl, st, _, 1, .ref ma, rfl, rfl, (.inl (.inl (((((c1.trans c2).trans c3).trans c4).trans c5) _ _ stC))), atI_nat (j := 1) rfl, _, rfl, by decide, fun u6 nu6 => ?_⟩
      have c6 := same_new nu6 (o := .lst [])
      have h6 : L2.upd M5 u6 (.lst []) u6 = some (.lst []) := upd_same
      generalize L2.upd M5 u6 (.lst []) = M6 at c6 h6 ⊢
      refine ⟨by decide, fun u7 nu7 => ?_⟩
      have c7 := same_new nu7 (o := .lst [])
      have h7 : L2.upd M6 u7 (.lst []) u7 = some (.lst []) := upd_same
      generalize L2.upd M6 u7 (.lst []) = M7 at c7 h7 ⊢
      refine nil_read ⟨by show 5 ≤ sizeLine; decide, fun u8 nu8 => ?_⟩
      have c8 := same_new nu8 (o := .tup [.str "store", .ref ma, .ref q7, .ref u6, .ref u7])
      have h8 : L2.upd M7 u8 (.tup [.str "store", .ref ma, .ref q7, .ref u6, .ref u7]) u8 = some (.tup [.str "store", .ref ma, .ref q7, .ref u6, .ref u7]) := upd_same
      generalize L2.upd M7 u8 (.tup [.str "store", .ref ma, .ref q7, .ref u6, .ref u7]) = M8 at c8 h8 ⊢
      refine ⟨_, rfl, st, _, 1, .ref ma, rfl, rfl, (.inl (.inl ((((((((c1.trans c2).trans c3).trans c4).trans c5).trans c6).trans c7).trans c8) _ _ stC))), atI_nat (j := 1) rfl, ?_⟩
      refine ⟨_, rfl, st, _, 2, .ref ca, rfl, rfl, (.inl (.inl ((((((((c1.trans c2).trans c3).trans c4).trans c5).trans c6).trans c7).trans c8) _ _ stC))), atI_nat (j := 2) rfl, _, rfl, ca, _, rfl, SqL.of ((((((((c1.trans c2).trans c3).trans c4).trans c5).trans c6).trans c7).trans c8) _ _ caC), fun u9 nu9 => ?_⟩
      have c9 := same_new nu9 (o := .lst (cutV (S.one.columns.map V.str) none (some 0)))
      have h9 : L2.upd M8 u9 (.lst (cutV (S.one.columns.map V.str) none (some 0))) u9 = some (.lst (([] : List Str).map V.str)) := by rw [upd_same, cut_take (by decide)]; rfl
      generalize L2.upd M8 u9 (.lst (cutV (S.one.columns.map V.str) none (some 0))) = M9 at c9 h9 ⊢
      refine ⟨by decide, fun u10 nu10 => ?_⟩
      have c10 := same_new nu10 (o := .lst [])
      have h10 : L2.upd M9 u10 (.lst []) u10 = some (.lst []) := upd_same
      generalize L2.upd M9 u10 (.lst []) = M10 at c10 h10 ⊢
      refine ⟨by decide, fun u11 nu11 => ?_⟩
      have c11 := same_new nu11 (o := .lst [])
      have h11 : L2.upd M10 u11 (.lst []) u11 = some (.lst []) := upd_same
      generalize L2.upd M10 u11 (.lst []) = M11 at c11 h11 ⊢
      refine nil_read ⟨by show 5 ≤ sizeLine; decide, fun u12 nu12 => ?_⟩
      have c12 := same_new nu12 (o := .tup [.str "store", .ref ma, .ref u9, .ref u10, .ref u11])
      have h12 : L2.upd M11 u12 (.tup [.str "store", .ref ma, .ref u9, .ref u10, .ref u11]) u12 = some (.tup [.str "store", .ref ma, .ref u9, .ref u10, .ref u11]) := upd_same
      generalize L2.upd M11 u12 (.tup [.str "store", .ref ma, .ref u9, .ref u10, .ref u11]) = M12 at c12 h12 ⊢
      refine nil_read ⟨by show 3 ≤ sizeLine; decide, fun u13 nu13 => ?_⟩
      have c13 := same_new nu13 (o := .lst [V.ref u5, .ref u8, .ref u12])
      have h13 : L2.upd M12 u13 (.lst [V.ref u5, .ref u8, .ref u12]) u13 = some (.lst [V.ref u5, .ref u8, .ref u12]) := upd_same
      generalize L2.upd M12 u13 (.lst [V.ref u5, .ref u8, .ref u12]) = M13 at c13 h13 ⊢
      have wM := ((((((((((((c1.trans c2).trans c3).trans c4).trans c5).trans c6).trans c7).trans c8).trans c9).trans c10).trans c11).trans c12).trans c13)
      have oth : ∀ x ∈ [V.ref u5, .ref u8, .ref u12], ∃ p dn, x = .ref p ∧ Dp K M13 x dn ∧ SmZ 60 500000 dn ∧ ∃ dm, StoG K M13 x dm ∧ PyData.eqv (nameD S.one) dm = false := by
        have ok := others_ok D0
        unfold othersOk at ok
        simp only [List.all_cons, List.all_nil, Bool.and_eq_true, Bool.and_true, Bool.not_eq_true'] at ok
        obtain ⟨⟨k1, n1, y1⟩, ⟨k2, n2, y2⟩, k3, n3, y3⟩ := ok
        intro x hx
        simp only [List.mem_cons, List.not_mem_nil, or_false] at hx
        rcases hx with rfl | rfl | rfl
        · exact ⟨u5, _, rfl, .tup (.inl (.inl ((((((((c6.trans c7).trans c8).trans c9).trans c10).trans c11).trans c12).trans c13) _ _ h5))) (.cons (.str _) (.cons (.lst (SqL.of (((((((((((c3.trans c4).trans c5).trans c6).trans c7).trans c8).trans c9).trans c10).trans c11).trans c12).trans c13) _ _ h2)) (dp_texts _)) (.cons (.lst (SqL.of (wM _ _ caC)) (dp_texts _)) (.cons (.lst (SqL.of ((((((((((c4.trans c5).trans c6).trans c7).trans c8).trans c9).trans c10).trans c11).trans c12).trans c13) _ _ h3)) .nil) (.cons (.lst (SqL.of (((((((((c5.trans c6).trans c7).trans c8).trans c9).trans c10).trans c11).trans c12).trans c13) _ _ h4)) .nil) .nil))))), (tiny y1).mono (by decide) (by decide), _, stoG_words ((((((((c6.trans c7).trans c8).trans c9).trans c10).trans c11).trans c12).trans c13) _ _ h5) (((((((((((c3.trans c4).trans c5).trans c6).trans c7).trans c8).trans c9).trans c10).trans c11).trans c12).trans c13) _ _ h2) (wM _ _ caC) ((((((((((c4.trans c5).trans c6).trans c7).trans c8).trans c9).trans c10).trans c11).trans c12).trans c13) _ _ h3) (((((((((c5.trans c6).trans c7).trans c8).trans c9).trans c10).trans c11).trans c12).trans c13) _ _ h4) k1, n1⟩
        · exact ⟨u8, _, rfl, .tup (.inl (.inl (((((c9.trans c10).trans c11).trans c12).trans c13) _ _ h8))) (.cons (.str _) (.cons (.lst (SqL.of (wM _ _ maC)) (dp_texts _)) (.cons (.lst (SqL.of (wM _ _ f7)) (dp_texts _)) (.cons (.lst (SqL.of (((((((c7.trans c8).trans c9).trans c10).trans c11).trans c12).trans c13) _ _ h6)) .nil) (.cons (.lst (SqL.of ((((((c8.trans c9).trans c10).trans c11).trans c12).trans c13) _ _ h7)) .nil) .nil))))), (tiny y2).mono (by decide) (by decide), _, stoG_words (((((c9.trans c10).trans c11).trans c12).trans c13) _ _ h8) (wM _ _ maC) (wM _ _ f7) (((((((c7.trans c8).trans c9).trans c10).trans c11).trans c12).trans c13) _ _ h6) ((((((c8.trans c9).trans c10).trans c11).trans c12).trans c13) _ _ h7) k2, n2⟩
        · exact ⟨u12, _, rfl, .tup (.inl (.inl (c13 _ _ h12))) (.cons (.str _) (.cons (.lst (SqL.of (wM _ _ maC)) (dp_texts _)) (.cons (.lst (SqL.of ((((c10.trans c11).trans c12).trans c13) _ _ h9)) (dp_texts _)) (.cons (.lst (SqL.of (((c11.trans c12).trans c13) _ _ h10)) .nil) (.cons (.lst (SqL.of ((c12.trans c13) _ _ h11)) .nil) .nil))))), (tiny y3).mono (by decide) (by decide), _, stoG_words (c13 _ _ h12) (wM _ _ maC) ((((c10.trans c11).trans c12).trans c13) _ _ h9) (((c11.trans c12).trans c13) _ _ h10) ((c12.trans c13) _ _ h11) k3, n3⟩
      refine ⟨u13, rfl, ⟨_, SqL.of h13⟩, for_list (K := K) (a := u13) (xs := [V.ref u5, .ref u8, .ref u12]) (fun k σ J => ∃ y6, σ = [some (.ref a), some (.ref g), some (.ref t), some (.ref st), some (.ref rp), some (.ref gd), y6, some (.ref q7), none, none, none, none, none, none] ∧ Same M13 J) ⟨z6, rfl, fun _ _ h => h⟩ (fun k σ H3 _ hP => ?_) (fun k x σ H3 hx hP => ?_) fun σ H3 hP => ?_⟩
      · obtain ⟨_, _, s3⟩ := hP
        exact SqL.of (s3 _ _ h13)
      · obtain ⟨y, rfl, s3⟩ := hP
        obtain ⟨p, dn, rfl, hdp, sm, dm, G, ne⟩ := oth x (List.mem_of_getElem? hx)
        have R3 := RC.same (wM.trans s3)
        have f3 := s3 _ _ (wM _ _ fC)
        refine g_one (fun R hR => ?_) fun H4 s4 => ⟨_, rfl, s3.trans s4⟩
        exact all_call (C := CU) [2, 3] [.ref st, .ref rp] [.ref st, .ref rp, .ref st, .ref rp, .int 1, .non] (fun Q' q => ⟨by show 2 ≤ sizeLine; decide, fun p np => q p np⟩) (fun H' Q' _ q => ⟨_, rfl, _, rfl, by show 2 ≤ sizeLine; decide, fun p np => q p np⟩) rfl (fun H' Q' s q => ⟨_, rfl, q _ _ (fun _ _ h => h) (s _ _ f3)⟩)
          wU (by decide) (by simp) (by simp) (dp_same s3 _ _ hdp) sm (by simp) (ref_second (by decide) R3 (.inr ⟨dm, G.same s3, ne, rfl⟩) (by simp)) hR
      · obtain ⟨y, rfl, s3⟩ := hP
        exact hD _ _ ⟨_, rfl, wM.trans s3⟩
    obtain ⟨w6, rfl, sD⟩ := hP
    have sAD := sAC.trans sD
    have RD := R.same sAD
    have fD := sAD _ _ fgd
    refine try_cut (fun σ3 J => ∃ y6, σ3 = [some (.ref a), some (.ref g), some (.ref t), some (.ref st), some (.ref rp), some (.ref gd), y6, some (.ref q7), none, none, none, none, none, none] ∧ Same HD J) (fun D3 hE => ?_) (fun σ3 HE hP => ?_)
    · have sqD := RD.at_.sq
      refine ⟨by decide, fun u1 nu1 => ?_⟩
      have c1 := same_new nu1 (o := .tup [])
      have h1 : L2.upd HD u1 (.tup []) u1 = some (.tup []) := upd_same
      generalize L2.upd HD u1 (.tup []) = M1 at c1 h1 ⊢
      refine ⟨_, rfl, rp, 2, .int i, rfl, rfl, DQ.Same.seqT c1 sqD, by decide, by decide, fun u2 ob2 nu2 tu2 => ?_⟩
      have c2 := same_new nu2 (o := .frz ob2 (.tup (List.replicate 2 [V.int i]).flatten))
      have h2 : L2.upd M1 u2 (.frz ob2 (.tup (List.replicate 2 [V.int i]).flatten)) u2 = some (.frz ob2 (.tup ([i, i].map V.int))) := upd_same
      generalize L2.upd M1 u2 (.frz ob2 (.tup (List.replicate 2 [V.int i]).flatten)) = M2 at c2 h2 ⊢
      refine ⟨_, rfl, rp, 4, .int i, rfl, rfl, DQ.Same.seqT (c1.trans c2) sqD, by decide, by decide, fun u3 ob3 nu3 tu3 => ?_⟩
      have c3 := same_new nu3 (o := .frz ob3 (.tup (List.replicate 4 [V.int i]).flatten))
      have h3 : L2.upd M2 u3 (.frz ob3 (.tup (List.replicate 4 [V.int i]).flatten)) u3 = some (.frz ob3 (.tup ([i, i, i, i].map V.int))) := upd_same
      generalize L2.upd M2 u3 (.frz ob3 (.tup (List.replicate 4 [V.int i]).flatten)) = M3 at c3 h3 ⊢
      refine nil_read ⟨by show 3 ≤ sizeLine; decide, fun u4 nu4 => ?_⟩
      have c4 := same_new nu4 (o := .lst [V.ref u1, .ref u2, .ref u3])
      have h4 : L2.upd M3 u4 (.lst [V.ref u1, .ref u2, .ref u3]) u4 = some (.lst [V.ref u1, .ref u2, .ref u3]) := upd_same
      generalize L2.upd M3 u4 (.lst [V.ref u1, .ref u2, .ref u3]) = M4 at c4 h4 ⊢
      have wM := (((c1.trans c2).trans c3).trans c4)
      have qi : SmZ 10 100 (.int i) := (sm_int (by have := D1.items.2 i hi; omega) (by have := D1.items.2 i hi; omega)).z.mono (by decide) (by decide)
      have le := Nat.le_refl 10
      have nl := smzl_nil (k := 10)
      have RM := RD.same wM
      have mi : ∀ x ∈ [i, i, i, i], x ∈ S.one.items := fun x hx => by
        simp only [List.mem_cons, List.not_mem_nil, or_false, or_self] at hx
        rw [hx]
        exact hi
      have rows : ∀ x ∈ [V.ref u1, .ref u2, .ref u3], ∃ p sec, x = .ref p ∧ RowOf K M4 5 S.one (.ref st) p sec ∧ sec.length ≠ 1 ∧ SmZ 60 500000 (rowI sec) := by
        intro x hx
        simp only [List.mem_cons, List.not_mem_nil, or_false] at hx
        rcases hx with rfl | rfl | rfl
        · exact ⟨u1, [], rfl, ⟨D1, RM.sto, rowAt_nil (((c2.trans c3).trans c4) _ _ h1), by decide, fun _ h => nomatch h⟩, by decide, (smzl_nil (k := 0)).tuple.mono (by decide) (by decide)⟩
        · exact ⟨u2, [i, i], rfl, ⟨D1, RM.sto, .of ⟨ob2, tu2, ((c3.trans c4) _ _ h2)⟩, by show 2 ≤ 4; decide, fun x hx => mi x (by simp only [List.mem_cons, List.not_mem_nil, or_false, or_self] at hx ⊢; exact hx)⟩, by show 2 ≠ 1; decide, ((qi.cons (qi.cons nl le) le).tuple).mono (by decide) (by decide)⟩
        · exact ⟨u3, [i, i, i, i], rfl, ⟨D1, RM.sto, .of ⟨ob3, tu3, (c4 _ _ h3)⟩, by show 4 ≤ 4; decide, mi⟩, by show 4 ≠ 1; decide, ((qi.cons (qi.cons (qi.cons (qi.cons nl le) le) le) le).tuple).mono (by decide) (by decide)⟩
      refine ⟨u4, rfl, ⟨_, SqL.of h4⟩, for_list (K := K) (a := u4) (xs := [V.ref u1, .ref u2, .ref u3]) (fun k σ J => ∃ y6, σ = [some (.ref a), some (.ref g), some (.ref t), some (.ref st), some (.ref rp), some (.ref gd), y6, some (.ref q7), none, none, none, none, none, none] ∧ Same M4 J) ⟨w6, rfl, fun _ _ h => h⟩ (fun k σ H3 _ hP => ?_) (fun k x σ H3 hx hP => ?_) fun σ H3 hP => ?_⟩
      · obtain ⟨_, _, s3⟩ := hP
        exact SqL.of (s3 _ _ h4)
      · obtain ⟨y, rfl, s3⟩ := hP
        obtain ⟨p, sec, rfl, Rs, ne, sm⟩ := rows x (List.mem_of_getElem? hx)
        have R3 := RM.same s3
        have Rs3 := Rs.same s3
        have f3 := s3 _ _ (wM _ _ fD)
        refine g_one (fun R hR => ?_) fun H4 s4 => ⟨_, rfl, s3.trans s4⟩
        exact all_call (C := CU) [2, 3] [.ref st, .ref rp, .ref st] [.ref st, .ref rp, .ref st, .ref rp, .int 1, .non] (fun Q' q => ⟨by show 2 ≤ sizeLine; decide, fun p np => q p np⟩) (fun H' Q' _ q => ⟨_, rfl, _, rfl, _, rfl, by show 3 ≤ sizeLine; decide, fun p np => q p np⟩) rfl (fun H' Q' s q => ⟨_, rfl, q _ _ (fun _ _ h => h) (s _ _ f3)⟩)
          wU (by decide) (by simp) (by simp) (rowD_of Rs3).1 sm (by simp) (ref_secRow (by decide) R3 (rowD_of Rs3).1 (.inr ⟨p, sec, rfl, Rs3, ne, rfl⟩) (by simp)) hR
      · obtain ⟨y, rfl, s3⟩ := hP
        exact hE _ _ ⟨_, rfl, wM.trans s3⟩
    obtain ⟨v6, rfl, sE⟩ := hP
    have sAE := sAD.trans sE
    have RE := R.same sAE
    have fE := sAE _ _ fgd
    refine try_cut (fun σ3 J => ∃ y6, σ3 = [some (.ref a), some (.ref g), some (.ref t), some (.ref st), some (.ref rp), some (.ref gd), y6, some (.ref q7), none, none, none, none, none, none] ∧ Same HE J) (fun D3 hF => ?_) (fun σ3 HF hP => ?_)
    · refine ⟨_, rfl, ?_⟩
      refine ⟨by show 1 ≤ sizeLine; decide, fun u1 nu1 => ?_⟩
      have c1 := same_new nu1 (o := .lst [V.int 1])
      have h1 : L2.upd HE u1 (.lst [V.int 1]) u1 = some (.lst [V.int 1]) := upd_same
      generalize L2.upd HE u1 (.lst [V.int 1]) = M1 at c1 h1 ⊢
      refine ⟨by show 1 ≤ sizeLine; decide, fun u2 nu2 => ?_⟩
      have c2 := same_new nu2 (o := .tup [V.int 1])
      have h2 : L2.upd M1 u2 (.tup [V.int 1]) u2 = some (.tup [V.int 1]) := upd_same
      generalize L2.upd M1 u2 (.tup [V.int 1]) = M2 at c2 h2 ⊢
      refine fun u3 nu3 => ?_
      have c3 := same_new nu3 (o := .dK [])
      have h3 : L2.upd M2 u3 (.dK []) u3 = some (.dK []) := upd_same
      generalize L2.upd M2 u3 (.dK []) = M3 at c3 h3 ⊢
      refine ⟨10, 20, rfl, rfl, ⟨by decide, by decide, by decide⟩, ?_⟩
      refine nil_read ⟨by show 10 ≤ sizeLine; decide, fun u4 nu4 => ?_⟩
      have c4 := same_new nu4 (o := .lst [V.non, .int (-1), .bl true, .bl false, .str "1", .ref u1, .ref u2, .ref u3, .int 5, .int (10 ^ Int.toNat 20)])
      have h4 : L2.upd M3 u4 (.lst [V.non, .int (-1), .bl true, .bl false, .str "1", .ref u1, .ref u2, .ref u3, .int 5, .int (10 ^ Int.toNat 20)]) u4 = some (.lst [V.non, .int (-1), .bl true, .bl false, .str "1", .ref u1, .ref u2, .ref u3, .int 5, .int 100000000000000000000]) := upd_same
      generalize L2.upd M3 u4 (.lst [V.non, .int (-1), .bl true, .bl false, .str "1", .ref u1, .ref u2, .ref u3, .int 5, .int (10 ^ Int.toNat 20)]) = M4 at c4 h4 ⊢
      have wM := (((c1.trans c2).trans c3).trans c4)
      have RM := RE.same wM
      have deps : DpAll K M4 [V.non, .int (-1), .bl true, .bl false, .str "1", .ref u1, .ref u2, .ref u3, .int 5, .int 100000000000000000000] depthsOdd := .cons .non (.cons (.int _) (.cons (.bl _) (.cons (.bl _) (.cons (.str _) (.cons (.lst (SqL.of (((c2.trans c3).trans c4) _ _ h1)) (.cons (.int _) .nil)) (.cons (.tup (.inl (.inl ((c3.trans c4) _ _ h2))) (.cons (.int _) .nil)) (.cons (.dct (c4 _ _ h3)) (.cons (.int _) (.cons (.int _) .nil)))))))))
      refine ⟨u4, rfl, ⟨_, SqL.of h4⟩, for_list (K := K) (a := u4) (xs := [V.non, .int (-1), .bl true, .bl false, .str "1", .ref u1, .ref u2, .ref u3, .int 5, .int 100000000000000000000]) (fun k σ J => ∃ y6, σ = [some (.ref a), some (.ref g), some (.ref t), some (.ref st), some (.ref rp), some (.ref gd), y6, some (.ref q7), none, none, none, none, none, none] ∧ Same M4 J) ⟨v6, rfl, fun _ _ h => h⟩ (fun k σ H3 _ hP => ?_) (fun k x σ H3 hx hP => ?_) fun σ H3 hP => ?_⟩
      · obtain ⟨_, _, s3⟩ := hP
        exact SqL.of (s3 _ _ h4)
      · obtain ⟨y, rfl, s3⟩ := hP
        obtain ⟨d, hd, hdp⟩ := dp_at deps hx
        obtain ⟨no, sh, sh2⟩ := depths_odd d (List.mem_of_getElem? hd)
        have hdp := dp_same s3 _ _ hdp
        have R3 := RM.same s3
        have f3 := s3 _ _ (wM _ _ fE)
        rw [← wN] at sh2
        refine g_two (fun R hR => ?_) (fun H4 s4 R hR => ?_) fun H4 s4 => ⟨_, rfl, s3.trans s4⟩
        · exact all_callZ (C := CN) [0] [.ref st, .ref rp] [.ref st, .ref rp, x] (fun Q' q => ⟨by show 1 ≤ sizeLine; decide, fun p np => q p np⟩) (fun H' Q' _ q => ⟨_, rfl, _, rfl, by show 2 ≤ sizeLine; decide, fun p np => q p np⟩) rfl (fun H' Q' _ q => ⟨_, rfl, _, rfl, _, rfl, by show 3 ≤ sizeLine; decide, fun p np => q p _ (same_new np) upd_same⟩)
            wN (by decide) (by simp) (by simp) hdp sh sh2 (by simp) (ref_depth0 (by decide) R3 hdp no (by simp)) hR
        · exact all_callZ (C := CN) [2] [.ref st, .ref rp, .ref st, .ref rp] [.ref st, .ref rp, .ref st, .ref rp, .int 1, .non] (fun Q' q => ⟨by show 1 ≤ sizeLine; decide, fun p np => q p np⟩) (fun H' Q' _ q => ⟨_, rfl, _, rfl, _, rfl, _, rfl, by show 4 ≤ sizeLine; decide, fun p np => q p np⟩) rfl (fun H' Q' s q => ⟨_, rfl, q _ _ (fun _ _ h => h) (s _ _ (s4 _ _ f3))⟩)
            wN (by decide) (by simp) (by simp) (dp_same s4 _ _ hdp) sh sh2 (by simp) (ref_depth2 (by decide) (R3.same s4) (dp_same s4 _ _ hdp) no (by simp)) hR
      · obtain ⟨y, rfl, s3⟩ := hP
        exact hF _ _ ⟨_, rfl, wM.trans s3⟩
    obtain ⟨o6, rfl, sF⟩ := hP
    have sAF := sAE.trans sF
    have RF := R.same sAF
    refine ⟨by show 1 ≤ sizeLine; decide, fun bd nbd => ?_⟩
    have g0 := same_new nbd (o := .lst [V.int 5])
    have fb0 : L2.upd HF bd (.lst [V.int 5]) bd = some (.lst [V.int 5]) := upd_same
    generalize L2.upd HF bd (.lst [V.int 5]) = K0 at g0 fb0 ⊢
    have RK := RF.same g0
    have dpB : Dp K K0 (.ref bd) (.list [.int 5]) := .lst (SqL.of fb0) (.cons (.int 5) .nil)
    have noB : NoStoG K K0 (.ref bd) := noSto_of dpB (fun _ e => nomatch e)
    -- the pairs
    refine gset_set (fun v J => ∃ q rs, v = .ref q ∧ Same K0 J ∧ J q = some (.lst rs) ∧ rs.length = 8 ∧ ∀ v ∈ rs, AskOk K C0 CL CU CN (.ref bd) J v) (fun R hR => ?_) (fun v K1 hv => ?_)
    · refine ⟨4, rfl, by decide, by decide, fun D1 nD1 => ?_⟩
      refine lc_rel (walk_range (lo := 0) (n := 4)) (fun _ J v => AskOk K C0 CL CU CN (.ref bd) J v) (fun _ _ _ _ s h => h.same s) (small1000 (by decide)) nD1 (fun _ _ => trivial) (fun j H' v H'' y => by rw [y.1]; exact fun _ _ h => h) (fun k v H' H'' hk s' hD y R' hR' => ?_) (fun x H' A B m h => m _ _ h) fun J1 rs1 s1 e1 l1 p1 => ?_
      · obtain ⟨rfl, hv⟩ := y
        have hv : v = .int (k : Nat) := hv.trans (congrArg V.int (Int.zero_add _))
        subst hv
        obtain ⟨acc, eD⟩ := hD
        refine ⟨rfl, _, rfl, _, rfl, _, rfl, _, rfl, _, rfl, _, rfl, by show 5 ≤ sizeLine; decide, fun l nl => nil_read ⟨by show 2 ≤ sizeLine; decide, fun t nt => hR' _ _ ((same_new nl).trans (same_new nt)) ?_⟩⟩
        have neL := ne_some nl eD
        have neT := ne_some nt (same_new nl _ _ eD)
        refine ⟨k, t, l, [.ref bd, .ref bd, .ref bd, .ref bd, .ref bd], C0, rfl, by rw [del_ne neT]; exact upd_same, by rw [del_ne neL]; exact same_new nt _ _ upd_same, ?_, by simp⟩
        have z := ref_first (C0 := C0) (CL := CL) (CU := CU) (CN := CN) (ds := [0, 1, 2, 3]) (goods := [.ref bd, .ref bd, .ref bd, .ref bd, .ref bd]) noB (.inr ⟨by decide, by simp⟩) k (lt4 hk) _ (.inr (.inr rfl))
        exact DoorEnds.same z (same_cut ((s'.trans (same_new nl)).trans (same_new nt)) nD1)
      refine ⟨4, rfl, by decide, by decide, fun D2 nD2 => ?_⟩
      refine lc_rel (walk_range (lo := 0) (n := 4)) (fun _ J v => AskOk K C0 CL CU CN (.ref bd) J v) (fun _ _ _ _ s h => h.same s) (small1000 (by decide)) nD2 (fun _ _ => trivial) (fun j H' v H'' y => by rw [y.1]; exact fun _ _ h => h) (fun k v H' H'' hk s' hD y R' hR' => ?_) (fun x H' A B m h => m _ _ h) fun J2 rs2 s2 e2 l2 p2 => ?_
      · obtain ⟨rfl, hv⟩ := y
        have hv : v = .int (k : Nat) := hv.trans (congrArg V.int (Int.zero_add _))
        subst hv
        obtain ⟨acc, eD⟩ := hD
        refine ⟨rfl, _, rfl, _, rfl, _, rfl, _, rfl, _, rfl, _, rfl, by show 5 ≤ sizeLine; decide, fun l nl => nil_read ⟨by show 2 ≤ sizeLine; decide, fun t nt => hR' _ _ ((same_new nl).trans (same_new nt)) ?_⟩⟩
        have neL := ne_some nl eD
        have neT := ne_some nt (same_new nl _ _ eD)
        refine ⟨k, t, l, [.ref st, .ref bd, .ref bd, .ref bd, .ref bd], CL, rfl, by rw [del_ne neT]; exact upd_same, by rw [del_ne neL]; exact same_new nt _ _ upd_same, ?_, by simp⟩
        have z := ref_row (C0 := C0) (CL := CL) (CU := CU) (CN := CN) (ds := [0, 1, 2, 3]) (goods := [.ref bd, .ref bd, .ref bd, .ref bd, .ref bd]) (show 5 ≤ 100 by decide) RK.drawn RK.sto dpB rfl (.inr ⟨by decide, by simp⟩) k (lt4 hk) _ (.inr (.inr rfl))
        exact DoorEnds.same z (same_cut (((s1.trans s').trans (same_new nl)).trans (same_new nt)) (by
          cases h : K0 D2 with
          | none => rfl
          | some o => rw [s1 _ _ h] at nD2; cases nD2))
      refine ⟨D1, D2, rs1, rs2, rfl, rfl, s2 _ _ e1, e2, Nat.le_trans (show rs1.length + rs2.length ≤ 8 by omega) (by decide), fun q nq => hR _ _ ⟨q, rs1 ++ rs2, rfl, (s1.trans s2).trans (same_new nq), upd_same, by rw [List.length_append, l1, l2], fun v hv => ?_⟩⟩
      rcases List.mem_append.mp hv with h | h
      · obtain ⟨j, hj, rfl⟩ := List.mem_iff_getElem.mp h
        exact (p1 j _ (List.getElem?_eq_getElem hj)).same (((del_le (D := D1)).trans s2).trans (same_new nq))
      · obtain ⟨j, hj, rfl⟩ := List.mem_iff_getElem.mp h
        exact (p2 j _ (List.getElem?_eq_getElem hj)).same ((del_le (D := D2)).trans (same_new nq))
    obtain ⟨qa, rs, rfl, sK, fqa, lrs, asks⟩ := hv
    have RK1 := RK.same sK
    -- what is told of them
    refine ⟨_, rfl, _, rfl, _, rfl, _, rfl, _, rfl, _, rfl, by show 5 ≤ sizeLine; decide, fun l1 nl1 => ?_⟩
    have a1 := same_new nl1 (o := .lst [.ref st, .ref rp, .ref st, .ref rp, .ref bd])
    have e1 : L2.upd K1 l1 (.lst [.ref st, .ref rp, .ref st, .ref rp, .ref bd]) l1 = some (.lst [.ref st, .ref rp, .ref st, .ref rp, .ref bd]) := upd_same
    generalize L2.upd K1 l1 (.lst [.ref st, .ref rp, .ref st, .ref rp, .ref bd]) = K2 at a1 e1 ⊢
    refine nil_read ⟨by show 2 ≤ sizeLine; decide, fun t2 nt2 => ?_⟩
    have a2 := same_new nt2 (o := .tup [.int 2, .ref l1])
    have e2 : L2.upd K2 t2 (.tup [.int 2, .ref l1]) t2 = some (.tup [.int 2, .ref l1]) := upd_same
    generalize L2.upd K2 t2 (.tup [.int 2, .ref l1]) = K3 at a2 e2 ⊢
    refine nil_read ⟨by show 1 ≤ sizeLine; decide, fun m3 nm3 => ?_⟩
    have a3 := same_new nm3 (o := .lst [V.ref t2])
    have e3 : L2.upd K3 m3 (.lst [V.ref t2]) m3 = some (.lst [V.ref t2]) := upd_same
    generalize L2.upd K3 m3 (.lst [V.ref t2]) = K4 at a3 e3 ⊢
    have s14 := (a1.trans a2).trans a3
    refine ⟨qa, m3, rs, [.ref t2], rfl, rfl, s14 _ _ fqa, e3, Nat.le_trans (show rs.length + 1 ≤ 9 by omega) (by decide), fun q5 nq5 => ?_⟩
    have a4 := same_new nq5 (o := .lst (rs ++ [V.ref t2]))
    have e4 : L2.upd K4 q5 (.lst (rs ++ [V.ref t2])) q5 = some (.lst (rs ++ [V.ref t2])) := upd_same
    generalize L2.upd K4 q5 (.lst (rs ++ [V.ref t2])) = K5 at a4 e4 ⊢
    have s15 := s14.trans a4
    have sK5 := sK.trans s15
    have RK5 := RK1.same s15
    have fb5 := sK5 _ _ fb0
    have dpB5 := dp_same sK5 _ _ dpB
    have asks9 : ∀ v ∈ rs ++ [V.ref t2], AskOk K C0 CL CU CN (.ref bd) K5 v := fun v hv => by
      rcases List.mem_append.mp hv with h | h
      · exact (asks v h).same s15
      · rw [List.mem_singleton.mp h]
        exact ⟨2, t2, l1, _, CN, rfl, (a3.trans a4) _ _ e2, ((a2.trans a3).trans a4) _ _ e1, ref_depth2 (goods := [.ref bd, .ref bd, .ref bd, .ref bd, .ref bd]) (by decide) RK5 dpB5 rfl (by simp) 2 (by decide) _ (.inr (.inr rfl)), by simp⟩
    refine ⟨q5, rfl, ⟨_, SqL.of e4⟩, fun D3 nD3 => ?_⟩
    refine lc_rel (walk_list (K := K) (a := q5) (xs := rs ++ [V.ref t2])) (fun _ J v => ToldOk bd J v) (fun _ _ _ _ s h => by obtain ⟨T, x, e, n, h⟩ := h; exact ⟨T, x, e, n, s _ _ h⟩) (Nat.lt_of_le_of_lt (show (rs ++ [V.ref t2]).length ≤ 9 by rw [List.length_append, lrs]; exact Nat.le_refl 9) (by decide)) nD3 (fun H' s' => SqL.of (s' _ _ e4)) (fun j H' v H'' y => by rw [y.1]; exact fun _ _ h => h) (fun k v H' H'' hk s' hD y R' hR' => ?_) (fun x H' A B m h => gpairN_mono _ _ _ _ _ m h) fun J1 ts sJ eJ lJ pJ => ?_
    · obtain ⟨rfl, hx⟩ := y
      obtain ⟨acc, eD⟩ := hD
      obtain ⟨door, t, l, gs, C, rfl, h1, h2, h3, h4⟩ := (asks9 v (List.mem_of_getElem? hx)).same s'
      refine ⟨t, _, rfl, .inl (.inl h1), rfl, _, _, rfl, _, _, rfl, rfl, ?_⟩
      refine ⟨rfl, _, rfl, _, rfl, nil_read ⟨door, l, gs, some (C, .ref bd), rfl, SqL.of h2, h3, (fun D b e => by injection e with e; injection e with e _; rw [← e]; exact h4), fun T H4 s4 nT eT => hR' _ _ s4 ⟨T, .str (wordAt C0 CL CU C), rfl, ne_some nT (s' _ _ fb5), ?_⟩⟩⟩
      rw [del_ne (ne_some nT eD)]
      exact eT
    -- the list grows
    have lJ : ts.length = 9 := by rw [lJ, List.length_append, lrs]; rfl
    have fbJ := sJ _ _ fb5
    have neD : D3 ≠ bd := ne_some nD3 fb5
    refine ⟨_, rfl, .inl ⟨rfl, _, SqL.of fbJ⟩, bd, [.int 5], .int 7, rfl, rfl, fbJ, by show 1 < sizeLine; decide, ?_⟩
    have s8 : Same HF (L2.upd J1 bd (.lst ([V.int 5] ++ [V.int 7]))) := same_upd ((g0.trans sK5).trans sJ) nbd
    have fb8 : L2.upd J1 bd (.lst ([V.int 5] ++ [V.int 7])) bd = some (.lst [V.int 5, .int 7]) := upd_same
    have f38 : L2.upd J1 bd (.lst ([V.int 5] ++ [V.int 7])) D3 = some (.lst ts) := by rw [upd_ne neD]; exact eJ
    have p8 : ∀ v ∈ ts, ToldOk bd (L2.upd J1 bd (.lst ([V.int 5] ++ [V.int 7]))) v := fun v hv => by
      obtain ⟨j, hj, rfl⟩ := List.mem_iff_getElem.mp hv
      obtain ⟨T, x, e, n, h⟩ := pJ j _ (List.getElem?_eq_getElem hj)
      exact ⟨T, x, e, n, by rw [upd_ne n]; exact del_le _ _ h⟩
    generalize L2.upd J1 bd (.lst ([V.int 5] ++ [V.int 7])) = K8 at s8 fb8 f38 p8 ⊢
    have R8 := RF.same s8
    clear asks9 asks pJ
    -- the second items
    refine ⟨_, rfl, D3, rfl, ⟨_, SqL.of f38⟩, fun E1 nE1 => lc_vals (walk_list (K := K) (a := D3) (xs := ts)) (List.replicate 9 (.ref bd)) (by rw [List.length_replicate, lJ]) (Nat.lt_of_le_of_lt (show ts.length ≤ 9 by omega) (by decide)) nE1 (fun _ s1 => SqL.of (s1 _ _ f38)) (fun _ _ _ _ y => by rw [y.1]; exact fun _ _ h => h) (fun j v H' H'' b hj hb s1 y R' hR' => ?_) (fun K9 s9 e9 => ?_) (fun _ _ _ _ _ m h => m _ _ h)⟩
    · obtain ⟨rfl, hv⟩ := y
      obtain rfl : b = .ref bd := List.eq_of_mem_replicate (List.mem_of_getElem? hb)
      obtain ⟨T, x, rfl, _, eT⟩ := p8 v (List.mem_of_getElem? hv)
      exact ⟨rfl, _, rfl, T, _, 1, .ref bd, rfl, rfl, SqL.of (s1 _ _ eT), atI_nat (j := 1) rfl, hR' _ fun _ _ h => h⟩
    refine ⟨by show 2 ≤ sizeLine; decide, fun p1 n1 => ⟨by show 1 ≤ sizeLine; decide, fun p2 n2 => ⟨p2, 9, [.ref p1], rfl, rfl, upd_same, by decide, by decide, by show 1 * 9 ≤ sizeLine; decide, fun p3 n3 => ?_⟩⟩⟩
    have b1 := same_new n1 (o := .lst [V.int 5, .int 7])
    have f1 : L2.upd K9 p1 (.lst [V.int 5, .int 7]) p1 = some (.lst [V.int 5, .int 7]) := upd_same
    generalize L2.upd K9 p1 (.lst [V.int 5, .int 7]) = L1 at b1 f1 n2 n3 ⊢
    have b2 := same_new n2 (o := .lst [V.ref p1])
    generalize L2.upd L1 p2 (.lst [V.ref p1]) = L2' at b2 n3 ⊢
    have b3 := same_new n3 (o := .lst (List.replicate (Int.toNat 9) [V.ref p1]).flatten)
    have f3 : L2.upd L2' p3 (.lst (List.replicate (Int.toNat 9) [V.ref p1]).flatten) p3 = some (.lst [.ref p1, .ref p1, .ref p1, .ref p1, .ref p1, .ref p1, .ref p1, .ref p1, .ref p1]) := upd_same
    generalize L2.upd L2' p3 (.lst (List.replicate (Int.toNat 9) [V.ref p1]).flatten) = L3 at b3 f3 ⊢
    have s93 := (b1.trans b2).trans b3
    have dA : Dp K L3 (.ref bd) (.list [.int 5, .int 7]) := .lst (SqL.of (s93 _ _ (s9 _ _ fb8))) (.cons (.int _) (.cons (.int _) .nil))
    have dB : Dp K L3 (.ref p1) (.list [.int 5, .int 7]) := .lst (SqL.of ((b2.trans b3) _ _ f1)) (.cons (.int _) (.cons (.int _) .nil))
    have nine : ∀ {v : V}, Dp K L3 v (.list [.int 5, .int 7]) → DpAll K L3 [v, v, v, v, v, v, v, v, v] nineD := fun h => .cons h (.cons h (.cons h (.cons h (.cons h (.cons h (.cons h (.cons h (.cons h .nil))))))))
    refine ⟨.list nineD, .list nineD, .lst (SqL.of (s93 _ _ e9)) (nine dA), .lst (SqL.of f3) (nine dB), nine_ok.1, nine_ok.1, false, by rw [nine_ok.2]; rfl, iteF' rfl ?_⟩
    refine ⟨rfl, fun M1 t1 => ⟨true, rfl, iteF' rfl ?_⟩⟩
    have sM : Same HF M1 := ((s8.trans s9).trans s93).trans t1
    have RM := RF.same sM
    have w0 : ∀ {T : Addr} {J : Hp}, J T = some (.lst (toldV C0 CL CU none)) → Dp K J (.ref T) (.list [.str "let"]) := fun h => .lst (SqL.of h) (.cons (.str _) .nil)
    clear f3 f1 dA dB nine e9 f38 fb8 p8
    -- what is let: kind
    refine ⟨_, rfl, _, rfl, by show 3 ≤ sizeLine; decide, fun l1 nl1 => ?_⟩
    have b1 := same_new nl1 (o := .lst [V.ref st, .ref rp, .int 4])
    have f1 : L2.upd M1 l1 (.lst [V.ref st, .ref rp, .int 4]) l1 = some (.lst [V.ref st, .ref rp, .int 4]) := upd_same
    generalize L2.upd M1 l1 (.lst [V.ref st, .ref rp, .int 4]) = M2 at b1 f1 ⊢
    have RA1 := RM.same b1
    have RA1 : RowOf K M2 5 S.one (.ref st) rp [i] := RA1
    refine nil_read ⟨0, l1, _, none, rfl, SqL.of f1, .inl ⟨rfl, .ref st, .ref rp, .int 4, rfl, rfl, rfl, .inr ⟨5, S.one, rowI [i], by decide, D1, RA1.sto, (rowD_of RA1).1, .inr ⟨rp, [i], rfl, RA1, .int 4, .int 4, .inr ⟨4, rfl, by decide, rfl⟩⟩⟩⟩, (fun C b e => nomatch e), fun T1 M3 t3 _ eT1 => ?_⟩
    -- atoms
    refine ⟨_, rfl, _, rfl, rp, 4, .int i, rfl, rfl, DQ.Same.seqT (b1.trans t3) RM.at_.sq, by decide, by decide, fun u4 ob4 nu4 tu4 => ?_⟩
    have b4 := same_new nu4 (o := .frz ob4 (.tup (List.replicate 4 [V.int i]).flatten))
    have k4 : KTup (L2.upd M3 u4 (.frz ob4 (.tup (List.replicate 4 [V.int i]).flatten))) u4 (([i, i, i, i] : List Int).map V.int) := ⟨ob4, tu4, upd_same⟩
    generalize L2.upd M3 u4 (.frz ob4 (.tup (List.replicate 4 [V.int i]).flatten)) = M4 at b4 k4 ⊢
    refine ⟨by show 2 ≤ sizeLine; decide, fun l5 nl5 => ?_⟩
    have b5 := same_new nl5 (o := .lst [V.ref st, .ref u4])
    have f5 : L2.upd M4 l5 (.lst [V.ref st, .ref u4]) l5 = some (.lst [V.ref st, .ref u4]) := upd_same
    generalize L2.upd M4 l5 (.lst [V.ref st, .ref u4]) = M5 at b5 f5 ⊢
    have s15 := ((b1.trans t3).trans b4).trans b5
    have R4 : RowOf K M5 5 S.one (.ref st) u4 [i, i, i, i] := ⟨D1, (RM.same s15).sto, .of (k4.same b5), by show 4 ≤ 4; decide, fun x hx => by
      simp only [List.mem_cons, List.not_mem_nil, or_false, or_self] at hx
      rw [hx]
      exact hi⟩
    refine nil_read ⟨1, l5, _, none, rfl, SqL.of f5, .inr (.inl ⟨rfl, .ref st, .ref u4, rfl, rfl, .inr ⟨5, S.one, rowI [i, i, i, i], by decide, D1, R4.sto, (rowD_of R4).1, .inr ⟨u4, _, rfl, R4, rfl⟩⟩⟩), (fun C b e => nomatch e), fun T2 M6 t6 _ eT2 => ?_⟩
    -- alike
    have s16 := s15.trans t6
    refine ⟨_, rfl, _, rfl, _, rfl, _, rfl, by show 5 ≤ sizeLine; decide, fun l7 nl7 => ?_⟩
    have b7 := same_new nl7 (o := .lst [V.ref st, .ref rp, .ref st, .ref rp, .int 4])
    have f7' : L2.upd M6 l7 (.lst [V.ref st, .ref rp, .ref st, .ref rp, .int 4]) l7 = some (.lst [V.ref st, .ref rp, .ref st, .ref rp, .int 4]) := upd_same
    generalize L2.upd M6 l7 (.lst [V.ref st, .ref rp, .ref st, .ref rp, .int 4]) = M7 at b7 f7' ⊢
    have R7 := RM.same (s16.trans b7)
    refine nil_read ⟨2, l7, _, none, rfl, SqL.of f7', .inr (.inr (.inl ⟨rfl, .ref st, .ref rp, .ref st, .ref rp, .int 4, rfl, rfl, rfl, rfl, rfl, .inr ⟨5, S.one, rowI [i], by decide, D1, R7.sto, (rowD_of R7).1, .inr ⟨rp, [i], rfl, R7, .inr ⟨nameD S.one, stoG_of (by decide) D1 R7.sto, .inr ⟨S.one, rowI [i], (name_shaped D1).2, D1, R7.sto, rfl, rfl, (rowD_of R7).1, .inr ⟨rp, [i], rfl, R7, .inr ⟨rfl, .int 4, .int 4, .inr ⟨4, rfl, by decide, rfl⟩⟩⟩⟩⟩⟩⟩⟩)), (fun C b e => nomatch e), fun T3 M8 t8 _ eT3 => ?_⟩
    -- the least depth
    have s18 := (s16.trans b7).trans t8
    refine ⟨_, rfl, by decide, fun u9 nu9 => ⟨_, rfl, by decide, fun u10 nu10 => nil_read ⟨by show 4 ≤ sizeLine; decide, fun l11 nl11 => ?_⟩⟩⟩
    have b9 := same_new nu9 (o := .tup [])
    have f9 : L2.upd M8 u9 (.tup []) u9 = some (.tup []) := upd_same
    generalize L2.upd M8 u9 (.tup []) = M9 at b9 f9 nu10 nl11 ⊢
    have b10 := same_new nu10 (o := .tup [])
    have f10 : L2.upd M9 u10 (.tup []) u10 = some (.tup []) := upd_same
    generalize L2.upd M9 u10 (.tup []) = M10 at b10 f10 nl11 ⊢
    have b11 := same_new nl11 (o := .lst [V.ref st, .ref u9, .ref st, .ref u10])
    have f11 : L2.upd M10 l11 (.lst [V.ref st, .ref u9, .ref st, .ref u10]) l11 = some (.lst [V.ref st, .ref u9, .ref st, .ref u10]) := upd_same
    generalize L2.upd M10 l11 (.lst [V.ref st, .ref u9, .ref st, .ref u10]) = M11 at b11 f11 ⊢
    have A11 := (RM.same (((s18.trans b9).trans b10).trans b11)).sto
    have Ra : RowOf K M11 5 S.one (.ref st) u9 [] := ⟨D1, A11, rowAt_nil ((b10.trans b11) _ _ f9), by decide, fun _ h => nomatch h⟩
    have Rb : RowOf K M11 5 S.one (.ref st) u10 [] := ⟨D1, A11, rowAt_nil (b11 _ _ f10), by decide, fun _ h => nomatch h⟩
    refine nil_read ⟨3, l11, _, none, rfl, SqL.of f11, .inr (.inr (.inr ⟨rfl, .ref st, .ref u9, .ref st, .ref u10, rfl, rfl, rfl, rfl, .inr ⟨5, S.one, rowI [], by decide, D1, A11, (rowD_of Ra).1, .inr ⟨u9, [], rfl, Ra, .inr ⟨nameD S.one, stoG_of (by decide) D1 A11, .inr ⟨S.one, rowI [], (name_shaped D1).2, D1, A11, rfl, rfl, (rowD_of Rb).1, .inr ⟨u10, [], rfl, Rb, .inr ⟨rfl, fun n hn => eqK_refl S.one n hn [], rfl⟩⟩⟩⟩⟩⟩⟩)), (fun C b e => nomatch e), fun T4 M12 t12 _ eT4 => ?_⟩
    have sT := ((b9.trans b10).trans b11).trans t12
    refine nil_read ⟨by show 4 ≤ sizeLine; decide, fun gl ngl => ?_⟩
    have b13 := same_new ngl (o := .lst [V.ref T1, .ref T2, .ref T3, .ref T4])
    have f13 : L2.upd M12 gl (.lst [V.ref T1, .ref T2, .ref T3, .ref T4]) gl = some (.lst [V.ref T1, .ref T2, .ref T3, .ref T4]) := upd_same
    generalize L2.upd M12 gl (.lst [V.ref T1, .ref T2, .ref T3, .ref T4]) = M13 at b13 f13 ⊢
    refine ⟨_, rfl, by show 1 ≤ sizeLine; decide, fun p1 n1 => ⟨by show 1 ≤ sizeLine; decide, fun p2 n2 => ⟨p2, 4, [.ref p1], rfl, rfl, upd_same, by decide, by decide, by show 1 * 4 ≤ sizeLine; decide, fun p3 n3 => ?_⟩⟩⟩
    have b14 := same_new n1 (o := .lst [V.str "let"])
    have f14 : L2.upd M13 p1 (.lst [V.str "let"]) p1 = some (.lst [V.str "let"]) := upd_same
    generalize L2.upd M13 p1 (.lst [V.str "let"]) = M14 at b14 f14 n2 n3 ⊢
    have b15 := same_new n2 (o := .lst [V.ref p1])
    generalize L2.upd M14 p2 (.lst [V.ref p1]) = M15 at b15 n3 ⊢
    have b16 := same_new n3 (o := .lst (List.replicate (Int.toNat 4) [V.ref p1]).flatten)
    have f16 : L2.upd M15 p3 (.lst (List.replicate (Int.toNat 4) [V.ref p1]).flatten) p3 = some (.lst [.ref p1, .ref p1, .ref p1, .ref p1]) := upd_same
    generalize L2.upd M15 p3 (.lst (List.replicate (Int.toNat 4) [V.ref p1]).flatten) = M16 at b16 f16 ⊢
    have sE := ((b13.trans b14).trans b15).trans b16
    have dL : Dp K M16 (.ref p1) (.list [.str "let"]) := .lst (SqL.of ((b15.trans b16) _ _ f14)) (.cons (.str _) .nil)
    refine ⟨.list fourD, .list fourD, .lst (SqL.of (((b14.trans b15).trans b16) _ _ f13)) (.cons (w0 (sE _ _ (sT _ _ (t8 _ _ (b7 _ _ (t6 _ _ (b5 _ _ (b4 _ _ eT1)))))))) (.cons (w0 (sE _ _ (sT _ _ (t8 _ _ (b7 _ _ eT2))))) (.cons (w0 (sE _ _ (sT _ _ eT3))) (.cons (w0 (sE _ _ eT4)) .nil)))), .lst (SqL.of f16) (.cons dL (.cons dL (.cons dL (.cons dL .nil)))), four_ok.1, four_ok.1, ?_⟩
    rw [four_ok.2]
    exact q _
end
end DQ

set_option Elab.async false
set_option linter.all false
set_option maxRecDepth 100000
set_option maxHeartbeats 4000000
namespace DQ
open PySem PySem.Spec PyProof.Rows L2
theorem it5 : InitText (sInit 5) := ⟨_, _, _, _, _, _, _, rfl, rfl, rfl⟩
/-! what is asked of the classes of the errors, list by list -/
def kitA (K : PySem.W.Frag) (l : List Addr) : Bool := l.all fun x => l.all fun y => PySem.W.kitOne K (.ref x) (.ref y) == some (decide (x = y))
def exmA (K : PySem.W.Frag) (l : List Addr) (S : Addr) : Bool := l.all fun x => PySem.W.exmOne K (.ref x) (.ref S) == some true
def kvA (K : PySem.W.Frag) (l : List Addr) : Bool := l.all fun x => PySem.W.kitOne K (.ref x) (.type "ValueError") == some true
def apartA : List Addr → Bool
  | [] => true
  | x :: r => (r.all fun y => !decide (x = y)) && apartA r
theorem kitA_of {K : PySem.W.Frag} {l : List Addr} (h : kitA K l = true) : ∀ C ∈ l, ∀ D ∈ l, PySem.W.kitOne K (.ref C) (.ref D) = some (decide (C = D)) := fun C hC D hD => beq_iff_eq.mp (List.all_eq_true.mp (List.all_eq_true.mp h C hC) D hD)
theorem exmA_of {K : PySem.W.Frag} {l : List Addr} {S : Addr} (h : exmA K l S = true) : ∀ C ∈ l, PySem.W.exmOne K (.ref C) (.ref S) = some true := fun C hC => beq_iff_eq.mp (List.all_eq_true.mp h C hC)
theorem kvA_of {K : PySem.W.Frag} {l : List Addr} (h : kvA K l = true) : ∀ C ∈ l, PySem.W.kitOne K (.ref C) (.type "ValueError") = some true := fun C hC => beq_iff_eq.mp (List.all_eq_true.mp h C hC)
theorem apartA_of : ∀ {l : List Addr}, apartA l = true → l.Nodup
  | [], _ => List.nodup_nil
  | x :: r, h => by
    have h : ((r.all fun y => !decide (x = y)) && apartA r) = true := h
    rw [Bool.and_eq_true] at h
    refine List.nodup_cons.mpr ⟨fun m => ?_, apartA_of h.2⟩
    have z := List.all_eq_true.mp h.1 x m
    simp at z
end DQ

set_option Elab.async false
set_option linter.all false
set_option maxRecDepth 100000
set_option maxHeartbeats 2000000
namespace DQ
open PySem PySem.Spec PyProof.Rows L2
/-! ### the end of a law whose def was shown for calls around which no guard is -/
section
variable {P : Program} {w : World} {K : PySem.W.Frag} {mg nb : Str → Option Value} {j : Nat} {law scr : Addr} {code : FuncData} {par : Str} {asks : Sp} {t : Shared} {its : List Value} {nums : List Int}
/-- the script may be the only thing that is tracked -/
structure Bare (K : PySem.W.Frag) (scr : Addr) (H : Hp) : Prop where
  only : Only H
  self : ∀ b, H b ≠ none → b = scr
  out : H scr ≠ none → K.lookup scr = none
theorem bare_none {H : Hp} (X : Bare K scr H) {b : Addr} {o : Obj} {es : Array DictEntry} {n : Nat} (hs : t.heap.get? scr = some { cls := .type "list", data := .seq its.toArray }) (e : t.heap.get? b = some o) (d : o.data = .dict es n) : H b = none := Classical.byContradiction fun z => by
  have q := X.self b z
  rw [q, hs] at e
  cases e
  exact nomatch d
theorem ends_with (H : Hp) (X : Bare K scr H) (inK : K.In t.heap) (names : t.heap.Ns mainGlobals mg) (bns : t.heap.Ns builtinsNs nb) (boot : ∀ y : Str, y ≠ "__name__" → nb y = bootBuiltins y) (free : t.heap.NoLimit) (noGen : t.gens = #[])
    (hs : t.heap.get? scr = some { cls := .type "list", data := .seq its.toArray }) (room : Room j callerA) (F : ∀ base : Heap, K.In base → base.Ns mainGlobals mg → FnG P w K mg base CX0 j law code [par] asks) (bind : ∀ (s : Shared) (u : Value), BindsTo s code ⟨[u], []⟩ [(par, u)])
    (ok : HOk P w H t.heap) (ask : asks [.ref scr] H (fun v _ => v = .bl true) fun _ _ _ => False) :
    codeAny (model P w) callerA (.call (.ref law) ⟨[.ref scr], []⟩) (fun r u => r = .ok (.ret (.bool true)) ∧ OldK t.heap u.heap ∧ u.os = t.os ∧ AllBare u.gens) t := by
  have kept : ∀ {b : Addr} {m : Str → Option Value}, t.heap.Ns b m → (hidT t.heap H).Ns b m := fun {b m} z => by
    obtain ⟨o, es, n, e, d, r⟩ := z
    exact ⟨o, es, n, hidT_get e (bare_none X hs e d), d, r⟩
  have inK' : K.In (hidT t.heap H) := fun b o e => by
    refine hidT_get (inK b o e) (Classical.byContradiction fun z => ?_)
    have q := X.self b z
    rw [q] at e z
    rw [X.out z] at e
    exact nomatch e
  have mod : Mod K mg (hidT t.heap H) := by
    obtain ⟨mc, l1, l2⟩ := free
    exact ⟨inK', kept names, ⟨nb, kept bns, boot⟩, ⟨mc, kept l1, l2⟩⟩
  have start : Env0 P w K mg (hidT t.heap H) callerA [] t H := ⟨rfl, mod, fun b o => of_hidT, Nat.le_of_eq (hidT_size _ _), trivial, fun b z => absurd (show b ∈ ([] : List Addr) from z) List.not_mem_nil, ok, .of_eq noGen⟩
  have run := (F _ inK' (kept names)).run callerA [] t H ⟨[.ref scr], []⟩ [.ref scr] [.ref scr] _ _ room rfl start (bind t (.ref scr)) (.cons rfl .nil) ask
  refine codeAny_mono run fun r u z => ?_
  match r, z with
  | .error _, z => exact False.elim z
  | .ok .next, z => exact False.elim z
  | .ok .brk, z => exact False.elim z
  | .ok .cont, z => exact False.elim z
  | .ok (.ret y), z =>
    obtain ⟨v, H', os, bare, un, ok', rv, q⟩ := z
    have q : v = .bl true := q
    rw [q] at rv
    obtain rfl : y = Value.bool true := rv
    refine ⟨rfl, OldK.of_keep fun b o e => ?_, os, bare⟩
    cases z : H b with
    | none => exact un.keep b o e z (fun m => absurd (show b ∈ ([] : List Addr) from m) List.not_mem_nil) List.not_mem_nil
    | some f =>
      rcases X.only b with n | ⟨ob, xs, n⟩
      · rw [n] at z
        cases z
      · obtain ⟨e1, _⟩ := ok b _ n
        obtain ⟨e2, _⟩ := ok' b _ (un.frzs b ob _ n)
        rw [e] at e1
        cases e1
        exact e2
theorem ends_of (inK : K.In t.heap) (names : t.heap.Ns mainGlobals mg) (bns : t.heap.Ns builtinsNs nb) (boot : ∀ y : Str, y ≠ "__name__" → nb y = bootBuiltins y) (free : t.heap.NoLimit) (noGen : t.gens = #[])
    (hs : t.heap.get? scr = some { cls := .type "list", data := .seq its.toArray }) (hi : IntsAre its nums) (len : nums.length ≤ sizeLine) (room : Room j callerA) (F : ∀ base : Heap, K.In base → base.Ns mainGlobals mg → FnG P w K mg base CX0 j law code [par] asks)
    (bind : ∀ (s : Shared) (u : Value), BindsTo s code ⟨[u], []⟩ [(par, u)]) (ask : ∀ H : Hp, Only H → SqL K H scr (nums.map V.int) → asks [.ref scr] H (fun v _ => v = .bl true) fun _ _ _ => False) :
    codeAny (model P w) callerA (.call (.ref law) ⟨[.ref scr], []⟩) (fun r u => r = .ok (.ret (.bool true)) ∧ OldK t.heap u.heap ∧ u.os = t.os ∧ AllBare u.gens) t := by
  have rel := vals_ints hi
  have sz := hi.length
  by_cases own : K.lookup scr = none
  · let H : Hp := fun b => if b = scr then some (.frz { cls := .type "list", data := .seq its.toArray } (.lst (nums.map V.int))) else none
    have at0 : H scr = some (.frz { cls := .type "list", data := .seq its.toArray } (.lst (nums.map V.int))) := if_pos rfl
    have off : ∀ b, b ≠ scr → H b = none := fun b n => if_neg n
    have X : Bare K scr H := ⟨fun b => by
      by_cases e : b = scr
      · exact .inr ⟨_, _, by rw [e]; exact at0⟩
      · exact .inl (off b e), fun b n => Classical.byContradiction fun e => n (off b e), fun _ => own⟩
    refine ends_with H X inK names bns boot free noGen hs room F bind (fun b u z => ?_) (ask H X.only (.inl (.inr ⟨_, at0⟩)))
    by_cases e : b = scr
    · rw [e, at0] at z
      cases z
      rw [e]
      exact ⟨hs, by rw [List.length_map]; exact len, its, _, rel, hs⟩
    · rw [off b e] at z
      cases z
  · obtain ⟨o, ho⟩ : ∃ o, K.lookup scr = some o := by
      cases e : K.lookup scr with
      | none => exact absurd e own
      | some o => exact ⟨o, rfl⟩
    have e := inK scr o ho
    rw [hs] at e
    cases e
    have X : Bare K scr (fun _ => none) := ⟨fun _ => .inl rfl, fun b n => absurd rfl n, fun n => absurd rfl n⟩
    exact ends_with _ X inK names bns boot free noGen hs room F bind (fun b u z => nomatch z) (ask _ X.only (.inr ⟨_, its.toArray, _, ho, rfl, rfl, rfl, by rw [List.size_toArray, sz]; exact len, by simpa using rel⟩))
end
theorem walkG {l : PySem.W.OpenLaw} {n j : Nat} {q : Program} {loose : List Str} {XP : (Str → Option Value) → Heap → Prop} {YP : World → Heap → Prop} {d : DefRec} {K : Params → PySem.W.Frag} {asks : PySem.W.Frag → Sp} {par : Str}
    (hn : l.most = some n) (small : n ≤ sizeLine) (hdf : d.params.defaults = []) (room : Room j callerA) (inK : ∀ (w : World) (h : Heap), YP w h → (K w.params).In h)
    (F : ∀ (w : World) (mg : Str → Option Value) (law : Addr) (h : Heap), (K w.params).In h → h.Ns mainGlobals mg → mg d.name = some (.ref law) →
      ∃ code : FuncData, (∀ (s : Shared) (u : Value), BindsTo s code ⟨[u], []⟩ [(par, u)]) ∧ ∀ base : Heap, (K w.params).In base → base.Ns mainGlobals mg → FnG l.prog w (K w.params) mg base CX0 j law code [par] (asks (K w.params)))
    (ask : ∀ (K : PySem.W.Frag) (H : Hp) (scr : Addr) (nums : List Int), nums.length ≤ n → Only H → SqL K H scr (nums.map V.int) → asks K [.ref scr] H (fun v _ => v = .bl true) fun _ _ _ => False) :
    PySem.W.WalkO q loose XP YP l.row.toRowW d [] (fun f vs => PySem.call f vs) := by
  refine Att.attach_call hn hdf fun w s₀ t mg nb law o pm cd doc scr its nums G Y ho hd hcd hmg hs hints len noGen => ?_
  obtain ⟨code, bind, hF⟩ := F w mg law _ (inK w _ Y) G.T.g hmg
  exact ends_of (inK w _ Y) G.T.g G.T.b G.T.builtins G.T.nolimit noGen hs hints (Nat.le_trans len small) room hF bind fun H => ask _ H scr nums len
end DQ

set_option Elab.async false
set_option linter.all false
set_option maxRecDepth 100000
set_option maxHeartbeats 2000000
namespace DQ
open PySem PySem.Spec PyProof.Rows L2
/-! ### what the top has left: defs, constants -/
/-- a def of the top, by its facts -/
structure DefAt (K : PySem.W.Frag) (mg : Str → Option Value) (x : Str) (st : Stmt) (f : Addr) (fd : FuncData) : Prop where
  g : mg x = some (.ref f)
  F : Fun K x x st f fd
theorem def_mk {K : PySem.W.Frag} {h : Heap} {mg : Str → Option Value} {x : Str} {st : Stmt} {f : Addr} {oc kV doc pm cdv ct : Value} {od an : Option Addr} {osl : Array (Option Value)} (X : K.In h) (G : h.Ns mainGlobals mg) (a : PySem.W.nsIn K mainGlobals x = some (some (.ref f)))
    (l : K.lookup f = some ⟨oc, od, .func (PySem.W.fnOf x x (defArgs st) (defBody st) (defScope st) .none kV doc pm an cdv ct), osl⟩) (c : PySem.W.codeIn K cdv x = true) (k : PySem.W.keepIn K (.ref f) = true) : ∃ fd, DefAt K mg x st f fd :=
  ⟨_, PySem.W.mg_of X G a, fun_mk (st := st) l c k⟩
section
variable {K : PySem.W.Frag} {h : Heap} {mg : Str → Option Value}
theorem str_mk {x z v : Str} {t : Tok} (X : K.In h) (G : h.Ns mainGlobals mg) (a : PySem.W.nsIn K mainGlobals x = some (some (.str v t))) (e : v = z) : ∃ t, mg x = some (.str z t) := ⟨t, by rw [← e]; exact PySem.W.mg_of X G a⟩
theorem int_mk {x : Str} {z v : Int} {t : Tok} (X : K.In h) (G : h.Ns mainGlobals mg) (a : PySem.W.nsIn K mainGlobals x = some (some (.int v t))) (e : v = z) : ∃ t, mg x = some (.int z t) := ⟨t, by rw [← e]; exact PySem.W.mg_of X G a⟩
theorem rel_abs {u : Value} {x : V} (h : absV u = some x) : RelV x u := by
  cases u with
  | none => cases h; rfl
  | bool b => cases h; rfl
  | int i t => cases h; exact ⟨t, rfl⟩
  | str s t => cases h; exact ⟨t, rfl⟩
  | ref a => cases h; rfl
  | _ => first | cases h; rfl | (cases h; exact ⟨_, rfl⟩) | exact nomatch h
theorem vals_abs : ∀ {us : List Value} {xs : List V}, us.map absV = xs.map some → Vals xs us
  | [], [], _ => .nil
  | [], _ :: _, h => nomatch h
  | _ :: _, [], h => nomatch h
  | u :: us, x :: xs, h => by
    rw [List.map_cons, List.map_cons] at h
    injection h with h1 h2
    exact .cons (rel_abs h1) (vals_abs h2)
theorem tup_mk {x : Str} {r : Addr} {o : Obj} {its : Array Value} {n : Nat} {xs : List V} (X : K.In h) (G : h.Ns mainGlobals mg) (a : PySem.W.nsIn K mainGlobals x = some (some (.ref r))) (l : K.lookup r = some o) (c : o.cls = .type "tuple") (d : o.data = .seq its n) (z : its.size ≤ 1000) (e : its.toList.map absV = xs.map some) :
    ∃ r, mg x = some (.ref r) ∧ ∀ H, SqT K H r xs := ⟨r, PySem.W.mg_of X G a, fun H => .inr ⟨o, its, n, l, c, d, Nat.le_trans z (by decide), vals_abs e⟩⟩
end
end DQ

set_option Elab.async false
set_option linter.all false
set_option maxRecDepth 100000
set_option maxHeartbeats 2000000
namespace DQ
open PySem PySem.Spec PyProof.Rows L2
/-! ### what the top has left: classes of errors -/
section
variable {K : PySem.W.Frag} {h : Heap} {mg : Str → Option Value}
theorem cls_mk {C N : Addr} {nm q : Str} {bs bm : List Value} {sn : List Str} {sub : List Value} {ab : Bool} {col : Option Bool} {dd : Option Addr} {m0 m1 m2 m3 m5 : Option Value}
    (xL : K.lookup C = some (excClassObj nm q C N bs bm true sn sub ab col dd m0 m1 m2 m3 m5 "ValueError.__new__")) (rv : PySem.HandSPX.refsVE bm = true) (sa : PySem.W.findIn K (.ref C) "__setattr__" = some (some (.builtin "object.__setattr__")))
    (eC : PySem.W.subIn K (.ref C) (.type "BaseException") = some true) (tC : PySem.W.typeIn K (.ref C) = some (.type "type")) (kC : PySem.W.keepIn K (.ref C) = true)
    (ga : PySem.W.findIn K (.ref C) "__getattribute__" = some (some (.builtin "BaseException.__getattribute__"))) (gg : PySem.W.findIn K (.ref C) "__getattr__" = some none)
    (ca : PySem.W.findIn K (.ref C) "__class__" = some (some (.builtin "object.__class__"))) (cg : PySem.W.specialIn K (.builtin "object.__class__") "__get__" = some (some (.builtin "getset_descriptor.__get__"))) (ct : PySem.W.takesIn K (.builtin "object.__class__") = some true)
    (mo : PySem.W.mroIn K C (.type "object") = some true) : OexC K C ∧ ErrC K C :=
  ⟨⟨⟨nm, q, N, bs, bm, sn, sub, ab, col, dd, m0, m1, m2, m3, m5, xL, rv⟩, sa, eC, tC, kC⟩, ⟨by unfold PySem.W.clsIn; rw [xL]; rfl, ga, gg, eC, ca, cg, ct, mo⟩⟩
theorem err_mk {name qual : Str} {st : Stmt} {C fI T : Addr} {oT : Obj} {n : Nat} {oc kV doc pm cdv ct' : Value} {od an : Option Addr} {osl : Array (Option Value)} (X : K.In h) (G : h.Ns mainGlobals mg) (a : PySem.W.nsIn K mainGlobals name = some (some (.ref C))) (c : OexC K C ∧ ErrC K C)
    (hd : PySem.W.hasDictIn K C = true) (nv : PySem.W.findIn K (.ref C) "value" = some none) (eq : PySem.W.findIn K (.ref C) "__eq__" = some (some (.builtin "object.__eq__")))
    (ic : PySem.W.findIn K (.ref C) "__init__" = some (some (.ref fI))) (ti : PySem.W.typeIn K (.ref fI) = some (.type "function"))
    (lf : K.lookup fI = some ⟨oc, od, .func (PySem.W.fnOf "__init__" qual (defArgs st) (defBody st) (defScope st) (.ref T) kV doc pm an cdv ct'), osl⟩) (cf : PySem.W.codeIn K cdv qual = true) (kf : PySem.W.keepIn K (.ref fI) = true)
    (lT : K.lookup T = some oT) (dT : oT.data = .seq #[.none] n) : ErrAt K mg name qual st C :=
  ⟨PySem.W.mg_of X G a, c.1, ⟨c.2.ga, c.2.gg, c.2.sub, hd⟩, nv, c.2, eq, fI, _, ic, ti, ⟨⟨oc, od, _, kV, doc, pm, an, cdv, ct', osl, rfl, lf, cf, .inr ⟨by simp, T, oT, [.none], n, rfl, lT, dT, .cons rfl .nil⟩, .inl rfl⟩, kf⟩⟩
end
end DQ

set_option Elab.async false
set_option linter.all false
set_option maxRecDepth 100000
set_option maxHeartbeats 4000000
namespace DQ
open PySem PySem.Spec PyProof.Rows L2
theorem all_of {P : Program} {w : World} {K : PySem.W.Frag} {mg : Str → Option Value} {fa C0 C1 C2 C3 f0 f1 f2 f3 f4 f5 f6 f7 f8 f9 f10 f11 f12 f13 f14 f15 f16 f17 f18 f19 f20 f21 f22 f23 f24 f25 f26 f27 f28 f29 f30 f31 f32 f33 f34 f35 f36 f37 f38 f39 f40 f41 f42 f43 S : Addr} (hfa : mg "law" = some (.ref fa))
    (E0 : ErrAt K mg "InvalidStore" "InvalidStore.__init__" (sInit 2) C0)
    (E1 : ErrAt K mg "InvalidNumber" "InvalidNumber.__init__" (sInit 3) C1)
    (E2 : ErrAt K mg "InvalidList" "InvalidList.__init__" (sInit 4) C2)
    (E3 : ErrAt K mg "Unlike" "Unlike.__init__" (sInit 5) C3)
    (x0 : mg "StoreError" = some (.ref S))
    (x1 : exmA K [C0, C2, C3, C1] S = true)
    (x2 : kitA K [C0, C2, C3, C1] = true)
    (x3 : kvA K [C0, C2, C3, C1] = true)
    (x4 : apartA [C0, C2, C3, C1] = true)
    (c0 : ∃ t, mg "LETTERS" = some (.str letters t))
    (c1 : ∃ t, mg "WORD_SIGNS" = some (.str wordSigns t))
    (c2 : ∃ t, mg "MOST_SIGNS" = some (.int 30 t))
    (c3 : ∃ r, mg "RESERVED" = some (.ref r) ∧ ∀ H, SqT K H r (reserved.map V.str))
    (c4 : ∃ t, mg "MOST_MARKS" = some (.int 4 t))
    (c5 : ∃ t, mg "MOST_COLUMNS" = some (.int 2 t))
    (c6 : ∃ t, mg "MOST_ITEMS" = some (.int 2000 t))
    (c7 : ∃ t, mg "MOST_NUMBER" = some (.int 1000000000 t))
    (c8 : ∃ t, mg "MOST_IN_ROW" = some (.int 4 t))
    (c9 : ∃ t, mg "MOST_DEPTH" = some (.int 4 t))
    (c10 : ∃ t, mg "NOWHERE" = some (.int (-1) t))
    (D0 : ∃ fd, DefAt K mg "is_word" sIsWord f0 fd)
    (D1 : ∃ fd, DefAt K mg "is_spelled" sSpelled f1 fd)
    (D2 : ∃ fd, DefAt K mg "is_whole" sWhole f2 fd)
    (D3 : ∃ fd, DefAt K mg "is_between" sBetween f3 fd)
    (D4 : ∃ fd, DefAt K mg "is_number" sNumber f4 fd)
    (D5 : ∃ fd, DefAt K mg "are_words" sWords f5 fd)
    (D6 : ∃ fd, DefAt K mg "are_marks" sMarks f6 fd)
    (D7 : ∃ fd, DefAt K mg "are_columns" sColumns f7 fd)
    (D8 : ∃ fd, DefAt K mg "are_numbers" sNumbers f8 fd)
    (D9 : ∃ fd, DefAt K mg "is_ascending" sAscending f9 fd)
    (D10 : ∃ fd, DefAt K mg "is_fact" sIsFact f10 fd)
    (D11 : ∃ fd, DefAt K mg "first_clash" sClash f11 fd)
    (D12 : ∃ fd, DefAt K mg "are_facts" sFacts f12 fd)
    (D13 : ∃ fd, DefAt K mg "is_store" sStoreP f13 fd)
    (D14 : ∃ fd, DefAt K mg "check_store" sCheck f14 fd)
    (D15 : ∃ fd, DefAt K mg "is_item" sIsItem f15 fd)
    (D16 : ∃ fd, DefAt K mg "check_between" sBtw f16 fd)
    (D17 : ∃ fd, DefAt K mg "check_row" sRow f17 fd)
    (D18 : ∃ fd, DefAt K mg "check_second_store" sSecond f18 fd)
    (D19 : ∃ fd, DefAt K mg "table_of" sTable f19 fd)
    (D20 : ∃ fd, DefAt K mg "places_of" sPlaces f20 fd)
    (D21 : ∃ fd, DefAt K mg "atoms_at" sAtoms f21 fd)
    (D22 : ∃ fd, DefAt K mg "kind_at" sKind f22 fd)
    (D23 : ∃ fd, DefAt K mg "atoms" sAtomsP f23 fd)
    (D24 : ∃ fd, DefAt K mg "kind" sKindP f24 fd)
    (D25 : ∃ fd, DefAt K mg "check_both" sBoth f25 fd)
    (D26 : ∃ fd, DefAt K mg "are_of_one_kind" sOne f26 fd)
    (D27 : ∃ fd, DefAt K mg "alike" sAlike f27 fd)
    (D28 : ∃ fd, DefAt K mg "least_depth" sLeast f28 fd)
    (D29 : ∃ fd, DefAt K mg "_law_hash" sHash f29 fd)
    (D30 : ∃ fd, DefAt K mg "_law_random" sRandom f30 fd)
    (D31 : ∃ fd, DefAt K mg "_law_cell" sCell f31 fd)
    (D32 : ∃ fd, DefAt K mg "_law_generator" sGenerator f32 fd)
    (D33 : ∃ fd, DefAt K mg "_law_drawn_order" sOrder f33 fd)
    (D34 : ∃ fd, DefAt K mg "_law_drawn_pairs" sPairs f34 fd)
    (D35 : ∃ fd, DefAt K mg "_law_drawn_items" sItems f35 fd)
    (D36 : ∃ fd, DefAt K mg "_law_drawn_store" sStore f36 fd)
    (D37 : ∃ fd, DefAt K mg "_law_pick" sPick f37 fd)
    (D38 : ∃ fd, DefAt K mg "_law_asked" sAsked f38 fd)
    (D39 : ∃ fd, DefAt K mg "_law_told" sTold f39 fd)
    (D40 : ∃ fd, DefAt K mg "_law_all_refused" sAll f40 fd)
    (D41 : ∃ fd, DefAt K mg "_law_wrong_rows" sWrong f41 fd)
    (D42 : ∃ fd, DefAt K mg "_law_unlike_right" sUnlike f42 fd)
    (D43 : ∃ fd, DefAt K mg "law" sLaw f43 fd)
    (z0 : mg "isinstance" = none)
    (z1 : mg "str" = none)
    (z2 : mg "len" = none)
    (z3 : mg "all" = none)
    (z4 : mg "int" = none)
    (z5 : mg "bool" = none)
    (z6 : mg "list" = none)
    (z7 : mg "set" = none)
    (z8 : mg "any" = none)
    (z9 : mg "zip" = none)
    (z10 : mg "tuple" = none)
    (z11 : mg "range" = none)
    (z12 : mg "sum" = none)
    (z13 : mg "max" = none)
    (z14 : mg "sorted" = none)
    (z15 : mg "repr" = none)
    (z16 : mg "dict" = none)
    (z17 : mg "enumerate" = none)
    (z18 : mg "ValueError" = none)
    : ∃ fd : FuncData, (∀ (s : Shared) (v : Value), BindsTo s fd ⟨[v], []⟩ [("script", v)]) ∧ ∀ base : Heap, FnG P w K mg base CX0 14 fa fd ["script"] (spLaw K) := by
  obtain ⟨t0, c0⟩ := c0
  obtain ⟨t1, c1⟩ := c1
  obtain ⟨t2, c2⟩ := c2
  obtain ⟨r3, c3, cc3⟩ := c3
  obtain ⟨t4, c4⟩ := c4
  obtain ⟨t5, c5⟩ := c5
  obtain ⟨t6, c6⟩ := c6
  obtain ⟨t7, c7⟩ := c7
  obtain ⟨t8, c8⟩ := c8
  obtain ⟨t9, c9⟩ := c9
  obtain ⟨t10, c10⟩ := c10
  obtain ⟨d0, D0⟩ := D0
  obtain ⟨d1, D1⟩ := D1
  obtain ⟨d2, D2⟩ := D2
  obtain ⟨d3, D3⟩ := D3
  obtain ⟨d4, D4⟩ := D4
  obtain ⟨d5, D5⟩ := D5
  obtain ⟨d6, D6⟩ := D6
  obtain ⟨d7, D7⟩ := D7
  obtain ⟨d8, D8⟩ := D8
  obtain ⟨d9, D9⟩ := D9
  obtain ⟨d10, D10⟩ := D10
  obtain ⟨d11, D11⟩ := D11
  obtain ⟨d12, D12⟩ := D12
  obtain ⟨d13, D13⟩ := D13
  obtain ⟨d14, D14⟩ := D14
  obtain ⟨d15, D15⟩ := D15
  obtain ⟨d16, D16⟩ := D16
  obtain ⟨d17, D17⟩ := D17
  obtain ⟨d18, D18⟩ := D18
  obtain ⟨d19, D19⟩ := D19
  obtain ⟨d20, D20⟩ := D20
  obtain ⟨d21, D21⟩ := D21
  obtain ⟨d22, D22⟩ := D22
  obtain ⟨d23, D23⟩ := D23
  obtain ⟨d24, D24⟩ := D24
  obtain ⟨d25, D25⟩ := D25
  obtain ⟨d26, D26⟩ := D26
  obtain ⟨d27, D27⟩ := D27
  obtain ⟨d28, D28⟩ := D28
  obtain ⟨d29, D29⟩ := D29
  obtain ⟨d30, D30⟩ := D30
  obtain ⟨d31, D31⟩ := D31
  obtain ⟨d32, D32⟩ := D32
  obtain ⟨d33, D33⟩ := D33
  obtain ⟨d34, D34⟩ := D34
  obtain ⟨d35, D35⟩ := D35
  obtain ⟨d36, D36⟩ := D36
  obtain ⟨d37, D37⟩ := D37
  obtain ⟨d38, D38⟩ := D38
  obtain ⟨d39, D39⟩ := D39
  obtain ⟨d40, D40⟩ := D40
  obtain ⟨d41, D41⟩ := D41
  obtain ⟨d42, D42⟩ := D42
  obtain ⟨d43, D43⟩ := D43
  have e := hfa.symm.trans D43.g
  cases e
  have b0 := D0.F.binds (ps := ["value"]) fun _ _ _ _ _ _ us hl => match us, hl with | [_], _ => rfl
  have b1 := D1.F.binds (ps := ["text"]) fun _ _ _ _ _ _ us hl => match us, hl with | [_], _ => rfl
  have b2 := D2.F.binds (ps := ["value"]) fun _ _ _ _ _ _ us hl => match us, hl with | [_], _ => rfl
  have b3 := D3.F.binds (ps := ["value", "least", "most"]) fun _ _ _ _ _ _ us hl => match us, hl with | [_, _, _], _ => rfl
  have b4 := D4.F.binds (ps := ["value"]) fun _ _ _ _ _ _ us hl => match us, hl with | [_], _ => rfl
  have b5 := D5.F.binds (ps := ["value", "most"]) fun _ _ _ _ _ _ us hl => match us, hl with | [_, _], _ => rfl
  have b6 := D6.F.binds (ps := ["value"]) fun _ _ _ _ _ _ us hl => match us, hl with | [_], _ => rfl
  have b7 := D7.F.binds (ps := ["marks", "value"]) fun _ _ _ _ _ _ us hl => match us, hl with | [_, _], _ => rfl
  have b8 := D8.F.binds (ps := ["value"]) fun _ _ _ _ _ _ us hl => match us, hl with | [_], _ => rfl
  have b9 := D9.F.binds (ps := ["rows"]) fun _ _ _ _ _ _ us hl => match us, hl with | [_], _ => rfl
  have b10 := D10.F.binds (ps := ["marks", "columns", "known", "value"]) fun _ _ _ _ _ _ us hl => match us, hl with | [_, _, _, _], _ => rfl
  have b11 := D11.F.binds (ps := ["facts"]) fun _ _ _ _ _ _ us hl => match us, hl with | [_], _ => rfl
  have b12 := D12.F.binds (ps := ["marks", "columns", "items", "value"]) fun _ _ _ _ _ _ us hl => match us, hl with | [_, _, _, _], _ => rfl
  have b13 := D13.F.binds (ps := ["value"]) fun _ _ _ _ _ _ us hl => match us, hl with | [_], _ => rfl
  have b14 := D14.F.binds (ps := ["store"]) fun _ _ _ _ _ _ us hl => match us, hl with | [_], _ => rfl
  have b15 := D15.F.binds (ps := ["store", "value"]) fun _ _ _ _ _ _ us hl => match us, hl with | [_, _], _ => rfl
  have b16 := D16.F.binds (ps := ["value", "least", "most"]) fun _ _ _ _ _ _ us hl => match us, hl with | [_, _, _], _ => rfl
  have b17 := D17.F.binds (ps := ["store", "row"]) fun _ _ _ _ _ _ us hl => match us, hl with | [_, _], _ => rfl
  have b18 := D18.F.binds (ps := ["one", "other"]) fun _ _ _ _ _ _ us hl => match us, hl with | [_, _], _ => rfl
  have b19 := D19.F.binds (ps := ["store"]) fun _ _ _ _ _ _ us hl => match us, hl with | [_], _ => rfl
  have b20 := D20.F.binds (ps := ["row", "item"]) fun _ _ _ _ _ _ us hl => match us, hl with | [_, _], _ => rfl
  have b21 := D21.F.binds (ps := ["table", "columns", "row"]) fun _ _ _ _ _ _ us hl => match us, hl with | [_, _, _], _ => rfl
  have b22 := D22.F.binds (ps := ["table", "columns", "row", "depth"]) fun _ _ _ _ _ _ us hl => match us, hl with | [_, _, _, _], _ => rfl
  have b23 := D23.F.binds (ps := ["store", "row"]) fun _ _ _ _ _ _ us hl => match us, hl with | [_, _], _ => rfl
  have b24 := D24.F.binds (ps := ["store", "row", "depth"]) fun _ _ _ _ _ _ us hl => match us, hl with | [_, _, _], _ => rfl
  have b25 := D25.F.binds (ps := ["one", "row", "other", "second"]) fun _ _ _ _ _ _ us hl => match us, hl with | [_, _, _, _], _ => rfl
  have b26 := D26.F.binds (ps := ["one", "row", "other", "second", "depth"]) fun _ _ _ _ _ _ us hl => match us, hl with | [_, _, _, _, _], _ => rfl
  have b27 := D27.F.binds (ps := ["one", "row", "other", "second", "depth"]) fun _ _ _ _ _ _ us hl => match us, hl with | [_, _, _, _, _], _ => rfl
  have b28 := D28.F.binds (ps := ["one", "row", "other", "second"]) fun _ _ _ _ _ _ us hl => match us, hl with | [_, _, _, _], _ => rfl
  have b29 := D29.F.binds (ps := ["seed", "index"]) fun _ _ _ _ _ _ us hl => match us, hl with | [_, _], _ => rfl
  have b30 := D30.F.binds (ps := ["generator", "bound"]) fun _ _ _ _ _ _ us hl => match us, hl with | [_, _], _ => rfl
  have b31 := D31.F.binds (ps := ["script", "index"]) fun _ _ _ _ _ _ us hl => match us, hl with | [_, _], _ => rfl
  have b32 := D32.F.binds (ps := ["script", "index"]) fun _ _ _ _ _ _ us hl => match us, hl with | [_, _], _ => rfl
  have b33 := D33.F.binds (ps := ["generator", "things"]) fun _ _ _ _ _ _ us hl => match us, hl with | [_, _], _ => rfl
  have b34 := D34.F.binds (ps := ["generator", "items"]) fun _ _ _ _ _ _ us hl => match us, hl with | [_, _], _ => rfl
  have b35 := D35.F.binds (ps := ["generator", "most"]) fun _ _ _ _ _ _ us hl => match us, hl with | [_, _], _ => rfl
  have b36 := D36.F.binds (ps := ["generator", "most"]) fun _ _ _ _ _ _ us hl => match us, hl with | [_, _], _ => rfl
  have b37 := D37.F.binds (ps := ["generator", "things"]) fun _ _ _ _ _ _ us hl => match us, hl with | [_, _], _ => rfl
  have b38 := D38.F.binds (ps := ["door", "given"]) fun _ _ _ _ _ _ us hl => match us, hl with | [_, _], _ => rfl
  have b39 := D39.F.binds (ps := ["door", "given"]) fun _ _ _ _ _ _ us hl => match us, hl with | [_, _], _ => rfl
  have b40 := D40.F.binds (ps := ["doors", "given", "due", "odd", "good"]) fun _ _ _ _ _ _ us hl => match us, hl with | [_, _, _, _, _], _ => rfl
  have b41 := D41.F.binds (ps := ["store"]) fun _ _ _ _ _ _ us hl => match us, hl with | [_], _ => rfl
  have b42 := D42.F.binds (ps := []) fun _ _ _ _ _ _ us hl => match us, hl with | [], _ => rfl
  refine ⟨d43, fun s v => ?_, fun base => ?_⟩
  · obtain ⟨oc, od, kV, doc, pm, an, cdv, ct, osl, rfl, _⟩ := D43.F.ex
    exact .of_eq rfl
  have U0 : ErrUse P w K mg base "InvalidStore" C0 := E0.use it2
  have U1 : ErrUse P w K mg base "InvalidNumber" C1 := E1.use it3
  have U2 : ErrUse P w K mg base "InvalidList" C2 := E2.use it4
  have U3 : ErrUse P w K mg base "Unlike" C3 := E3.use it5
  have o1 := ok_spelled (P := P) (w := w) (mg := mg) (base := base) D1.F c0 c1 c2 z2 z3
  have o0 := ok_isWord (P := P) (w := w) (mg := mg) (base := base) D0.F o1 b1 D1.F.kp D1.g z0 z1 c3 cc3
  have o2 := ok_whole (P := P) (w := w) (mg := mg) (base := base) D2.F z0 z4 z5
  have o3 := ok_between (P := P) (w := w) (mg := mg) (base := base) D3.F o2 b2 D2.F.kp D2.g
  have o4 := ok_number (P := P) (w := w) (mg := mg) (base := base) D4.F o3 b3 D3.F.kp D3.g c7
  have o5 := ok_words (P := P) (w := w) (mg := mg) (base := base) D5.F o0 b0 D0.F.kp D0.g z0 z6 z2 z7 z3
  have o6 := ok_marks (P := P) (w := w) (mg := mg) (base := base) D6.F o5 b5 D5.F.kp D5.g c4
  have o7 := ok_columns (P := P) (w := w) (mg := mg) (base := base) D7.F o5 b5 D5.F.kp D5.g c5 z8
  have o8 := ok_numbers (P := P) (w := w) (mg := mg) (base := base) D8.F o4 b4 D4.F.kp D4.g z0 z6 z3
  have o9 := ok_ascending (P := P) (w := w) (mg := mg) (base := base) D9.F z9 z3
  have o10 := ok_isFact (P := P) (w := w) (mg := mg) (base := base) D10.F o4 b4 D4.F.kp D4.g z0 z10 z2 z3
  have o11 := ok_clash (P := P) (w := w) (mg := mg) (base := base) D11.F 
  have o12 := ok_facts (P := P) (w := w) (mg := mg) (base := base) D12.F o10 b10 D10.F.kp D10.g o9 b9 D9.F.kp D9.g o11 b11 D11.F.kp D11.g z0 z6 z3
  have o13 := ok_isStore (P := P) (w := w) (mg := mg) (base := base) D13.F o6 b6 D6.F.kp D6.g o7 b7 D7.F.kp D7.g o8 b8 D8.F.kp D8.g o9 b9 D9.F.kp D9.g o12 b12 D12.F.kp D12.g z0 z10 z2 c6
  have o14 := ok_check (P := P) (w := w) (mg := mg) (base := base) D14.F o13 b13 D13.F.kp D13.g U0
  have o15 := ok_isItem (P := P) (w := w) (mg := mg) (base := base) D15.F o4 b4 D4.F.kp D4.g
  have o16 := ok_btwG (P := P) (w := w) (mg := mg) (base := base) D16.F o3 b3 D3.F.kp D3.g U1
  have o17 := ok_rowG (P := P) (w := w) (mg := mg) (base := base) D17.F o15 b15 D15.F.kp D15.g U2 z0 z10 z2 z3 c8
  have o18 := ok_secondG (P := P) (w := w) (mg := mg) (base := base) D18.F o14 b14 D14.F.kp D14.g U3
  have o19 := ok_table (P := P) (w := w) (mg := mg) (base := base) D19.F c10 z10
  have o20 := ok_places (P := P) (w := w) (mg := mg) (base := base) D20.F z17 z10
  have o21 := ok_atoms (P := P) (w := w) (mg := mg) (base := base) D21.F o20 b20 D20.F.kp D20.g z10 z11
  have o22 := ok_kind (P := P) (w := w) (mg := mg) (base := base) D22.F o21 b21 D21.F.kp D21.g b22 D22.F.kp D22.g z10 z17 z14
  have o23 := ok_atomsE (P := P) (w := w) (mg := mg) (base := base) D23.F o14 b14 D14.F.kp D14.g o17 b17 D17.F.kp D17.g o19 b19 D19.F.kp D19.g o21 b21 D21.F.kp D21.g z2
  have o24 := ok_kindE (P := P) (w := w) (mg := mg) (base := base) D24.F o14 b14 D14.F.kp D14.g o17 b17 D17.F.kp D17.g o16 b16 D16.F.kp D16.g o19 b19 D19.F.kp D19.g o22 b22 D22.F.kp D22.g z2 c9
  have o25 := ok_bothE (P := P) (w := w) (mg := mg) (base := base) D25.F o14 b14 D14.F.kp D14.g o17 b17 D17.F.kp D17.g o18 b18 D18.F.kp D18.g U3 z2
  have o26 := ok_one (P := P) (w := w) (mg := mg) (base := base) D26.F o19 b19 D19.F.kp D19.g o22 b22 D22.F.kp D22.g z2
  have o27 := ok_alikeE (P := P) (w := w) (mg := mg) (base := base) D27.F o25 b25 D25.F.kp D25.g o16 b16 D16.F.kp D16.g o26 b26 D26.F.kp D26.g c9
  have o28 := ok_leastE (P := P) (w := w) (mg := mg) (base := base) D28.F o25 b25 D25.F.kp D25.g o26 b26 D26.F.kp D26.g z11 c9
  have o29 := ok_hash (P := P) (w := w) (mg := mg) (base := base) D29.F z4
  have o30 := ok_random (P := P) (w := w) (mg := mg) (base := base) D30.F o29 b29 D29.F.kp D29.g z4 z11
  have o31 := ok_cell (P := P) (w := w) (mg := mg) (base := base) D31.F z2 z12
  have o32 := ok_generator (P := P) (w := w) (mg := mg) (base := base) D32.F o31 b31 D31.F.kp D31.g z4 z13
  have o33 := ok_order (P := P) (w := w) (mg := mg) (base := base) D33.F o30 b30 D30.F.kp D30.g z6 z2
  have o34 := ok_pairs (P := P) (w := w) (mg := mg) (base := base) D34.F o33 b33 D33.F.kp D33.g o30 b30 D30.F.kp D30.g z2 z11
  have o35 := ok_items (P := P) (w := w) (mg := mg) (base := base) D35.F o30 b30 D30.F.kp D30.g z11
  have o36 := ok_store (P := P) (w := w) (mg := mg) (base := base) D36.F o35 b35 D35.F.kp D35.g o34 b34 D34.F.kp D34.g o30 b30 D30.F.kp D30.g z14
  have o37 := ok_pick (P := P) (w := w) (mg := mg) (base := base) D37.F o30 b30 D30.F.kp D30.g z2
  have o38 := ok_asked (P := P) (w := w) (mg := mg) (base := base) D38.F o24 b24 D24.F.kp D24.g o23 b23 D23.F.kp D23.g o27 b27 D27.F.kp D27.g o28 b28 D28.F.kp D28.g
  have o39 := ok_told (P := P) (w := w) (mg := mg) (base := base) D39.F o38 b38 D38.F.kp D38.g U0 U2 U3 U1 x0 (exmA_of x1) (kitA_of x2) (kvA_of x3) (apartA_of x4) z0 z18
  have o40 := ok_all (P := P) (w := w) (mg := mg) (base := base) D40.F o39 b39 D39.F.kp D39.g z15 z6 z2
  have o41 := ok_wrong (P := P) (w := w) (mg := mg) (base := base) D41.F 
  have o42 := ok_unlike (P := P) (w := w) (mg := mg) (base := base) D42.F o39 b39 D39.F.kp D39.g (apartA_of x4)
  exact ok_law D43.F o32 b32 D32.F.kp D32.g o36 b36 D36.F.kp D36.g o37 b37 D37.F.kp D37.g o40 b40 D40.F.kp D40.g o41 b41 D41.F.kp D41.g o39 b39 D39.F.kp D39.g o42 b42 D42.F.kp D42.g (apartA_of x4) z6 z2 z11
end DQ

open PySem PySem.W PyProof.Rows
set_option maxRecDepth 100000 in
set_option maxHeartbeats 0 in
theorem PySem.Challenge.cw_depthquestions_k25_kinds_refused_holds : PySem.Challenge.rw_depthquestions_k25_kinds_refused.Holds := by
  w_on; o_law; k_head; (case hw => w_witness2)
  k_fill
  refine DQ.walkG (l := PySem.Challenge.rw_depthquestions_k25_kinds_refused) (n := 63) (j := 14) (par := "script") (asks := DQ.spLaw) rfl (by decide) rfl ⟨rfl, by decide, by decide⟩ (fun w h Y => PySem.W.kIn_of Y) ?F (fun K H a ns _ _ hS => ⟨a, ns, rfl, hS, fun _ => rfl⟩)
  case F =>
    intro w mg fa h KX G hmg
    suffices A : ∃ fd : FuncData, (∀ (s : Shared) (v : Value), BindsTo s fd ⟨[v], []⟩ [("script", v)]) ∧ ∀ base : Heap, DQ.FnG (PySem.Challenge.rw_depthquestions_k25_kinds_refused).prog w _ mg base L2.CX0 14 fa fd ["script"] (DQ.spLaw _) from A.imp fun fd z => ⟨z.1, fun base _ _ => z.2 base⟩
    refine' DQ.all_of hmg
      (DQ.err_mk KX G ?a0 (DQ.cls_mk ?xL0 ?rv0 ?sa0 ?eC0 ?tC0 ?kC0 ?ga0 ?gg0 ?ca0 ?cg0 ?ct0 ?mo0) ?hd0 ?nv0 ?eq0 ?ic0 ?ti0 ?lf0 ?cf0 ?kf0 ?lT0 ?dT0)
      (DQ.err_mk KX G ?a1 (DQ.cls_mk ?xL1 ?rv1 ?sa1 ?eC1 ?tC1 ?kC1 ?ga1 ?gg1 ?ca1 ?cg1 ?ct1 ?mo1) ?hd1 ?nv1 ?eq1 ?ic1 ?ti1 ?lf1 ?cf1 ?kf1 ?lT1 ?dT1)
      (DQ.err_mk KX G ?a2 (DQ.cls_mk ?xL2 ?rv2 ?sa2 ?eC2 ?tC2 ?kC2 ?ga2 ?gg2 ?ca2 ?cg2 ?ct2 ?mo2) ?hd2 ?nv2 ?eq2 ?ic2 ?ti2 ?lf2 ?cf2 ?kf2 ?lT2 ?dT2)
      (DQ.err_mk KX G ?a3 (DQ.cls_mk ?xL3 ?rv3 ?sa3 ?eC3 ?tC3 ?kC3 ?ga3 ?gg3 ?ca3 ?cg3 ?ct3 ?mo3) ?hd3 ?nv3 ?eq3 ?ic3 ?ti3 ?lf3 ?cf3 ?kf3 ?lT3 ?dT3)
      (PySem.W.mg_of KX G ?gS)
      ?xa
      ?xb
      ?xc
      ?xd
      (DQ.str_mk KX G ?c0 ?e0)
      (DQ.str_mk KX G ?c1 ?e1)
      (DQ.int_mk KX G ?c2 ?e2)
      (DQ.tup_mk KX G ?c3 ?l3 ?t3 ?d3 ?zz3 ?e3)
      (DQ.int_mk KX G ?c4 ?e4)
      (DQ.int_mk KX G ?c5 ?e5)
      (DQ.int_mk KX G ?c6 ?e6)
      (DQ.int_mk KX G ?c7 ?e7)
      (DQ.int_mk KX G ?c8 ?e8)
      (DQ.int_mk KX G ?c9 ?e9)
      (DQ.int_mk KX G ?c10 ?e10)
      (DQ.def_mk KX G ?da0 ?dl0 ?dc0 ?dk0)
      (DQ.def_mk KX G ?da1 ?dl1 ?dc1 ?dk1)
      (DQ.def_mk KX G ?da2 ?dl2 ?dc2 ?dk2)
      (DQ.def_mk KX G ?da3 ?dl3 ?dc3 ?dk3)
      (DQ.def_mk KX G ?da4 ?dl4 ?dc4 ?dk4)
      (DQ.def_mk KX G ?da5 ?dl5 ?dc5 ?dk5)
      (DQ.def_mk KX G ?da6 ?dl6 ?dc6 ?dk6)
      (DQ.def_mk KX G ?da7 ?dl7 ?dc7 ?dk7)
      (DQ.def_mk KX G ?da8 ?dl8 ?dc8 ?dk8)
      (DQ.def_mk KX G ?da9 ?dl9 ?dc9 ?dk9)
      (DQ.def_mk KX G ?da10 ?dl10 ?dc10 ?dk10)
      (DQ.def_mk KX G ?da11 ?dl11 ?dc11 ?dk11)
      (DQ.def_mk KX G ?da12 ?dl12 ?dc12 ?dk12)
      (DQ.def_mk KX G ?da13 ?dl13 ?dc13 ?dk13)
      (DQ.def_mk KX G ?da14 ?dl14 ?dc14 ?dk14)
      (DQ.def_mk KX G ?da15 ?dl15 ?dc15 ?dk15)
      (DQ.def_mk KX G ?da16 ?dl16 ?dc16 ?dk16)
      (DQ.def_mk KX G ?da17 ?dl17 ?dc17 ?dk17)
      (DQ.def_mk KX G ?da18 ?dl18 ?dc18 ?dk18)
      (DQ.def_mk KX G ?da19 ?dl19 ?dc19 ?dk19)
      (DQ.def_mk KX G ?da20 ?dl20 ?dc20 ?dk20)
      (DQ.def_mk KX G ?da21 ?dl21 ?dc21 ?dk21)
      (DQ.def_mk KX G ?da22 ?dl22 ?dc22 ?dk22)
      (DQ.def_mk KX G ?da23 ?dl23 ?dc23 ?dk23)
      (DQ.def_mk KX G ?da24 ?dl24 ?dc24 ?dk24)
      (DQ.def_mk KX G ?da25 ?dl25 ?dc25 ?dk25)
      (DQ.def_mk KX G ?da26 ?dl26 ?dc26 ?dk26)
      (DQ.def_mk KX G ?da27 ?dl27 ?dc27 ?dk27)
      (DQ.def_mk KX G ?da28 ?dl28 ?dc28 ?dk28)
      (DQ.def_mk KX G ?da29 ?dl29 ?dc29 ?dk29)
      (DQ.def_mk KX G ?da30 ?dl30 ?dc30 ?dk30)
      (DQ.def_mk KX G ?da31 ?dl31 ?dc31 ?dk31)
      (DQ.def_mk KX G ?da32 ?dl32 ?dc32 ?dk32)
      (DQ.def_mk KX G ?da33 ?dl33 ?dc33 ?dk33)
      (DQ.def_mk KX G ?da34 ?dl34 ?dc34 ?dk34)
      (DQ.def_mk KX G ?da35 ?dl35 ?dc35 ?dk35)
      (DQ.def_mk KX G ?da36 ?dl36 ?dc36 ?dk36)
      (DQ.def_mk KX G ?da37 ?dl37 ?dc37 ?dk37)
      (DQ.def_mk KX G ?da38 ?dl38 ?dc38 ?dk38)
      (DQ.def_mk KX G ?da39 ?dl39 ?dc39 ?dk39)
      (DQ.def_mk KX G ?da40 ?dl40 ?dc40 ?dk40)
      (DQ.def_mk KX G ?da41 ?dl41 ?dc41 ?dk41)
      (DQ.def_mk KX G ?da42 ?dl42 ?dc42 ?dk42)
      (DQ.def_mk KX G ?da43 ?dl43 ?dc43 ?dk43)
      (PySem.W.mg_none_of KX G ?z0)
      (PySem.W.mg_none_of KX G ?z1)
      (PySem.W.mg_none_of KX G ?z2)
      (PySem.W.mg_none_of KX G ?z3)
      (PySem.W.mg_none_of KX G ?z4)
      (PySem.W.mg_none_of KX G ?z5)
      (PySem.W.mg_none_of KX G ?z6)
      (PySem.W.mg_none_of KX G ?z7)
      (PySem.W.mg_none_of KX G ?z8)
      (PySem.W.mg_none_of KX G ?z9)
      (PySem.W.mg_none_of KX G ?z10)
      (PySem.W.mg_none_of KX G ?z11)
      (PySem.W.mg_none_of KX G ?z12)
      (PySem.W.mg_none_of KX G ?z13)
      (PySem.W.mg_none_of KX G ?z14)
      (PySem.W.mg_none_of KX G ?z15)
      (PySem.W.mg_none_of KX G ?z16)
      (PySem.W.mg_none_of KX G ?z17)
      (PySem.W.mg_none_of KX G ?z18)
    (case a0 => k_is)
    (case xL0 => k_is)
    (case rv0 => decide +kernel)
    (case sa0 => k_is)
    (case eC0 => k_is)
    (case tC0 => k_is)
    (case kC0 => k_is)
    (case ga0 => k_is)
    (case gg0 => k_is)
    (case ca0 => k_is)
    (case cg0 => k_is)
    (case ct0 => k_is)
    (case mo0 => k_is)
    (case hd0 => k_is)
    (case nv0 => k_is)
    (case eq0 => k_is)
    (case ic0 => k_is)
    (case ti0 => k_is)
    (case lf0 => k_is)
    (case cf0 => k_is)
    (case kf0 => k_is)
    (case lT0 => k_is)
    (case dT0 => rfl)
    (case a1 => k_is)
    (case xL1 => k_is)
    (case rv1 => decide +kernel)
    (case sa1 => k_is)
    (case eC1 => k_is)
    (case tC1 => k_is)
    (case kC1 => k_is)
    (case ga1 => k_is)
    (case gg1 => k_is)
    (case ca1 => k_is)
    (case cg1 => k_is)
    (case ct1 => k_is)
    (case mo1 => k_is)
    (case hd1 => k_is)
    (case nv1 => k_is)
    (case eq1 => k_is)
    (case ic1 => k_is)
    (case ti1 => k_is)
    (case lf1 => k_is)
    (case cf1 => k_is)
    (case kf1 => k_is)
    (case lT1 => k_is)
    (case dT1 => rfl)
    (case a2 => k_is)
    (case xL2 => k_is)
    (case rv2 => decide +kernel)
    (case sa2 => k_is)
    (case eC2 => k_is)
    (case tC2 => k_is)
    (case kC2 => k_is)
    (case ga2 => k_is)
    (case gg2 => k_is)
    (case ca2 => k_is)
    (case cg2 => k_is)
    (case ct2 => k_is)
    (case mo2 => k_is)
    (case hd2 => k_is)
    (case nv2 => k_is)
    (case eq2 => k_is)
    (case ic2 => k_is)
    (case ti2 => k_is)
    (case lf2 => k_is)
    (case cf2 => k_is)
    (case kf2 => k_is)
    (case lT2 => k_is)
    (case dT2 => rfl)
    (case a3 => k_is)
    (case xL3 => k_is)
    (case rv3 => decide +kernel)
    (case sa3 => k_is)
    (case eC3 => k_is)
    (case tC3 => k_is)
    (case kC3 => k_is)
    (case ga3 => k_is)
    (case gg3 => k_is)
    (case ca3 => k_is)
    (case cg3 => k_is)
    (case ct3 => k_is)
    (case mo3 => k_is)
    (case hd3 => k_is)
    (case nv3 => k_is)
    (case eq3 => k_is)
    (case ic3 => k_is)
    (case ti3 => k_is)
    (case lf3 => k_is)
    (case cf3 => k_is)
    (case kf3 => k_is)
    (case lT3 => k_is)
    (case dT3 => rfl)
    (case gS => k_is)
    (case c0 => k_is)
    (case e0 => decide +kernel)
    (case c1 => k_is)
    (case e1 => decide +kernel)
    (case c2 => k_is)
    (case e2 => rfl)
    (case c3 => k_is)
    (case l3 => k_is)
    (case t3 => rfl)
    (case d3 => rfl)
    (case zz3 => decide +kernel)
    (case e3 => decide +kernel)
    (case c4 => k_is)
    (case e4 => rfl)
    (case c5 => k_is)
    (case e5 => rfl)
    (case c6 => k_is)
    (case e6 => rfl)
    (case c7 => k_is)
    (case e7 => rfl)
    (case c8 => k_is)
    (case e8 => rfl)
    (case c9 => k_is)
    (case e9 => rfl)
    (case c10 => k_is)
    (case e10 => rfl)
    (case da0 => k_is)
    (case dl0 => k_is)
    (case dc0 => k_is)
    (case dk0 => k_is)
    (case da1 => k_is)
    (case dl1 => k_is)
    (case dc1 => k_is)
    (case dk1 => k_is)
    (case da2 => k_is)
    (case dl2 => k_is)
    (case dc2 => k_is)
    (case dk2 => k_is)
    (case da3 => k_is)
    (case dl3 => k_is)
    (case dc3 => k_is)
    (case dk3 => k_is)
    (case da4 => k_is)
    (case dl4 => k_is)
    (case dc4 => k_is)
    (case dk4 => k_is)
    (case da5 => k_is)
    (case dl5 => k_is)
    (case dc5 => k_is)
    (case dk5 => k_is)
    (case da6 => k_is)
    (case dl6 => k_is)
    (case dc6 => k_is)
    (case dk6 => k_is)
    (case da7 => k_is)
    (case dl7 => k_is)
    (case dc7 => k_is)
    (case dk7 => k_is)
    (case da8 => k_is)
    (case dl8 => k_is)
    (case dc8 => k_is)
    (case dk8 => k_is)
    (case da9 => k_is)
    (case dl9 => k_is)
    (case dc9 => k_is)
    (case dk9 => k_is)
    (case da10 => k_is)
    (case dl10 => k_is)
    (case dc10 => k_is)
    (case dk10 => k_is)
    (case da11 => k_is)
    (case dl11 => k_is)
    (case dc11 => k_is)
    (case dk11 => k_is)
    (case da12 => k_is)
    (case dl12 => k_is)
    (case dc12 => k_is)
    (case dk12 => k_is)
    (case da13 => k_is)
    (case dl13 => k_is)
    (case dc13 => k_is)
    (case dk13 => k_is)
    (case da14 => k_is)
    (case dl14 => k_is)
    (case dc14 => k_is)
    (case dk14 => k_is)
    (case da15 => k_is)
    (case dl15 => k_is)
    (case dc15 => k_is)
    (case dk15 => k_is)
    (case da16 => k_is)
    (case dl16 => k_is)
    (case dc16 => k_is)
    (case dk16 => k_is)
    (case da17 => k_is)
    (case dl17 => k_is)
    (case dc17 => k_is)
    (case dk17 => k_is)
    (case da18 => k_is)
    (case dl18 => k_is)
    (case dc18 => k_is)
    (case dk18 => k_is)
    (case da19 => k_is)
    (case dl19 => k_is)
    (case dc19 => k_is)
    (case dk19 => k_is)
    (case da20 => k_is)
    (case dl20 => k_is)
    (case dc20 => k_is)
    (case dk20 => k_is)
    (case da21 => k_is)
    (case dl21 => k_is)
    (case dc21 => k_is)
    (case dk21 => k_is)
    (case da22 => k_is)
    (case dl22 => k_is)
    (case dc22 => k_is)
    (case dk22 => k_is)
    (case da23 => k_is)
    (case dl23 => k_is)
    (case dc23 => k_is)
    (case dk23 => k_is)
    (case da24 => k_is)
    (case dl24 => k_is)
    (case dc24 => k_is)
    (case dk24 => k_is)
    (case da25 => k_is)
    (case dl25 => k_is)
    (case dc25 => k_is)
    (case dk25 => k_is)
    (case da26 => k_is)
    (case dl26 => k_is)
    (case dc26 => k_is)
    (case dk26 => k_is)
    (case da27 => k_is)
    (case dl27 => k_is)
    (case dc27 => k_is)
    (case dk27 => k_is)
    (case da28 => k_is)
    (case dl28 => k_is)
    (case dc28 => k_is)
    (case dk28 => k_is)
    (case da29 => k_is)
    (case dl29 => k_is)
    (case dc29 => k_is)
    (case dk29 => k_is)
    (case da30 => k_is)
    (case dl30 => k_is)
    (case dc30 => k_is)
    (case dk30 => k_is)
    (case da31 => k_is)
    (case dl31 => k_is)
    (case dc31 => k_is)
    (case dk31 => k_is)
    (case da32 => k_is)
    (case dl32 => k_is)
    (case dc32 => k_is)
    (case dk32 => k_is)
    (case da33 => k_is)
    (case dl33 => k_is)
    (case dc33 => k_is)
    (case dk33 => k_is)
    (case da34 => k_is)
    (case dl34 => k_is)
    (case dc34 => k_is)
    (case dk34 => k_is)
    (case da35 => k_is)
    (case dl35 => k_is)
    (case dc35 => k_is)
    (case dk35 => k_is)
    (case da36 => k_is)
    (case dl36 => k_is)
    (case dc36 => k_is)
    (case dk36 => k_is)
    (case da37 => k_is)
    (case dl37 => k_is)
    (case dc37 => k_is)
    (case dk37 => k_is)
    (case da38 => k_is)
    (case dl38 => k_is)
    (case dc38 => k_is)
    (case dk38 => k_is)
    (case da39 => k_is)
    (case dl39 => k_is)
    (case dc39 => k_is)
    (case dk39 => k_is)
    (case da40 => k_is)
    (case dl40 => k_is)
    (case dc40 => k_is)
    (case dk40 => k_is)
    (case da41 => k_is)
    (case dl41 => k_is)
    (case dc41 => k_is)
    (case dk41 => k_is)
    (case da42 => k_is)
    (case dl42 => k_is)
    (case dc42 => k_is)
    (case dk42 => k_is)
    (case da43 => k_is)
    (case dl43 => k_is)
    (case dc43 => k_is)
    (case dk43 => k_is)
    (case z0 => k_is)
    (case z1 => k_is)
    (case z2 => k_is)
    (case z3 => k_is)
    (case z4 => k_is)
    (case z5 => k_is)
    (case z6 => k_is)
    (case z7 => k_is)
    (case z8 => k_is)
    (case z9 => k_is)
    (case z10 => k_is)
    (case z11 => k_is)
    (case z12 => k_is)
    (case z13 => k_is)
    (case z14 => k_is)
    (case z15 => k_is)
    (case z16 => k_is)
    (case z17 => k_is)
    (case z18 => k_is)
    (case xa => kernel_rfl)
    (case xb => kernel_rfl)
    (case xc => kernel_rfl)
    (case xd => kernel_rfl)

