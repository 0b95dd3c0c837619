import PyProof.Rows.All
import Wide.All
import OpenK.AllK
import Wide.FinOn
import HandS.ForMost
import HandS.ForExc
import HandS.Wide
import HandS.WideBits
import HandS.Deep
import HandS.IsInst
import HandS.Style
import KE.SortData
import HandS.ExcInit
import HandS.Strs
import HandS.Walk
import KE.LtData
import PyProof.ReprRoads
import HandS.SetKeys
import PyProof.DictMoreH
import HandS.DictComp
import PyProof.ReprLen
import HandS.Defaults
import HandS.ExcField
import HandS.More
import KE.KExcIs
import KE.KExcMake
import HandS.TupAny
import HandS.Star
import HandS.ExcOwn
import HandS.ExcValue
import PyProof.SumWalk
import PyProof.ListOps
import HandS.Conv
import HandS.Iter
import KE.GoesMore
import PyProof.Draws
import HandS.TupMul
import KE.KRevSl
import HandS.Dict
import HandS.MakeKw
import HandS.WordsExc
import HandS.HeadEnd
import HandS.Zip
import HandS.ListItems
import HandS.Sort
import KE.KDictList
import KE.KDictSum
import PySem.Challenge.RW_depthquestions_k65_lines_and_their_store
set_option Elab.async false
set_option linter.all false
set_option maxRecDepth 100000
set_option maxHeartbeats 4000000
namespace DQ
open PySem PySem.Spec PyProof.Rows L2
def topS (i : Nat) : Stmt := PySem.Challenge.pw_depthquestions_k65_lines_and_their_store.main.body.getD i (.Pass ⟨0, 0, 0, 0⟩)
abbrev sHash : Stmt := topS 51
abbrev sRandom : Stmt := topS 52
abbrev sCell : Stmt := topS 53
abbrev sGenerator : Stmt := topS 54
theorem scHash : FnScope ["seed", "index", "mixed"] ["seed", "index"] (defScope sHash) := ⟨rfl, rfl, rfl, by decide +kernel, rfl, by decide +kernel, by decide +kernel⟩
theorem scRandom : FnScope ["generator", "bound", "drawn", "turn"] ["generator", "bound"] (defScope sRandom) := ⟨rfl, rfl, rfl, by decide +kernel, rfl, by decide +kernel, by decide +kernel⟩
theorem scCell : FnScope ["script", "index"] ["script", "index"] (defScope sCell) := ⟨rfl, rfl, rfl, by decide +kernel, rfl, by decide +kernel, by decide +kernel⟩
theorem scGenerator : FnScope ["script", "index", "seed"] ["script", "index"] (defScope sGenerator) := ⟨rfl, rfl, rfl, by decide +kernel, rfl, by decide +kernel, by decide +kernel⟩
theorem opr_mono {X : Cx} {f : Value → Value → Sem Value} {r r' : R2} (h : OpR X f r) (m : ∀ x y H Q, r' x y H Q → r x y H Q) : OpR X f r' := fun pins s σ H x y v u Q I rx ry q => h pins s σ H x y v u Q I rx ry (m x y H Q q)
/-- a remainder: a letter in its range -/
def rModL : R2 := fun x y H Q => ∃ i j, x = .int i ∧ y = .int j ∧ 0 < j ∧ ∀ r : Int, 0 ≤ r → r < j → r = i % j → Q (.int r) H
theorem op_modL {X : Cx} : OpR X (binaryOp .Mod) rModL := opr_mono op_mod fun x y H Q ⟨i, j, e1, e2, hj, q⟩ => ⟨i, j, e1, e2, hj, q _ (Int.emod_nonneg _ (by omega)) (Int.emod_lt_of_pos _ hj) rfl⟩
section
variable {P : Program} {w : World} {K : PySem.W.Frag} {mg : Str → Option Value} {base : Heap}
/-- the hash: some number below its modulus -/
def spHash : Sp := fun vs H Q _ => ∃ a b : Int, vs = [.int a, .int b] ∧ 0 ≤ a ∧ a < 2147483648 ∧ 0 ≤ b ∧ b ≤ 1073741824 ∧ ∀ r : Int, 0 ≤ r → r < 2147483647 → Q (.int r) H
theorem ok_hash {f : Addr} {fd : FuncData} (F : Fun K "_law_hash" "_law_hash" sHash f fd) (mi : mg "int" = none) : FnOk P w K mg base CX0 1 f fd ["seed", "index"] spHash := by
  refine F.ok scHash (fun vs H Q E h => ?_) (fun cdv A outer s H vs Q E hr h => ?_)
  · obtain ⟨a, b, rfl, _⟩ := h
    rfl
  · obtain ⟨a, b, rfl, ha, ha2, hb, hb2, q⟩ := h
    refine ⟨_, pss_cons (ps_set (i := 2) scHash.nd rfl (.inl rfl)
        (pe_op op_modL (pe_callTy call_int1 (by rfl) mi (by decide +kernel) (pa_cons
          (pe_op op_add (pe_op op_add (pe_op op_add (pe_op op_mul (pv 0) pe_int) (pe_op op_mul (pe_op op_mul pe_int (pv 1)) (pv 1))) (pe_op op_mul pe_int (pv 1))) pe_int) pa_nil)) pe_int))
      (pss_cons (ps_set (i := 2) scHash.nd rfl (.inl rfl)
        (pe_op op_modL (pe_callTy call_int1 (by rfl) mi (by decide +kernel) (pa_cons
          (pe_op op_add (pe_op op_add (pe_op op_mul (pv 2) (pv 2)) (pe_op op_mul pe_int (pv 1))) pe_int) pa_nil)) pe_int))
      (pss_one (ps_ret (pe_op op_modL (pe_callTy call_int1 (by rfl) mi (by decide +kernel) (pa_cons (pe_op op_mul (pv 2) pe_int) pa_nil)) pe_int)))), ?_⟩
    -- seed * c + c * index * index + c * index + c
    refine ⟨_, rfl, _, _, rfl, rfl, .inl ⟨by omega, by omega⟩, ?_⟩
    refine ⟨_, rfl, _, _, rfl, rfl, .inl ⟨by omega, by omega⟩, ?_⟩
    refine ⟨_, rfl, _, _, rfl, rfl, .inl ⟨by omega, by omega⟩, ?_⟩
    refine ⟨_, _, rfl, rfl, _, rfl, _, _, rfl, rfl, .inl ⟨by omega, by omega⟩, ?_⟩
    refine ⟨_, _, rfl, rfl, _, _, rfl, rfl, .inl ⟨_, rfl, _, _, rfl, rfl, by decide, fun m h0 h1 _ => ?_⟩⟩
    -- mixed * mixed + c * index + c
    refine ⟨_, rfl, _, rfl, _, _, rfl, rfl, .inl ⟨by omega, by omega⟩, ?_⟩
    refine ⟨_, rfl, _, _, rfl, rfl, .inl ⟨by omega, by omega⟩, ?_⟩
    refine ⟨_, _, rfl, rfl, _, _, rfl, rfl, .inl ⟨_, rfl, _, _, rfl, rfl, by decide, fun n h2 h3 _ => ?_⟩⟩
    refine ⟨_, rfl, _, _, rfl, rfl, .inl ⟨by omega, by omega⟩, .inl ⟨_, rfl, _, _, rfl, rfl, by decide, fun r h4 h5 _ => q r h4 h5⟩⟩
/-- the generator at g: three numbers, the count of hashed draws at most n -/
def Gen (H : Hp) (g : Addr) (n : Int) : Prop := ∃ a b c : Int, H g = some (.lst [.int a, .int b, .int c]) ∧ 0 ≤ a ∧ a.natAbs < 2 ^ 2000 ∧ 0 ≤ b ∧ b < 2147483647 ∧ 0 ≤ c ∧ c ≤ n
theorem Gen.mono {H : Hp} {g : Addr} {n m : Int} (h : Gen H g n) (k : n ≤ m) : Gen H g m := by
  obtain ⟨a, b, c, e, h1, h2, h3, h4, h5, h6⟩ := h
  exact ⟨a, b, c, e, h1, h2, h3, h4, h5, by omega⟩
/-- all but what stands at g is as it was -/
def But (g : Addr) (H H' : Hp) : Prop := ∀ b, b ≠ g → H' b = H b
def spRandom : Sp := fun vs H Q _ => ∃ (g : Addr) (m n : Int), vs = [.ref g, .int m] ∧ Gen H g n ∧ 1 ≤ m ∧ m < 618970019642690137449562112 ∧ n + 3 ≤ 1073741824 ∧
  ∀ (r : Int) (H' : Hp), 0 ≤ r → r < m → Gen H' g (n + 3) → But g H H' → Q (.int r) H'
/-- how great the drawn number is after so many turns -/
def top : Nat → Int
  | 0 => 1
  | 1 => 4294967296
  | 2 => 18446744073709551616
  | _ => 79228162514264337593543950336
theorem top_next {d : Int} {i : Nat} (d0 : 0 ≤ d) (h : d < top i) (hi : i < 3) : d < 79228162514264337593543950336 ∧ ∀ r : Int, r < 2147483647 → d * 2147483587 + r < top (i + 1) := by
  match i, hi with
  | 0, _ => simp only [top] at h ⊢; exact ⟨by omega, fun r hr => by omega⟩
  | 1, _ => simp only [top] at h ⊢; exact ⟨by omega, fun r hr => by omega⟩
  | 2, _ => simp only [top] at h ⊢; exact ⟨by omega, fun r hr => by omega⟩
theorem gen_set {H : Hp} {g : Addr} {o : HO} : But g H (upd H g o) := fun _ h => upd_ne h
theorem ok_random {f fh : Addr} {fd fdh : FuncData} (F : Fun K "_law_random" "_law_random" sRandom f fd) (G : FnOk P w K mg base CX0 1 fh fdh ["seed", "index"] spHash) (bh : Binds K fdh ["seed", "index"] []) (kh : PySem.W.keepIn K (.ref fh) = true) (mh : mg "_law_hash" = some (.ref fh))
    (mi : mg "int" = none) (mr : mg "range" = none) : FnOk P w K mg base CX0 2 f fd ["generator", "bound"] spRandom := by
  refine F.ok scRandom (fun vs H Q E h => ?_) (fun cdv A outer s H vs Q E hr h => ?_)
  · obtain ⟨g, m, n, rfl, _⟩ := h
    rfl
  obtain ⟨g, m, n, rfl, ⟨a, b, c, eg, a0, a1, b0, b1, c0, c1⟩, m1, m2, hn, q⟩ := h
  have nd := scRandom.nd
  refine ⟨_, pss_cons (ps_if (pt_cmpR op_gt (pe_ix ix_list (pv 0) pe_int (fun _ _ => rfl)) pe_int (nomark _))
      (pss_cons (ps_set (i := 2) nd rfl (.inl rfl) (pe_op op_modL (pe_callTy call_int1 (by rfl) mi (by decide +kernel) (pa_cons (pe_ix ix_list (pv 0) pe_int (fun _ _ => rfl)) pa_nil)) (pv 1)))
      (pss_cons (ps_asg (pe_op op_fdivW (pe_ix ix_list (pv 0) pe_int (fun _ _ => rfl)) (pv 1)) (pg_sub (pv 0) pe_int set_list))
      (pss_one (ps_ret (pv 2))))) pss_nil)
    (pss_cons (ps_set (i := 2) nd rfl (.inl rfl) pe_int)
    (pss_cons (ps_for PassesOwn.never rfl (pi_range1 (by rfl) mr (pa_cons (pe_op op_add pe_int (pe_op op_fdiv (pe_bits (pv 1)) pe_int)) pa_nil)) (pg_name (i := 3) nd rfl (.inl rfl))
      (pss_cons (ps_asg (pe_op op_add (pe_ix ix_list (pv 0) pe_int (fun _ _ => rfl)) pe_int) (pg_sub (pv 0) pe_int set_list))
      (pss_one (ps_set (i := 2) nd rfl (.inl rfl) (pe_op op_add (pe_op op_mulW (pv 2) pe_int)
        (pe_call G (hr.mono (by decide)) rfl mh kh bh .nil pass0 (pa_cons (pe_ix ix_list (pv 0) pe_int (fun _ _ => rfl)) (pa_cons (pe_ix ix_list (pv 0) pe_int (fun _ _ => rfl)) pa_nil))))))))
    (pss_one (ps_ret (pe_op op_modL (pe_callTy call_int1 (by rfl) mi (by decide +kernel) (pa_cons (pv 2) pa_nil)) (pv 1)))))), ?_⟩
  have L : SqL K H g [.int a, .int b, .int c] := SqL.of eg
  refine ⟨_, rfl, g, _, _, _, rfl, rfl, L, rfl, _, _, rfl, rfl, _, rfl, ite2 (fun ha => ?_) fun ha => ?_⟩
  · -- digits of the seed
    refine ⟨_, rfl, g, _, _, _, rfl, rfl, L, rfl, .inl ⟨_, rfl, _, rfl, _, _, rfl, rfl, by omega, fun r r0 r1 _ => ?_⟩⟩
    refine ⟨_, rfl, g, _, _, _, rfl, rfl, L, rfl, _, rfl, _, _, rfl, rfl, wide_div (b := 90) (by omega) (by omega) (by decide) (by decide), _, rfl, g, _, _, _, rfl, rfl, eg, rfl, ?_⟩
    refine ⟨_, rfl, ?_⟩
    refine q r _ r0 r1 ⟨_, _, _, upd_same, Int.ediv_nonneg a0 (by omega), ?_, b0, b1, c0, by omega⟩ gen_set
    have h1 : a / m ≤ a := Int.ediv_le_self _ a0
    have h2 : 0 ≤ a / m := Int.ediv_nonneg a0 (by omega)
    exact wide_le h2 h1 a1
  · -- hashed
    have hb1 := intBits_le (a := m) (k := 89) (by omega)
    have hb0 : (0 : Int) ≤ ((Builtin.Int.intBits m : Nat) : Int) := Int.natCast_nonneg _
    have hb2 : ((Builtin.Int.intBits m : Nat) : Int) / 30 ≤ 2 := by omega
    have hb3 : 0 ≤ ((Builtin.Int.intBits m : Nat) : Int) / 30 := by omega
    refine ⟨_, rfl, _, rfl, _, _, rfl, rfl, ⟨by decide, by decide⟩, _, _, rfl, rfl, _, rfl, by omega, by omega, ?_⟩
    generalize ((Builtin.Int.intBits m : Nat) : Int) / 30 = z at hb2 hb3
    refine for_range (lo := 0) (n := (1 + z).toNat) (fun i σ H1 => ∃ (d : Int) (y : Option V), σ = [some (.ref g), some (.int m), some (.int d), y] ∧ 0 ≤ d ∧ d < top i ∧ (∃ c' : Int, H1 g = some (.lst [.int a, .int b, .int c']) ∧ 0 ≤ c' ∧ c' ≤ c + i) ∧ But g H H1)
      ⟨0, none, rfl, by decide, by decide, ⟨c, eg, c0, by omega⟩, fun _ _ => rfl⟩ (fun i σ H1 hi hP => ?_) (fun σ H1 hP => ?_)
    · obtain ⟨d, y, rfl, d0, d1, ⟨c', e1, c2, c3⟩, bt⟩ := hP
      have L1 : SqL K H1 g [.int a, .int b, .int c'] := SqL.of e1
      -- generator[2] = generator[2] + 1
      refine ⟨_, rfl, g, _, _, _, rfl, rfl, L1, rfl, _, _, rfl, rfl, _, rfl, g, _, _, _, rfl, rfl, e1, rfl, ?_⟩
      have L2 : SqL K (upd H1 g (.lst [.int a, .int b, .int (c' + 1)])) g [.int a, .int b, .int (c' + 1)] := SqL.of upd_same
      have hd := top_next d0 d1 (show i < 3 by omega)
      refine ⟨_, rfl, d, 2147483587, rfl, rfl, wide_mul (a := 96) (b := 32) (by omega) (by decide) (by decide) (by decide) (by decide), ?_⟩
      refine ⟨_, rfl, g, _, _, _, rfl, rfl, L2, rfl, _, rfl, g, _, _, _, rfl, rfl, L2, rfl, ?_⟩
      refine ⟨_, _, rfl, b0, by omega, by omega, by omega, fun r r0 r1 => ?_⟩
      refine ⟨_, _, rfl, rfl, _, _, rfl, by omega, hd.2 r r1, ⟨c' + 1, upd_same, by omega, by omega⟩, fun x hx => ?_⟩
      · rw [upd_ne hx]
        exact bt x hx
    · obtain ⟨d, y, rfl, d0, d1, ⟨c', e1, c2, c3⟩, bt⟩ := hP
      refine ⟨_, rfl, .inl ⟨_, rfl, _, rfl, _, _, rfl, rfl, by omega, fun r r0 r1 _ => ?_⟩⟩
      exact q r _ r0 r1 ⟨a, b, c', e1, a0, a1, b0, b1, c2, by omega⟩ bt
theorem same_new {H : Hp} {p : Addr} {o : HO} (h : H p = none) : Same H (upd H p o) := fun b x e => by
  rw [upd_ne (ne_of_none e h)]
  exact e
def spCell (K : PySem.W.Frag) : Sp := fun vs H Q _ => ∃ (a : Addr) (ns : List Int) (i : Nat), vs = [.ref a, .int i] ∧ SqL K H a (ns.map V.int) ∧ ∀ (r : Int) (H' : Hp), Same H H' → Q (.int r) H'
theorem ok_cell {f : Addr} {fd : FuncData} (F : Fun K "_law_cell" "_law_cell" sCell f fd) (ml : mg "len" = none) (ms : mg "sum" = none) : FnOk P w K mg base CX0 1 f fd ["script", "index"] (spCell K) := by
  refine F.ok scCell (fun vs H Q E h => ?_) (fun cdv A outer s H vs Q E hr h => ?_)
  · obtain ⟨a, ns, i, rfl, _⟩ := h
    rfl
  obtain ⟨a, ns, i, rfl, L, q⟩ := h
  refine ⟨_, pss_cons (ps_if (pt_cmpR op_lt (pv 1) (pe_callB call_len_seq (by rfl) ml PySem.boot_len (pa_cons (pv 0) pa_nil)) (nomark _)) (pss_one (ps_ret (pe_ix ix_list (pv 0) (pv 1) (fun _ _ => rfl)))) pss_nil)
    (pss_one (ps_ret (pe_op op_modL (pe_callB (cr_sum rfl) (by rfl) ms (by decide +kernel) (pa_cons (pe_slice sl_list (pv 0) po_none (po_some pe_int)) pa_nil)) pe_int))), ?_⟩
  refine ⟨_, rfl, _, rfl, a, _, rfl, .inl L, _, _, rfl, rfl, _, rfl, ite2 (fun hi => ?_) fun _ => ?_⟩
  · have hl : i < ns.length := by
      have e := of_decide_eq_true hi
      rw [List.length_map] at e
      omega
    refine ⟨_, rfl, _, rfl, a, _, _, _, rfl, rfl, L, atI_nat (v := .int ns[i]) ?_, q _ _ (Same.refl _)⟩
    rw [List.getElem?_map, List.getElem?_eq_getElem hl]
    rfl
  · refine ⟨_, rfl, 1, rfl, a, _, rfl, L, fun p hp => ?_⟩
    have e : cutV (ns.map V.int) none (some 1) = (ns.take (HT.sIx (ns.map V.int).length (ns.map V.int).length (some 1) - HT.sIx (ns.map V.int).length 0 none) |>.map V.int) := by
      unfold cutV
      rw [HT.sIx_none, List.drop_zero, List.map_take]
    rw [e]
    exact ⟨p, _, rfl, SqL.of upd_same, _, _, rfl, rfl, by decide, fun r _ _ _ => q r _ (same_new hp)⟩
theorem op_powW {X : Cx} : OpR X (binaryOp .Pow) (rI (fun i j => 0 ≤ j ∧ (Builtin.Int.intBits i : Int) * j ≤ 2 ^ 27) fun i j => .int (i ^ j.toNat)) := opI fun _ _ _ _ _ _ _ hc q => pow_int hc.1 hc.2 q
def spGenerator (K : PySem.W.Frag) : Sp := fun vs H Q _ => ∃ (a : Addr) (ns : List Int) (i : Nat), vs = [.ref a, .int i] ∧ i ≤ 100 ∧ SqL K H a (ns.map V.int) ∧ ∀ (p : Addr) (H' : Hp), Same H H' → H p = none → Gen H' p (1000 * i) → Q (.ref p) H'
theorem ok_generator {f fc : Addr} {fd fdc : FuncData} (F : Fun K "_law_generator" "_law_generator" sGenerator f fd) (G : FnOk P w K mg base CX0 1 fc fdc ["script", "index"] (spCell K)) (bc : Binds K fdc ["script", "index"] []) (kc : PySem.W.keepIn K (.ref fc) = true) (mc : mg "_law_cell" = some (.ref fc))
    (mi : mg "int" = none) (mm : mg "max" = none) : FnOk P w K mg base CX0 2 f fd ["script", "index"] (spGenerator K) := by
  refine F.ok scGenerator (fun vs H Q E h => ?_) (fun cdv A outer s H vs Q E hr h => ?_)
  · obtain ⟨a, ns, i, rfl, _⟩ := h
    rfl
  obtain ⟨a, ns, i, rfl, hi, L, q⟩ := h
  refine ⟨_, pss_cons (ps_set (i := 2) scGenerator.nd rfl (.inl rfl) (pe_call G (hr.mono (by decide)) rfl mc kc bc .nil pass0 (pa_cons (pv 0) (pa_cons (pv 1) pa_nil))))
    (pss_one (ps_ret (pe_lst (pa_cons (pe_op op_modL (pe_callTy call_int1 (by rfl) mi (by decide +kernel) (pa_cons (pe_callB (call_max2 rfl) (by rfl) mm (by decide +kernel) (pa_cons (pe_op op_sub (pv 2) (pe_op op_pow pe_int pe_int)) (pa_cons pe_int pa_nil))) pa_nil)) (pe_op op_powW (pe_op op_pow pe_int pe_int) pe_int))
      (pa_cons (pe_op op_modL (pe_callTy call_int1 (by rfl) mi (by decide +kernel) (pa_cons (pv 2) pa_nil)) pe_int) (pa_cons (pe_op op_mul pe_int (pv 1)) pa_nil)))))), ?_⟩
  refine ⟨_, rfl, _, rfl, a, ns, i, rfl, L, fun seed H1 s1 => ?_⟩
  refine ⟨_, rfl, _, _, rfl, rfl, ⟨by decide, by decide, by decide⟩, _, _, rfl, rfl, _, _, rfl, .inl ⟨_, rfl, ?_⟩⟩
  refine ⟨_, _, rfl, rfl, ⟨by decide, by decide, by decide⟩, _, _, rfl, rfl, ⟨by decide, by decide +kernel⟩, ?_⟩
  refine ⟨_, _, rfl, rfl, by decide +kernel, fun x x0 x1 _ => ?_⟩
  refine ⟨_, rfl, .inl ⟨_, rfl, _, _, rfl, rfl, by decide, fun y y0 y1 _ => ?_⟩⟩
  refine ⟨_, rfl, _, _, rfl, rfl, .inl ⟨by decide, by decide⟩, ?_⟩
  refine ⟨by show 3 ≤ sizeLine; decide, fun p hp => ?_⟩
  refine q p _ (s1.trans (same_new hp)) (s1.free hp) ⟨x, y, _, upd_same, x0, ?_, y0, y1, by omega, by omega⟩
  exact wide_le x0 (Int.le_of_lt x1) (by decide +kernel)
end
end DQ

set_option Elab.async false
set_option linter.all false
set_option maxRecDepth 100000
set_option maxHeartbeats 1000000
namespace DQ
open PySem PySem.Spec PyProof.Rows
open L2 (Hp V VK XK R2 OpR SqL SqT Inv RelV Vals HOk Cx)
/-! ### data on the heap, empty dicts among it -/
mutual
inductive Dp (K : PySem.W.Frag) (H : Hp) : V → PyData → Prop
  | non : Dp K H .non .none
  | bl (b : Bool) : Dp K H (.bl b) (.bool b)
  | int (i : Int) : Dp K H (.int i) (.int i)
  | str (x : Str) : Dp K H (.str x) (.str x)
  | lst {a : Addr} {xs : List V} {ds : List PyData} (h : SqL K H a xs) (r : DpAll K H xs ds) : Dp K H (.ref a) (.list ds)
  | tup {a : Addr} {xs : List V} {ds : List PyData} (h : SqT K H a xs) (r : DpAll K H xs ds) : Dp K H (.ref a) (.tuple ds)
  | dct {a : Addr} (h : H a = some (.dK [])) : Dp K H (.ref a) (.dict [])
inductive DpAll (K : PySem.W.Frag) (H : Hp) : List V → List PyData → Prop
  | nil : DpAll K H [] []
  | cons {v : V} {vs : List V} {d : PyData} {ds : List PyData} (h : Dp K H v d) (r : DpAll K H vs ds) : DpAll K H (v :: vs) (d :: ds)
end
mutual
theorem Dp.old {K : PySem.W.Frag} {H : Hp} : ∀ (d : PyData) {v : V}, Dp K H v d → d.hasDict = false → L2.Dp K H v d
  | .none, _, h, _ => by cases h; exact .non
  | .bool b, _, h, _ => by cases h; exact .bl b
  | .int i, _, h, _ => by cases h; exact .int i
  | .str x, _, h, _ => by cases h; exact .str x
  | .list ds, _, h, n => by
    cases h with
    | lst h r => exact .lst h (DpAll.old ds r (by simpa only [PyData.hasDict] using n))
  | .tuple ds, _, h, n => by
    cases h with
    | tup h r => exact .tup h (DpAll.old ds r (by simpa only [PyData.hasDict] using n))
  | .dict _, _, _, n => by simp [PyData.hasDict] at n
theorem DpAll.old {K : PySem.W.Frag} {H : Hp} : ∀ (ds : List PyData) {vs : List V}, DpAll K H vs ds → PyData.hasDictAll ds = false → L2.DpAll K H vs ds
  | [], _, h, _ => by cases h; exact .nil
  | d :: ds, _, h, n => by
    simp only [PyData.hasDictAll, Bool.or_eq_false_iff] at n
    cases h with
    | cons a b => exact .cons (Dp.old d a n.1) (DpAll.old ds b n.2)
end
mutual
theorem Dp.reads {X : Cx} {pins : List (Addr × Obj)} {σ : L2.St} {H : Hp} {s : Shared} (I : Inv X pins σ H s) : ∀ (d : PyData) (v : V) (u : Value), Dp X.K H v d → RelV v u → ∃ as, Reads s.heap u d as
  | .none, _, _, h, r => by cases h; cases r; exact ⟨_, Reads.none⟩
  | .bool b, _, _, h, r => by cases h; cases r; exact ⟨_, Reads.bool b⟩
  | .int i, _, _, h, r => by
    cases h
    obtain ⟨t, rfl⟩ := r
    exact ⟨_, Reads.int i t⟩
  | .str x, _, _, h, r => by
    cases h
    obtain ⟨t, rfl⟩ := r
    exact ⟨_, Reads.str x t⟩
  | .list ds, _, _, h, r => by
    cases h with
    | lst hs ha =>
      obtain rfl : _ = Value.ref _ := r
      obtain ⟨its, rv, ⟨o, n, ho, hc, _, hd⟩, _⟩ := I.list hs
      obtain ⟨as, hr⟩ := DpAll.reads I ds _ its ha rv
      exact ⟨_, Reads.list ho hc hd hr⟩
  | .tuple ds, _, _, h, r => by
    cases h with
    | tup hs ha =>
      obtain rfl : _ = Value.ref _ := r
      obtain ⟨its, rv, ⟨o, ho, hc, n, hd⟩, _⟩ := I.tuple hs
      obtain ⟨as, hr⟩ := DpAll.reads I ds _ its ha rv
      exact ⟨_, Reads.tuple ho hc hd hr⟩
  | .dict kvs, _, _, h, r => by
    cases h with
    | dct hs =>
      obtain rfl : _ = Value.ref _ := r
      obtain ⟨_, _, vs, kv, o, es, ep, ho, ex, hd, _, ps, _⟩ := L2.dk_of I.hok hs
      have e0 : vs = [] := by
        cases kv
        rfl
      subst e0
      have l := PySem.Pairs.length ps
      have e1 : es.toList = [] := List.length_eq_zero_iff.mp (by simpa using l)
      refine ⟨_, Reads.dict ho ex.1 hd (as := []) (bs := []) ?_ ?_⟩
      · rw [e1]
        exact ReadsAll.nil
      · rw [e1]
        exact ReadsAll.nil
theorem DpAll.reads {X : Cx} {pins : List (Addr × Obj)} {σ : L2.St} {H : Hp} {s : Shared} (I : Inv X pins σ H s) : ∀ (ds : List PyData) (vs : List V) (us : List Value), DpAll X.K H vs ds → Vals vs us → ∃ as, ReadsAll s.heap us ds as
  | [], _, _, h, r => by cases h; cases r; exact ⟨_, ReadsAll.nil⟩
  | d :: ds, _, _, h, r => by
    cases h with
    | cons h1 h2 =>
      cases r with
      | cons r1 r2 =>
        obtain ⟨as, q1⟩ := Dp.reads I d _ _ h1 r1
        obtain ⟨bs, q2⟩ := DpAll.reads I ds _ _ h2 r2
        exact ⟨_, ReadsAll.cons q1 q2⟩
end
theorem shaped_plain {d : PyData} (h : SeqAt.shaped d = true) : d.hasDict = false := PyData.hasDict_of_canLay d (SeqAt.canLay_of_shaped h)
section
variable {X : Cx}
def rEqD (K : PySem.W.Frag) : R2 := fun x y H Q => ∃ d e, Dp K H x d ∧ Dp K H y e ∧ SeqAt.shaped d = true ∧ SeqAt.shaped e = true ∧ Q (.bl (PyData.eqv d e)) H
def rNeD (K : PySem.W.Frag) : R2 := fun x y H Q => ∃ d e, Dp K H x d ∧ Dp K H y e ∧ SeqAt.shaped d = true ∧ SeqAt.shaped e = true ∧ Q (.bl (!PyData.eqv d e)) H
theorem op_eqD (hu : X.A.units + 64 < cLine) : OpR X (compareOp .Eq) (rEqD X.K) := opr_mono (L2.op_eqD hu) fun x y H Q ⟨d, e, hd, he, sd, se, q⟩ => ⟨d, e, hd.old d (shaped_plain sd), he.old e (shaped_plain se), sd, se, q⟩
theorem op_neD (hu : X.A.units + 64 < cLine) : OpR X (compareOp .NotEq) (rNeD X.K) := opr_mono (L2.op_neD hu) fun x y H Q ⟨d, e, hd, he, sd, se, q⟩ => ⟨d, e, hd.old d (shaped_plain sd), he.old e (shaped_plain se), sd, se, q⟩
def rInD (K : PySem.W.Frag) : R2 := fun x y H Q => ∃ d ds, Dp K H x d ∧ Dp K H y (.list ds) ∧ SeqAt.shaped d = true ∧ SeqAt.shaped (.list ds) = true ∧ Q (.bl (ds.any fun z => PyData.eqv z d)) H
def rNotInD (K : PySem.W.Frag) : R2 := fun x y H Q => ∃ d ds, Dp K H x d ∧ Dp K H y (.list ds) ∧ SeqAt.shaped d = true ∧ SeqAt.shaped (.list ds) = true ∧ Q (.bl (!ds.any fun z => PyData.eqv z d)) H
theorem op_inD (hu : X.A.units + 65 < cLine) : OpR X (compareOp .In) (rInD X.K) := opr_mono (L2.op_inD hu) fun x y H Q ⟨d, ds, hd, he, sd, se, q⟩ => ⟨d, ds, hd.old d (shaped_plain sd), he.old _ (shaped_plain se), sd, se, q⟩
theorem op_notInD (hu : X.A.units + 65 < cLine) : OpR X (compareOp .NotIn) (rNotInD X.K) := opr_mono (L2.op_notInD hu) fun x y H Q ⟨d, ds, hd, he, sd, se, q⟩ => ⟨d, ds, hd.old d (shaped_plain sd), he.old _ (shaped_plain se), sd, se, q⟩
end
end DQ

set_option Elab.async false
set_option linter.all false
set_option maxRecDepth 100000
set_option maxHeartbeats 4000000
namespace DQ
open PySem PySem.Spec PyProof.Rows L2
abbrev sOrder : Stmt := topS 55
theorem scOrder : FnScope ["generator", "things", "left", "found"] ["generator", "things"] (defScope sOrder) := ⟨rfl, rfl, rfl, by decide +kernel, rfl, by decide +kernel, by decide +kernel⟩
/-! ### data read off the heap -/
theorem dp_ints {K : PySem.W.Frag} {H : Hp} : ∀ ns : List Int, DpAll K H (ns.map V.int) (ns.map PyData.int)
  | [] => .nil
  | n :: r => .cons (.int n) (dp_ints r)
theorem flat_ints : ∀ ns : List Int, PyData.canLayAll0 (ns.map PyData.int) = true ∧ PyData.depthAll (ns.map PyData.int) = 0
  | [] => ⟨rfl, rfl⟩
  | n :: r => ⟨by show (true && PyData.canLayAll0 (r.map PyData.int)) = true; rw [(flat_ints r).1]; rfl, by show max 0 (PyData.depthAll (r.map PyData.int)) = 0; rw [(flat_ints r).2]; rfl⟩
theorem shaped_of {d : PyData} (h1 : d.canLay0 = true) (h2 : d.depth ≤ 64) : SeqAt.shaped d = true := by
  unfold SeqAt.shaped
  rw [h1, decide_eq_true h2]
  rfl
theorem shaped_ints (ns : List Int) : SeqAt.shaped (.list (ns.map PyData.int)) = true := shaped_of (flat_ints ns).1 (by show PyData.depthAll (ns.map PyData.int) + 1 ≤ 64; rw [(flat_ints ns).2]; decide)
/-- all but what stands at g stays, new things may come -/
def Keep (g : Addr) (H H' : Hp) : Prop := ∀ b o, b ≠ g → H b = some o → H' b = some o
theorem Keep.refl (g : Addr) (H : Hp) : Keep g H H := fun _ _ _ h => h
theorem Keep.trans {g : Addr} {H H1 H2 : Hp} (a : Keep g H H1) (b : Keep g H1 H2) : Keep g H H2 := fun c o n h => b c o n (a c o n h)
theorem Keep.of_same {g : Addr} {H H' : Hp} (s : Same H H') : Keep g H H' := fun b o _ h => s b o h
theorem Keep.of_but {g : Addr} {H H' : Hp} (s : But g H H') : Keep g H H' := fun b o n h => (s b n).trans h
theorem Keep.seq {K : PySem.W.Frag} {g a : Addr} {H H' : Hp} {xs : List V} (k : Keep g H H') (ne : a ≠ g) (h : SqL K H a xs) : SqL K H' a xs := by
  rcases h with (h | ⟨o, h⟩) | h
  · exact .inl (.inl (k _ _ ne h))
  · exact .inl (.inr ⟨o, k _ _ ne h⟩)
  · exact .inr h
theorem Gen.at {H : Hp} {g : Addr} {n : Int} (h : Gen H g n) : ∃ o, H g = some o := let ⟨_, _, _, e, _⟩ := h; ⟨_, e⟩
theorem Gen.same {H H' : Hp} {g : Addr} {n : Int} (h : Gen H g n) (s : Same H H') : Gen H' g n := by
  obtain ⟨a, b, c, e, r⟩ := h
  exact ⟨a, b, c, s _ _ e, r⟩
theorem Gen.upd {H : Hp} {g b : Addr} {n : Int} {o : HO} (h : Gen H g n) (ne : g ≠ b) : Gen (upd H b o) g n := by
  obtain ⟨x, y, c, e, r⟩ := h
  exact ⟨x, y, c, by rw [upd_ne ne]; exact e, r⟩
theorem Gen.ne {H : Hp} {g p : Addr} {n : Int} (h : Gen H g n) (hp : H p = none) : p ≠ g := fun e => by
  obtain ⟨o, z⟩ := h.at
  rw [← e, hp] at z
  cases z
theorem But.free {g p : Addr} {H H' : Hp} {n : Int} (k : But g H H') (G : Gen H g n) (h : H p = none) : H' p = none := (k p (G.ne h)).trans h
/-- what was free before is free unless something was put there -/
theorem Keep.free {g p : Addr} {H H' : Hp} (k : Keep g H H') (G : ∃ o, H g = some o) (h : H' p = none) (hg : ∃ o, H' g = some o) : H p = none := by
  by_cases e : p = g
  · obtain ⟨o, z⟩ := hg
    rw [e, z] at h
    cases h
  · cases q : H p with
    | none => rfl
    | some o =>
      rw [k p o e q] at h
      cases h
theorem perm_erase {α : Type} : ∀ {l : List α} {k : Nat} {y : α}, l[k]? = some y → (y :: l.eraseIdx k).Perm l
  | [], k, y, h => by simp at h
  | x :: l, 0, y, h => by
    have e : x = y := by simpa using h
    subst e
    exact List.Perm.refl _
  | x :: l, k + 1, y, h => by
    have h' : l[k]? = some y := by simpa using h
    exact (List.Perm.swap x y (l.eraseIdx k)).trans ((perm_erase h').cons x)
theorem seq_at {r : Int} {m : Nat} (h0 : 0 ≤ r) (h1 : r < m) : seqIndex? r m = some r.toNat := by
  show (if (decide (0 ≤ (if r < 0 then r + m else r)) && decide ((if r < 0 then r + m else r) < m)) = true then some (if r < 0 then r + m else r).toNat else none) = _
  rw [if_neg (show ¬ r < 0 by omega), decide_eq_true h0, decide_eq_true h1]
  rfl
/-- how long the list at l is -/
def size (H : Hp) (l : Addr) : Nat := match H l with
  | some (.lst xs) => xs.length
  | _ => 0
theorem size_of {H : Hp} {l : Addr} {xs : List V} (h : H l = some (.lst xs)) : size H l = xs.length := by
  unfold size
  rw [h]
theorem map_erase {α β : Type} (f : α → β) : ∀ (l : List α) (k : Nat), (l.map f).eraseIdx k = (l.eraseIdx k).map f
  | [], _ => rfl
  | _ :: _, 0 => rfl
  | x :: l, k + 1 => congrArg (f x :: ·) (map_erase f l k)
section
variable {P : Program} {w : World} {K : PySem.W.Frag} {mg : Str → Option Value} {base : Heap}
/-- the same numbers in some order, in a new list -/
def spOrder (K : PySem.W.Frag) : Sp := fun vs H Q _ => ∃ (g t : Addr) (ns : List Int) (n : Int), vs = [.ref g, .ref t] ∧ SqL K H t (ns.map V.int) ∧ t ≠ g ∧ Gen H g n ∧ ns.length ≤ 100 ∧ n + 3 * ns.length ≤ 1073741824 ∧
  ∀ (p : Addr) (ms : List Int) (H' : Hp), ms.Perm ns → Keep g H H' → H p = none → H' p = some (.lst (ms.map V.int)) → Gen H' g (n + 3 * ns.length) → Q (.ref p) H'
theorem ok_order {f fr : Addr} {fd fdr : FuncData} (F : Fun K "_law_drawn_order" "_law_drawn_order" sOrder f fd) (G : FnOk P w K mg base CX0 2 fr fdr ["generator", "bound"] spRandom) (br : Binds K fdr ["generator", "bound"] []) (kr : PySem.W.keepIn K (.ref fr) = true) (mr : mg "_law_random" = some (.ref fr))
    (ml : mg "list" = none) (mn : mg "len" = none) : FnOk P w K mg base CX0 3 f fd ["generator", "things"] (spOrder K) := by
  refine F.ok scOrder (fun vs H Q E h => ?_) (fun cdv A outer s H vs Q E hr h => ?_)
  · obtain ⟨g, t, ns, n, rfl, _⟩ := h
    rfl
  obtain ⟨g, t, ns, n, rfl, L, ntg, gen, h100, hn, q⟩ := h
  have nd := scOrder.nd
  refine ⟨_, pss_cons (ps_par (i := 2) (j := 3) rfl nd rfl rfl (by decide) rfl rfl (pa_cons (pe_callTy call_list_of (by rfl) ml (by decide +kernel) (pa_cons (pv 1) pa_nil)) (pa_cons (pe_lst pa_nil) pa_nil)) (by rfl))
    (pss_cons (ps_while PassesOwn.never (pt_cmpR (op_neD hr.units) (pv 2) (pe_lst pa_nil) (nomark _))
      (pss_one (ps_expr (pe_bm PySem.F.plainAttrs_list PySem.F.slot_list_append PySem.F.type_list_append mt_append (pv 3) (pa_cons
        (pe_bm PySem.F.plainAttrs_list PySem.F.slot_list_pop PySem.F.type_list_pop mt_popAt (pv 2) (pa_cons
          (pe_call G (hr.mono (by decide)) rfl mr kr br .nil pass0 (pa_cons (pv 0) (pa_cons (pe_callB call_len_seq (by rfl) mn PySem.boot_len (pa_cons (pv 2) pa_nil)) pa_nil))) pa_nil)) pa_nil)))))
    (pss_one (ps_ret (pv 3)))), ?_⟩
  refine ⟨_, rfl, t, _, rfl, .inl L, fun l nl => ⟨Nat.zero_le _, fun p np => ⟨_, _, rfl, ?_⟩⟩⟩
  have npl : p ≠ l := fun e => by
    rw [e, upd_same] at np
    cases np
  have np0 : H p = none := by
    rw [upd_ne npl] at np
    exact np
  have nlg : l ≠ g := gen.ne nl
  have npg : p ≠ g := gen.ne np0
  refine while_by (fun σ H' => ∃ ls fs : List Int, σ = [some (.ref g), some (.ref t), some (.ref l), some (.ref p)] ∧ (fs ++ ls).Perm ns ∧ Keep g H H' ∧ H' l = some (.lst (ls.map V.int)) ∧ H' p = some (.lst (fs.map V.int)) ∧ Gen H' g (n + 3 * fs.length)) (fun _ H' => size H' l)
    ⟨ns, [], rfl, List.Perm.refl _, Keep.of_same ((same_new nl).trans (same_new np)), by rw [upd_ne npl.symm, upd_same], upd_same, by simpa using (gen.upd nlg.symm).upd npg.symm⟩ (fun σ H' hP => ?_) fun σ H' Q Q' h hc => ?_
  · obtain ⟨ls, fs, rfl, pm, kp, el, ep, gn⟩ := hP
    refine ⟨_, rfl, Nat.zero_le _, fun e ne => ?_⟩
    have nel : l ≠ e := ne_of_none el ne
    have nep : p ≠ e := ne_of_none ep ne
    have me := same_new ne (o := .lst [])
    refine ⟨_, .list [], .lst (SqL.of (me _ _ el)) (dp_ints ls), .lst (SqL.of upd_same) .nil, shaped_ints ls, by decide +kernel, ?_⟩
    cases ls with
    | nil =>
      refine ⟨false, rfl, ?_⟩
      rw [List.append_nil] at pm
      refine ⟨_, rfl, q p fs _ pm (kp.trans (Keep.of_same me)) np0 (me _ _ ep) ?_⟩
      rw [← pm.length_eq]
      exact gn.same me
    | cons y ys =>
      refine ⟨true, rfl, ?_⟩
      have hlen : (fs ++ y :: ys).length = ns.length := pm.length_eq
      rw [List.length_append, List.length_cons] at hlen
      refine ⟨_, rfl, .inl ⟨rfl, _, SqL.of (me _ _ ep)⟩, _, rfl, .inl ⟨rfl, _, SqL.of (me _ _ el)⟩, _, rfl, _, rfl, l, _, rfl, .inl (SqL.of (me _ _ el)), g, _, _, rfl, gn.same me, ?_, ?_, ?_, fun r H2 r0 r1 gn2 bt => ?_⟩
      · rw [List.length_map, List.length_cons]
        omega
      · rw [List.length_map, List.length_cons]
        omega
      · omega
      rw [List.length_map] at r1
      have hc : (y :: ys).length = ys.length + 1 := rfl
      have hk : r.toNat < (y :: ys).length := by omega
      have el2 : H2 l = some (.lst ((y :: ys).map V.int)) := (bt l nlg).trans (me _ _ el)
      have ep2 : H2 p = some (.lst (fs.map V.int)) := (bt p npg).trans (me _ _ ep)
      have eg : ((y :: ys).map V.int)[r.toNat]? = some (.int ((y :: ys)[r.toNat])) := by
        rw [List.getElem?_map, List.getElem?_eq_getElem hk]
        rfl
      refine ⟨l, _, r, r.toNat, _, rfl, rfl, el2, by omega, by omega, seq_at r0 (by rw [List.length_map]; exact r1), eg, ?_⟩
      refine ⟨p, _, _, rfl, rfl, by rw [upd_ne npl]; exact ep2, ?_, ?_⟩
      · rw [List.length_map]
        exact small1000 (by omega)
      have keep2 : Keep g H H2 := (kp.trans (Keep.of_same me)).trans (Keep.of_but bt)
      refine ⟨⟨(y :: ys).eraseIdx r.toNat, fs ++ [(y :: ys)[r.toNat]], rfl, ?_, fun b o nb eb => ?_, ?_, ?_, ?_⟩, ?_⟩
      · rw [List.append_assoc]
        exact (List.Perm.append_left fs (perm_erase (List.getElem?_eq_getElem hk))).trans pm
      · rw [upd_ne (ne_of_none eb np0), upd_ne (ne_of_none eb nl)]
        exact keep2 b o nb eb
      · rw [upd_ne npl.symm, upd_same, map_erase]
      · rw [upd_same, List.map_append]
        rfl
      · rw [List.length_append, List.length_singleton]
        exact ((gn2.upd nlg.symm).upd npg.symm).mono (by omega)
      · show size _ l < size _ l
        rw [size_of (show upd (upd H2 l _) p _ l = some (.lst _) by rw [upd_ne npl.symm, upd_same]), size_of el, List.length_eraseIdx, if_pos (by rw [List.length_map]; exact hk), List.length_map]
        omega
  · obtain ⟨v, e, l0, hp⟩ := hc
    exact ⟨v, e, l0, fun p hp' => let ⟨d, e', a1, a2, a3, a4, k, e5, z⟩ := hp p hp'; ⟨d, e', a1, a2, a3, a4, k, e5, h _ _ z⟩⟩
end
end DQ

namespace DQ
/-- one-to-one: no first twice, no second twice, all among the items -/
def OneToOne (ns : List Int) (ps : List (Int × Int)) : Prop := (ps.map (·.1)).Nodup ∧ (ps.map (·.2)).Nodup ∧ ∀ p ∈ ps, p.1 ∈ ns ∧ p.2 ∈ ns
theorem OneToOne.sub {ns : List Int} {ps qs : List (Int × Int)} (h : OneToOne ns qs) (s : ps.Sublist qs) : OneToOne ns ps :=
  ⟨(s.map (·.1)).nodup h.1, (s.map (·.2)).nodup h.2.1, fun p hp => h.2.2 p (s.subset hp)⟩
theorem zip_fst_sub : ∀ (l m : List Int), ((l.zip m).map (·.1)).Sublist l
  | [], m => by simp
  | x :: l, [] => by simp
  | x :: l, y :: m => by
    show (x :: (l.zip m).map (·.1)).Sublist (x :: l)
    exact (zip_fst_sub l m).cons₂ x
theorem zip_snd_sub : ∀ (l m : List Int), ((l.zip m).map (·.2)).Sublist m
  | [], m => by simp
  | x :: l, [] => by simp
  | x :: l, y :: m => by
    show (y :: (l.zip m).map (·.2)).Sublist (y :: m)
    exact (zip_snd_sub l m).cons₂ y
theorem oneToOne_zip {ns l m : List Int} (hl : l.Nodup) (hm : m.Nodup) (sl : ∀ x ∈ l, x ∈ ns) (sm : ∀ x ∈ m, x ∈ ns) : OneToOne ns (l.zip m) :=
  ⟨(zip_fst_sub l m).nodup hl, (zip_snd_sub l m).nodup hm, fun p hp => ⟨sl _ ((zip_fst_sub l m).subset (List.mem_map.mpr ⟨p, hp, rfl⟩)), sm _ ((zip_snd_sub l m).subset (List.mem_map.mpr ⟨p, hp, rfl⟩))⟩⟩
/-- no item twice, all of them in m -/
def Inj (l m : List Int) : Prop := l.Nodup ∧ ∀ x ∈ l, x ∈ m
theorem Inj.append {l1 l2 m1 m2 : List Int} (a : Inj l1 m1) (b : Inj l2 m2) (h : (m1 ++ m2).Nodup) : Inj (l1 ++ l2) (m1 ++ m2) := by
  refine ⟨List.nodup_append.mpr ⟨a.1, b.1, fun x hx y hy e => ?_⟩, fun x hx => ?_⟩
  · exact (List.nodup_append.mp h).2.2 x (a.2 x hx) y (b.2 y hy) e
  · rcases List.mem_append.mp hx with z | z
    · exact List.mem_append_left _ (a.2 x z)
    · exact List.mem_append_right _ (b.2 x z)
theorem ring_fst : ∀ (x : Int) (r : List Int), (((x :: r).zip r).map (·.1)) ++ [(x :: r).getLast (by simp)] = x :: r
  | x, [] => rfl
  | x, y :: r => by
    have ih := ring_fst y r
    show x :: ((((y :: r).zip r).map (·.1)) ++ [(x :: y :: r).getLast (by simp)]) = x :: y :: r
    rw [List.getLast_cons (by simp)]
    exact congrArg (x :: ·) ih
theorem ring_snd : ∀ (x : Int) (r : List Int), ((x :: r).zip r).map (·.2) = r
  | x, [] => rfl
  | x, y :: r => congrArg (y :: ·) (ring_snd y r)
/-- the links of one ring, open or closed -/
def ringOf (x : Int) (r : List Int) (closed : Bool) : List (Int × Int) := (x :: r).zip r ++ if closed = true then [((x :: r).getLast (by simp), x)] else []
theorem ring_inj {x : Int} {r : List Int} {closed : Bool} (h : (x :: r).Nodup) : Inj ((ringOf x r closed).map (·.1)) (x :: r) ∧ Inj ((ringOf x r closed).map (·.2)) (x :: r) := by
  unfold ringOf
  cases closed with
  | true =>
    rw [if_pos rfl, List.map_append, List.map_append]
    constructor
    · show Inj (((x :: r).zip r).map (·.1) ++ [(x :: r).getLast (by simp)]) (x :: r)
      rw [ring_fst]
      exact ⟨h, fun _ z => z⟩
    · show Inj (((x :: r).zip r).map (·.2) ++ [x]) (x :: r)
      rw [ring_snd]
      have pm : (r ++ [x]).Perm (x :: r) := List.perm_append_comm
      exact ⟨pm.nodup_iff.mpr h, fun y hy => pm.subset hy⟩
  | false =>
    rw [if_neg (by simp), List.append_nil]
    refine ⟨⟨(zip_fst_sub _ _).nodup h, fun y hy => (zip_fst_sub _ _).subset hy⟩, ?_⟩
    rw [ring_snd]
    exact ⟨(List.nodup_cons.mp h).2, fun y hy => List.mem_cons_of_mem _ hy⟩
theorem inj_oneToOne {ns ms : List Int} {ps : List (Int × Int)} (a : Inj (ps.map (·.1)) ms) (b : Inj (ps.map (·.2)) ms) (h : ∀ x ∈ ms, x ∈ ns) : OneToOne ns ps :=
  ⟨a.1, b.1, fun p hp => ⟨h _ (a.2 _ (List.mem_map.mpr ⟨p, hp, rfl⟩)), h _ (b.2 _ (List.mem_map.mpr ⟨p, hp, rfl⟩))⟩⟩
theorem zip_at {l m : List Int} {i : Nat} {a b : Int} (ha : l[i]? = some a) (hb : m[i]? = some b) : (l.zip m)[i]? = some (a, b) := by
  rw [List.getElem?_zip_eq_some]
  exact ⟨ha, hb⟩
theorem take_next {α : Type} {l : List α} {i : Nat} {x : α} (h : l[i]? = some x) : l.take (i + 1) = l.take i ++ [x] := by
  rw [List.take_add_one, h]
  rfl
theorem sub_skip {α : Type} {ps l : List α} {i : Nat} {x : α} (s : ps.Sublist (l.take i)) (h : l[i]? = some x) : ps.Sublist (l.take (i + 1)) := by
  rw [take_next h]
  exact s.trans (List.sublist_append_left _ _)
theorem sub_put {α : Type} {ps l : List α} {i : Nat} {x : α} (s : ps.Sublist (l.take i)) (h : l[i]? = some x) : (ps ++ [x]).Sublist (l.take (i + 1)) := by
  rw [take_next h]
  exact s.append (List.Sublist.refl _)
end DQ

set_option Elab.async false
set_option linter.all false
set_option maxRecDepth 100000
set_option maxHeartbeats 4000000
namespace DQ
open PySem PySem.Spec PyProof.Rows L2
/-- the tuples that stand at a list's places -/
def Tups (H : Hp) (rs : List V) (ts : List (List V)) : Prop := Paired (fun (r : V) (t : List V) => ∃ a, r = .ref a ∧ H a = some (.tup t)) rs ts
def pairV (p : Int × Int) : List V := [.int p.1, .int p.2]
/-- tuples stay -/
def TupKeep (H H' : Hp) : Prop := ∀ a t, H a = some (.tup t) → H' a = some (.tup t)
theorem TupKeep.trans {H H1 H2 : Hp} (a : TupKeep H H1) (b : TupKeep H1 H2) : TupKeep H H2 := fun c t h => b c t (a c t h)
theorem tk_same {H H' : Hp} (s : Same H H') : TupKeep H H' := fun a t h => s a _ h
theorem tk_keep {g : Addr} {H H' : Hp} {n : Int} (k : Keep g H H') (G : Gen H g n) : TupKeep H H' := fun a t h => k a _ (fun e => by
  obtain ⟨x, y, z, eg, _⟩ := G
  rw [e, eg] at h
  cases h) h
theorem tk_lst {H : Hp} {D : Addr} {xs ys : List V} (h : H D = some (.lst xs)) : TupKeep H (upd H D (.lst ys)) := fun a t e => by
  rw [upd_ne (ne_of e h (by intro z; cases z))]
  exact e
theorem Tups.keep {H H' : Hp} (k : TupKeep H H') : ∀ {rs : List V} {ts : List (List V)}, Tups H rs ts → Tups H' rs ts
  | _, _, .nil => .nil
  | _, _, .cons ⟨a, e, h⟩ r => .cons ⟨a, e, k _ _ h⟩ (Tups.keep k r)
theorem Tups.put {H : Hp} {a : Addr} {t : List V} (e : H a = some (.tup t)) : ∀ {rs : List V} {ts : List (List V)}, Tups H rs ts → Tups H (rs ++ [.ref a]) (ts ++ [t])
  | _, _, .nil => .cons ⟨a, rfl, e⟩ .nil
  | _, _, .cons h r => .cons h (Tups.put e r)
theorem Tups.append {H : Hp} : ∀ {rs : List V} {ts : List (List V)} {rs' : List V} {ts' : List (List V)}, Tups H rs ts → Tups H rs' ts' → Tups H (rs ++ rs') (ts ++ ts')
  | _, _, _, _, .nil, s => s
  | _, _, _, _, .cons h r, s => .cons h (Tups.append r s)
theorem Keep.upd_new {g b : Addr} {H H' : Hp} {o : HO} (k : Keep g H H') (h : H b = none) : Keep g H (upd H' b o) := fun a x n e => by
  rw [upd_ne (ne_of_none e h)]
  exact k a x n e
theorem at_ints {ms : List Int} {i : Nat} {v : Int} (h : ms[i]? = some v) : atI (ms.map V.int) (0 + (i : Int)) = some (.int v) := by
  rw [Int.zero_add]
  refine atI_nat ?_
  rw [List.getElem?_map, h]
  rfl
theorem at_intsW {ms : List Int} {i w : Nat} {v x : Int} (hw : (w : Int) = x) (h : ms[i + w]? = some v) : atI (ms.map V.int) (0 + (i : Int) + x) = some (.int v) := by
  rw [Int.zero_add, ← hw, show (i : Int) + (w : Int) = ((i + w : Nat) : Int) by omega]
  refine atI_nat ?_
  rw [List.getElem?_map, h]
  rfl
theorem at_ints1 {ms : List Int} {i : Nat} {v : Int} (h : ms[i + 1]? = some v) : atI (ms.map V.int) (0 + (i : Int) + 1) = some (.int v) := at_intsW (w := 1) rfl h
theorem at_last {x : Int} {rr : List Int} : atI ((x :: rr).map V.int) (-1) = some (.int ((x :: rr).getLast (by simp))) := by
  have hl : ((x :: rr).map V.int).length = rr.length + 1 := by rw [List.length_map]; rfl
  have h1 : ixN (rr.length + 1) (-1) = some rr.length := by
    unfold ixN
    rw [if_neg (by decide), if_pos (by omega)]
    exact congrArg some (by omega)
  unfold atI
  rw [hl, h1]
  show ((x :: rr).map V.int)[rr.length]? = _
  rw [List.getElem?_map, List.getElem?_eq_getElem (show rr.length < (x :: rr).length from Nat.lt_succ_self _), List.getLast_eq_getElem]
  rfl
/-- where the walk over the order stands -/
def atOf (σ : L2.St) : Nat := match σ[6]? with
  | some (some (V.int k)) => k.toNat
  | _ => 0
/-- the next ring: at least one item -/
theorem cut_ring {ms : List Int} {k : Nat} {r : Int} (hk : k < ms.length) (h0 : 0 ≤ r) : ∃ x rr, cutV (ms.map V.int) (some (k : Int)) (some ((k : Int) + 1 + r)) = (x :: rr).map V.int ∧ k + (x :: rr).length ≤ ms.length ∧ ms.take k ++ (x :: rr) = ms.take (k + (x :: rr).length) := by
  have e1 : (k : Int) + 1 + r = ((k + 1 + r.toNat : Nat) : Int) := by omega
  have e2 : cutV (ms.map V.int) (some (k : Int)) (some ((k : Int) + 1 + r)) = ((ms.drop k).take (min (k + 1 + r.toNat) ms.length - k)).map V.int := by
    unfold cutV
    rw [e1, show HT.sIx (ms.map V.int).length 0 (some (k : Int)) = min k (ms.map V.int).length from HT.sIx_nat _ 0 k, show HT.sIx (ms.map V.int).length (ms.map V.int).length (some ((k + 1 + r.toNat : Nat) : Int)) = min (k + 1 + r.toNat) (ms.map V.int).length from HT.sIx_nat _ _ _, List.length_map, Nat.min_eq_left (Nat.le_of_lt hk), ← List.map_drop, ← List.map_take]
  rw [e2]
  cases q : (ms.drop k).take (min (k + 1 + r.toNat) ms.length - k) with
  | nil =>
    have z := congrArg List.length q
    rw [List.length_take, List.length_drop, List.length_nil] at z
    omega
  | cons x rr =>
    have z := congrArg List.length q
    rw [List.length_take, List.length_drop] at z
    have z2 : (x :: rr).length = min (k + 1 + r.toNat) ms.length - k := by omega
    refine ⟨x, rr, rfl, by omega, ?_⟩
    rw [List.take_add, z2, q]
section
variable {P : Program} {w : World} {K : PySem.W.Frag} {mg : Str → Option Value} {base : Heap}
end
end DQ

set_option Elab.async false
set_option linter.all false
set_option maxRecDepth 100000
set_option maxHeartbeats 4000000
namespace DQ
open PySem PySem.Spec PyProof.Rows L2
/-- rising items -/
def Rising (ns : List Int) : Prop := ns.Pairwise (· < ·) ∧ ∀ x ∈ ns, 0 ≤ x ∧ x ≤ 1000000000
theorem Rising.nodup {ns : List Int} (h : Rising ns) : ns.Nodup := h.1.imp fun h e => by omega
theorem rising_put {ns : List Int} {v : Int} (h : Rising ns) (hv : ∀ x ∈ ns, x < v) (v0 : 0 ≤ v) (v1 : v ≤ 1000000000) : Rising (ns ++ [v]) := by
  refine ⟨List.pairwise_append.mpr ⟨h.1, List.pairwise_singleton _ _, fun x hx y hy => ?_⟩, fun x hx => ?_⟩
  · rw [List.mem_singleton] at hy
    rw [hy]
    exact hv x hx
  · rcases List.mem_append.mp hx with z | z
    · exact h.2 x z
    · rw [List.mem_singleton] at z
      rw [z]
      exact ⟨v0, v1⟩
end DQ

set_option Elab.async false
set_option linter.all false
set_option maxRecDepth 100000
set_option maxHeartbeats 4000000
namespace DQ
open PySem PySem.Spec PyProof.Rows L2
/-! ### sorted(xs), the items data of one shape -/
theorem vals_each {β : Type} : ∀ {zs : List (V × β)} {us : List Value}, Vals (zs.map (·.1)) us → PySem.W.EachIs (fun (u : Value) (z : V × β) => RelV z.1 u) us zs
  | [], _, .nil => .nil
  | _ :: _, _, .cons r t => .cons r (vals_each t)
theorem each_vals {β : Type} : ∀ {us : List Value} {zs : List (V × β)}, PySem.W.EachIs (fun (u : Value) (z : V × β) => RelV z.1 u) us zs → Vals (zs.map (·.1)) us
  | _, _, .nil => .nil
  | _, _, .cons r t => .cons r (each_vals t)
def rSortD {β : Type} (enc : β → PyData) (K : PySem.W.Frag) : List V → Hp → VK → Prop := fun vs H Q => ∃ (a : Addr) (zs : List (V × β)), vs = [.ref a] ∧ SqL K H a (zs.map (·.1)) ∧ (∀ z ∈ zs, Dp K H z.1 (enc z.2)) ∧ PySem.W.AllAlike (zs.map fun z => enc z.2) ∧ PySem.W.Sortable (zs.map fun z => enc z.2) ∧
  (∀ z ∈ zs, (enc z.2).depth ≤ 8) ∧ ∀ p, H p = none → Q (.ref p) (upd H p (.lst ((zs.mergeSort (PySem.W.dataLe false fun z => enc z.2)).map (·.1))))
theorem each_reads {X : Cx} {pins : List (Addr × Obj)} {σ : L2.St} {H : Hp} {s : Shared} {β : Type} {enc : β → PyData} (I : Inv X pins σ H s) : ∀ {zs : List (V × β)} {us : List Value}, Vals (zs.map (·.1)) us → (∀ z ∈ zs, Dp X.K H z.1 (enc z.2)) → PySem.W.EachIs (fun (u : Value) (z : V × β) => ∃ as, Reads s.heap u (enc z.2) as) us zs
  | [], _, .nil, _ => .nil
  | z :: _, _, .cons r t, h => .cons (Dp.reads I _ _ _ (h z (List.mem_cons_self ..)) r) (each_reads I t fun y hy => h y (List.mem_cons_of_mem _ hy))
theorem cr_sortD {X : Cx} {β : Type} {enc : β → PyData} (hu : X.A.units + 64 < cLine) : CallR X (.builtin "sorted") (rSortD enc X.K) := by
  intro pins s σ H vs us Q I r h
  obtain ⟨a, zs, rfl, hs, hd, al, so, dep, q⟩ := h
  obtain ⟨its, rv, hl, hz⟩ := I.list hs
  obtain ⟨u, rfl, ru⟩ := vals1 r
  obtain rfl : u = Value.ref a := ru
  have hz' : its.length ≤ sizeLine := by rw [← rv.length]; exact hz
  have hlen : zs.length = its.length := by rw [← rv.length, List.length_map]
  refine PySem.W.sorted_data (enc := fun z : V × β => enc z.2) hl.isList (vals_each rv) (each_reads I rv hd) al so (by rw [hlen]; exact hz') (fun z hz => by have := dep z hz; omega) fun out ho eo => ?_
  obtain ⟨c, hc⟩ := sortedAll_at s.heap its out.toArray
  have ro := each_vals eo
  have hn : H (s.heap.objs.size + 1) = none := I.hok.fresh (Nat.le_succ _)
  refine ⟨.ref (s.heap.objs.size + 1), _, I.laid (t' := s.toks) (o := .lst ((zs.mergeSort (PySem.W.dataLe false fun z => enc z.2)).map (·.1))) (fun _ _ => sortedAll_old) (Nat.le_succ _) ⟨?_, out, c, ro, hc⟩, rfl, q _ hn⟩
  rw [ro.length, ho, hlen]
  exact hz'
end DQ

set_option Elab.async false
set_option linter.all false
set_option maxRecDepth 100000
namespace DQ
open PySem PySem.Spec PyProof.Rows L2
/-- a fact -/
inductive Fact where
  | mark (m : Str) (i : Int)
  | link (c : Str) (a b : Int)
def Fact.v : Fact → List V
  | .mark m i => [.str "mark", .str m, .int i]
  | .link c a b => [.str "link", .str c, .int a, .int b]
def Fact.d : Fact → PyData
  | .mark m i => .tuple [.str "mark", .str m, .int i]
  | .link c a b => .tuple [.str "link", .str c, .int a, .int b]
/-- the links of a column -/
def Fact.on (c : Str) : Fact → Option (Int × Int)
  | .mark _ _ => none
  | .link c' a b => if c' = c then some (a, b) else none
def linksOf (c : Str) (fs : List Fact) : List (Int × Int) := fs.filterMap (Fact.on c)
structure Store where
  marks : List Str
  columns : List Str
  items : List Int
  facts : List Fact
def Fact.of (S : Store) : Fact → Prop
  | .mark m i => m ∈ S.marks ∧ i ∈ S.items
  | .link c a b => c ∈ S.columns ∧ a ∈ S.items ∧ b ∈ S.items
/-- the words that a store's marks are taken from -/
def markLists : List (List Str) := [["red", "blue", "gold"], ["wide", "b2"]]
/-- a drawn store of at most so many items -/
structure Drawn (m : Nat) (S : Store) : Prop where
  marks : ∃ b k, b ∈ markLists ∧ k ≤ 3 ∧ S.marks = List.take k b
  columns : ∃ k, 1 ≤ k ∧ k ≤ 2 ∧ S.columns = (["next", "below"] : List Str).take k
  items : Rising S.items
  few : S.items.length ≤ m
  short : S.facts.length ≤ 10000
  rise : S.facts.Pairwise fun x y => PySem.W.dataLt x.d y.d = true
  facts : ∀ x ∈ S.facts, x.of S
  links : ∀ c, OneToOne S.items (linksOf c S.facts)
theorem str_inj {x y : Str} (h : x.cps.toList = y.cps.toList) : x = y := PySem.W.str_of_cps h
theorem fact_toks {x y : Fact} (h : PySem.W.keyToks x.d = PySem.W.keyToks y.d) : x = y := by
  cases x with
  | mark m i =>
    cases y with
    | mark m' i' =>
      simp only [Fact.d, PySem.W.keyToks, PySem.W.keyToksAll, List.cons_append, List.nil_append, List.cons.injEq, Sum.inr.injEq, Sum.inl.injEq, true_and, and_true] at h
      rw [str_inj h.1, h.2]
    | link c a b =>
      simp only [Fact.d, PySem.W.keyToks, PySem.W.keyToksAll, List.cons_append, List.nil_append, List.cons.injEq, Sum.inr.injEq, Sum.inl.injEq, true_and, and_true] at h
      exact absurd h.1 (by decide)
  | link c a b =>
    cases y with
    | mark m' i' =>
      simp only [Fact.d, PySem.W.keyToks, PySem.W.keyToksAll, List.cons_append, List.nil_append, List.cons.injEq, Sum.inr.injEq, Sum.inl.injEq, true_and, and_true] at h
      exact absurd h.1 (by decide)
    | link c' a' b' =>
      simp only [Fact.d, PySem.W.keyToks, PySem.W.keyToksAll, List.cons_append, List.nil_append, List.cons.injEq, Sum.inr.injEq, Sum.inl.injEq, true_and, and_true] at h
      rw [str_inj h.1, h.2.1, h.2.2]
theorem fact_lt {x y : Fact} (ne : x ≠ y) (h : PySem.W.dataLt y.d x.d = false) : PySem.W.dataLt x.d y.d = true := by
  cases q : PySem.W.dataLt x.d y.d with
  | true => rfl
  | false => exact absurd (fact_toks (lex_total _ _ q h)) ne
theorem sorted_rise {zs : List (V × Fact)} (nd : (zs.map (·.2)).Nodup) : ((zs.mergeSort (PySem.W.dataLe false fun z => z.2.d)).map (·.2)).Pairwise fun x y => PySem.W.dataLt x.d y.d = true := by
  have pm : (zs.mergeSort (PySem.W.dataLe false fun z => z.2.d)).Perm zs := List.mergeSort_perm _ _
  have nd2 : ((zs.mergeSort (PySem.W.dataLe false fun z => z.2.d)).map (·.2)).Nodup := (pm.map (·.2)).nodup_iff.mpr nd
  have so := PySem.W.sort_pairwise (PySem.W.sortLe_total (listOrd itemOrd) false fun z : V × Fact => PySem.W.keyToks z.2.d) zs
  refine List.pairwise_map.mpr ?_
  have nd3 := List.pairwise_map.mp nd2
  exact (List.pairwise_and_iff.mpr ⟨so, nd3⟩).imp fun {a b} h => fact_lt h.2 (by
    have z : (!PySem.W.dataLt b.2.d a.2.d) = true := h.1
    simpa using z)
theorem OneToOne.perm {ns : List Int} {ps qs : List (Int × Int)} (h : OneToOne ns ps) (p : qs.Perm ps) : OneToOne ns qs :=
  ⟨(p.map (·.1)).nodup_iff.mpr h.1, (p.map (·.2)).nodup_iff.mpr h.2.1, fun x hx => h.2.2 x (p.subset hx)⟩
theorem links_perm {c : Str} {fs gs : List Fact} (p : fs.Perm gs) : (linksOf c fs).Perm (linksOf c gs) := p.filterMap _
theorem links_append {c : Str} {fs gs : List Fact} : linksOf c (fs ++ gs) = linksOf c fs ++ linksOf c gs := List.filterMap_append
end DQ
namespace DQ
open PySem PySem.Spec PyProof.Rows L2
theorem links_marks {c : Str} {fs : List Fact} (h : ∀ x ∈ fs, ∃ m i, x = Fact.mark m i) : linksOf c fs = [] := by
  unfold linksOf
  refine List.filterMap_eq_nil_iff.mpr fun x hx => ?_
  obtain ⟨m, i, rfl⟩ := h x hx
  rfl
theorem links_self {c : Str} : ∀ ps : List (Int × Int), linksOf c (ps.map fun p => Fact.link c p.1 p.2) = ps
  | [] => rfl
  | p :: r => by
    have ih := links_self (c := c) r
    unfold linksOf at ih ⊢
    rw [List.map_cons, List.filterMap_cons_some (b := p) (by show (if c = c then some (p.1, p.2) else none) = some p; rw [if_pos rfl]), ih]
theorem links_other {c c' : Str} (ne : c ≠ c') (ps : List (Int × Int)) : linksOf c' (ps.map fun p => Fact.link c p.1 p.2) = [] := by
  unfold linksOf
  refine List.filterMap_eq_nil_iff.mpr fun x hx => ?_
  obtain ⟨p, _, rfl⟩ := List.mem_map.mp hx
  show (if c = c' then some (p.1, p.2) else none) = none
  rw [if_neg ne]
theorem len_sub : ∀ {l m : List Int}, l.Nodup → (∀ x ∈ l, x ∈ m) → l.length ≤ m.length
  | [], _, _, _ => Nat.zero_le _
  | x :: l, m, nd, h => by
    have hx := h x (List.mem_cons_self ..)
    obtain ⟨h1, h2⟩ := List.nodup_cons.mp nd
    have z := len_sub (l := l) (m := m.erase x) h2 fun y hy => (List.mem_erase_of_ne (fun e => h1 (by rw [← e]; exact hy))).mpr (h y (List.mem_cons_of_mem _ hy))
    rw [List.length_erase_of_mem hx] at z
    have := List.length_pos_of_mem hx
    rw [List.length_cons]
    omega
theorem OneToOne.len {ns : List Int} {ps : List (Int × Int)} (h : OneToOne ns ps) : ps.length ≤ ns.length := by
  have z := len_sub h.1 fun x hx => by
    obtain ⟨p, hp, rfl⟩ := List.mem_map.mp hx
    exact (h.2.2 p hp).1
  rw [List.length_map] at z
  exact z
theorem OneToOne.nodup {ns : List Int} {ps : List (Int × Int)} (h : OneToOne ns ps) : ps.Nodup := (List.pairwise_map.mp h.1).imp fun h e => h (by rw [e])
theorem oneToOne_nil (ns : List Int) : OneToOne ns [] := ⟨List.nodup_nil, List.nodup_nil, fun p h => by cases h⟩
theorem Tups.get {H : Hp} : ∀ {rs : List V} {ts : List (List V)} {k : Nat} {x : V}, Tups H rs ts → rs[k]? = some x → ∃ a t, x = .ref a ∧ H a = some (.tup t) ∧ ts[k]? = some t
  | _, _, k, x, .nil, h => by simp at h
  | _, _, 0, x, .cons ⟨a, e, h1⟩ _, h => by
    cases h
    exact ⟨a, _, e, h1, rfl⟩
  | _, _, k + 1, x, .cons _ r, h => Tups.get r (k := k) (by simpa using h)
theorem Tups.length {H : Hp} {rs : List V} {ts : List (List V)} (h : Tups H rs ts) : rs.length = ts.length := Paired.length h
theorem Tups.zip {H : Hp} : ∀ {rs : List V} {fs : List Fact}, Tups H rs (fs.map Fact.v) → ∀ z ∈ rs.zip fs, ∃ a, z.1 = .ref a ∧ H a = some (.tup z.2.v)
  | [], [], _, z, h => by cases h
  | [], _ :: _, t, _, _ => by cases t
  | _ :: _, [], t, _, _ => by cases t
  | r :: rs, f :: fs, .cons h t, z, hz => by
    rcases List.mem_cons.mp hz with e | e
    · rw [e]
      exact h
    · exact Tups.zip t z e
theorem tups_of {H : Hp} : ∀ zs : List (V × Fact), (∀ z ∈ zs, ∃ a, z.1 = .ref a ∧ H a = some (.tup z.2.v)) → Tups H (zs.map (·.1)) ((zs.map (·.2)).map Fact.v)
  | [], _ => .nil
  | z :: r, h => .cons (h z (List.mem_cons_self ..)) (tups_of r fun y hy => h y (List.mem_cons_of_mem _ hy))
theorem fact_dp {K : PySem.W.Frag} {H : Hp} {a : Addr} {x : Fact} (h : H a = some (.tup x.v)) : Dp K H (.ref a) x.d := by
  cases x with
  | mark m i => exact .tup (.inl (.inl h)) (.cons (.str _) (.cons (.str _) (.cons (.int _) .nil)))
  | link c a b => exact .tup (.inl (.inl h)) (.cons (.str _) (.cons (.str _) (.cons (.int _) (.cons (.int _) .nil))))
theorem fact_alike (x y : Fact) : PySem.W.alike x.d y.d = true := by
  cases x <;> cases y <;> rfl
theorem fact_depth (x : Fact) : x.d.depth ≤ 8 := by
  cases x
  · show 0 + 1 ≤ 8
    decide
  · show 0 + 1 ≤ 8
    decide
theorem fact_tuple (x : Fact) : ∃ y r, x.d = .tuple (y :: r) := by
  cases x
  · exact ⟨_, _, rfl⟩
  · exact ⟨_, _, rfl⟩
theorem links_out {S : Store} {c : Str} {fs : List Fact} (h : ∀ x ∈ fs, x.of S) (nc : c ∉ S.columns) : linksOf c fs = [] := by
  unfold linksOf
  refine List.filterMap_eq_nil_iff.mpr fun x hx => ?_
  cases x with
  | mark m i => rfl
  | link c' a b =>
    have z := (h _ hx).1
    show (if c' = c then some (a, b) else none) = none
    rw [if_neg fun e => nc (by rw [← e]; exact z)]
end DQ

set_option Elab.async false
set_option linter.all false
set_option maxRecDepth 100000
set_option maxHeartbeats 4000000
namespace DQ
open PySem PySem.Spec PyProof.Rows L2
/-- the store stands at v -/
def StoAt (H : Hp) (v : V) (S : Store) : Prop := ∃ (a m c i f : Addr) (rs : List V), v = .ref a ∧ H a = some (.tup [.str "store", .ref m, .ref c, .ref i, .ref f]) ∧ H m = some (.lst (S.marks.map V.str)) ∧ H c = some (.lst (S.columns.map V.str)) ∧ H i = some (.lst (S.items.map V.int)) ∧ H f = some (.lst rs) ∧ Tups H rs (S.facts.map Fact.v)
theorem tk_del {g : Addr} {H : Hp} {n : Int} (G : Gen H g n) : TupKeep H (del H g) := fun a t h => by
  obtain ⟨x, y, z, eg, _⟩ := G
  rw [del_ne (fun e => by rw [e, eg] at h; cases h)]
  exact h
theorem cut_take {xs : List V} {r : Int} (h0 : 0 ≤ r) : cutV xs none (some r) = xs.take r.toNat := by
  have e : r = ((r.toNat : Nat) : Int) := by omega
  unfold cutV
  rw [HT.sIx_none, List.drop_zero, e, show HT.sIx xs.length xs.length (some ((r.toNat : Nat) : Int)) = min r.toNat xs.length from HT.sIx_nat _ _ _, Nat.sub_zero, Int.toNat_natCast]
  by_cases h : r.toNat ≤ xs.length
  · rw [Nat.min_eq_left h]
  · rw [Nat.min_eq_right (by omega), List.take_length, List.take_of_length_le (by omega)]
theorem at_map {α β : Type} {f : α → β} {l : List α} {i : Nat} {y : β} (h : (l.map f)[i]? = some y) : ∃ x, l[i]? = some x ∧ y = f x := by
  rw [List.getElem?_map] at h
  obtain ⟨x, hx, e⟩ := Option.map_eq_some_iff.mp h
  exact ⟨x, hx, e.symm⟩
end DQ

set_option Elab.async false
set_option linter.all false
set_option maxRecDepth 100000
set_option maxHeartbeats 4000000
/-! ### len(set(texts)), a list of any length -/
namespace DQ
open PySem PySem.Spec PyProof.Rows L2
/-- how many differ among the first i -/
def differ (xs : List Str) : Nat → Nat
  | 0 => 0
  | i + 1 => if (xs.take i).any (· == xs.getD i Str.empty) = true then differ xs i else differ xs i + 1
theorem differ_le (xs : List Str) : ∀ i, differ xs i ≤ i
  | 0 => Nat.le_refl _
  | i + 1 => by
    have := differ_le xs i
    unfold differ
    split <;> omega
theorem differ_nodup {xs : List Str} (nd : xs.Nodup) : ∀ i, i ≤ xs.length → differ xs i = i
  | 0, _ => rfl
  | i + 1, h => by
    have e : xs[i]? = some (xs.getD i Str.empty) := by
      rw [List.getD_eq_getElem?_getD, List.getElem?_eq_getElem (by omega)]
      rfl
    have no : ¬ (xs.take i).any (· == xs.getD i Str.empty) = true := fun q => by
      obtain ⟨y, hy, ey⟩ := List.any_eq_true.mp q
      have z : (xs.take i ++ [xs.getD i Str.empty]).Nodup := by
        rw [← take_next e]
        exact (List.take_sublist _ _).nodup nd
      exact (List.nodup_append.mp z).2.2 y hy _ (List.mem_singleton.mpr rfl) (eq_of_beq ey)
    unfold differ
    rw [if_neg no, differ_nodup nd i (by omega)]
theorem any_next {xs : List Str} {i : Nat} (h : i < xs.length) (k : Str) : ((xs.take i).any (· == k) || decide (k = xs.getD i Str.empty)) = (xs.take (i + 1)).any (· == k) := by
  have e : xs[i]? = some (xs.getD i Str.empty) := by
    rw [List.getD_eq_getElem?_getD, List.getElem?_eq_getElem h]
    rfl
  rw [take_next e, List.any_append]
  congr 1
  show decide (k = xs.getD i Str.empty) = ((xs.getD i Str.empty == k) || false)
  rw [Bool.or_false]
  by_cases q : k = xs.getD i Str.empty
  · rw [← q]; simp
  · rw [decide_eq_false q]
    exact (beq_eq_false_iff_ne.mpr fun z => q z.symm).symm
section
variable {prog : Program} {w : World} {A : Around} {R : Result → Shared → Prop} {I : Addr} {fp wr : List Addr} {G : Array GenState → Array GenState → Prop} {n : Nat} {P : Nat → Value → Prop} {St : Nat → Shared → Prop}
theorem texts_in (W : WalksS prog w A.in1 I fp wr G n P St) {S : Addr} (out : S ∉ fp) {xs : List Str} (len : xs.length = n) (few : n + 1 < scanBound) (val : ∀ i v, P i v → ∃ t, v = .str (xs.getD i Str.empty) t) :
    ∀ (k i : Nat) (s : Shared), n - i = k → i ≤ n → St i s → s.heap.SetOf (PySem.strKind prog w) S (fun z => (xs.take i).any (· == z)) (differ xs i) →
      (∀ s', Moved (S :: wr) G s s' → s'.heap.SetOf (PySem.strKind prog w) S (fun z => (xs.take n).any (· == z)) (differ xs n) → R (.ok (.ret .none)) s') →
      codeAny (model prog w) A (.builtin "set.update.loop" ⟨[.ref S, .ref I], []⟩) R s := by
  have outw : S ∉ wr := fun h => out (W.sub _ h)
  have more : ∀ b ∈ wr, b ∈ S :: wr := fun b h => List.mem_cons_of_mem _ h
  have kept : ∀ {s s' : Shared} {T : Str → Bool} {c : Nat}, Moved wr G s s' → s.heap.SetOf (PySem.strKind prog w) S T c → s'.heap.SetOf (PySem.strKind prog w) S T c := fun m ⟨o, es, ep, t, ho, r⟩ => ⟨o, es, ep, t, m.heap S _ outw ho, r⟩
  intro k
  induction k with
  | zero =>
    intro i s hk hi st hS done
    obtain rfl : i = n := by omega
    refine codeAny_builtin PyProof.Rows.F.entry_set_update_loop ?_
    rw [Around.under_plainId PyProof.Rows.F.plain_set_update_loop _]
    show wpAny _ A.in1 (pyNext (.ref I) >>= _) _ _ s
    refine wpAny_bind (W.done s _ _ st fun s' m => ?_)
    show wpAny _ A.in1 (ret Value.none) _ _ s'
    exact wpAny_pure (done s' (m.mono more) (kept m hS))
  | succ k ih =>
    intro i s hk hi st hS done
    have lt : i < n := by omega
    refine codeAny_builtin PyProof.Rows.F.entry_set_update_loop ?_
    rw [Around.under_plainId PyProof.Rows.F.plain_set_update_loop _]
    show wpAny _ A.in1 (pyNext (.ref I) >>= _) _ _ s
    refine wpAny_bind (W.item i s _ _ lt st fun v s' hP st' m => ?_)
    obtain ⟨t, rfl⟩ := val i v hP
    have hS1 := kept m hS
    show wpAny _ A.in1 (holding [Value.str (xs.getD i Str.empty) t] (setAdd S (.str (xs.getD i Str.empty) t)) >>= _) _ _ s'
    refine wpAny_bind (wpAny_holding ?_)
    unfold setAdd
    refine wpAny_holding (wpAny_bind ((PySem.strKind prog w).pyHash (k := xs.getD i Str.empty) (strKind_is _ _ _ _) ?_))
    refine wpAny_setAddHashed_of (knd := PySem.strKind prog w) (s := { s' with toks := s'.toks + 1 }) (strKind_is _ _ _ _) rfl hS1 (by have := differ_le xs i; omega) fun h' same hS2 => ?_
    refine wpAny_pure ⟨plainId_quiet PyProof.Rows.F.plain_set_update_loop _, ih (i + 1) _ (by omega) lt (W.frame _ s' _ _ st' (Nat.le_succ _) fun b hb o e => ?_) (SetOf_congr hS2 (fun z => any_next (by omega) z) rfl) fun s'' m2 hS3 => ?_⟩
    · rw [same.2 b fun z : b = S => out (by rw [← z]; exact hb)]
      exact e
    · refine done s'' (Moved.trans W.gtrans ((m.mono more).then_heap (Nat.le_succ _) fun b o hb e => ?_) m2) hS3
      rw [same.2 b fun z : b = S => hb (by rw [z]; exact List.mem_cons_self)]
      exact e
end
section
variable {prog : Program} {w : World} {A : Around} {E : Value → Shared → Prop} {s : Shared}
theorem set_of_texts {l : Addr} {items : Array Value} {xs : List Str} {Q : Value → Shared → Prop} (hh : A.handled = none) (hl : s.heap.IsList l items) (hi : StrsAre items.toList xs) (few : items.size + 1 < scanBound)
    (done : ∀ (h' : Heap) (tk : Nat), h'.SetOf (PySem.strKind prog w) s.heap.objs.size (fun z => (xs.take items.size).any (· == z)) (differ xs items.size) →
      (∀ b o, b < s.heap.objs.size → s.heap.get? b = some o → h'.get? b = some o) → Q (.ref s.heap.objs.size) { s with heap := h', toks := tk }) :
    wpAny (model prog w) A (call (.type "set") [.ref l]) Q E s := by
  obtain ⟨c, tl, hmro⟩ := PySem.F.called_set.mro
  have made := PySem.F.called_set.made
  have sub := PySem.F.called_set.sub
  refine wpAny_call (codeAny_of_tree ?_)
  show wpAny _ _ (callAny (.type "set") _) _ _ _
  refine wpAny_pure ⟨Code.quiet_builtin _ (by decide +kernel), codeAny_builtin PySem.F.entry_type_call ?_⟩
  rw [Around.under_plain (weight_type_call_type "set" [.ref l] []) rfl]
  have h1 := PySem.F.called_set.notType
  have h2 := PySem.F.called_set.canCreate
  have h3 := PySem.F.typeCall_set_1 (.ref l)
  repeat (any_goals (first | assumption | wp_step))
  refine codeAny_mono (code_set_new_1 (.ref l) (E := E) (Q₁ := fun o s1 => ∃ led : Bool, o = .ref s.heap.objs.size ∧ s1 = { s with heap := s.heap.push { cls := .type "set", dict := none, data := .set #[] 0 (.fresh 0 0 led) } }) fun led => ⟨led, rfl, rfl⟩) fun r s1 hr => ?_
  cases r with
  | error e => exact hr
  | ok fl =>
    cases fl with
    | ret o =>
      obtain ⟨led, rfl, rfl⟩ := hr
      have hS : (s.heap.push { cls := .type "set", dict := none, data := .set #[] 0 (.fresh 0 0 led) }).get? s.heap.objs.size = some { cls := .type "set", dict := none, data := .set #[] 0 (.fresh 0 0 led) } := Heap.get?_push_size _ rfl
      have hT : Shared.TypeIs { s with heap := s.heap.push { cls := .type "set", dict := none, data := .set #[] 0 (.fresh 0 0 led) } } (.ref s.heap.objs.size) "set" := ⟨_, hS, rfl⟩
      have i1 := PySem.F.called_set.init.lookup
      have i2 := PySem.F.called_set.init.bind (.ref s.heap.objs.size)
      repeat (any_goals (first | assumption | wp_step))
      refine codeAny_mono (codeAny_call_builtin (R := wants (fun r s2 => r = .none ∧ ∃ h' tk, s2 = { s with heap := h', toks := tk } ∧ h'.SetOf (PySem.strKind prog w) s.heap.objs.size (fun z => (xs.take items.size).any (· == z)) (differ xs items.size) ∧
          (∀ b o, b < s.heap.objs.size → s.heap.get? b = some o → h'.get? b = some o)) E) PySem.F.called_set.init.plain PySem.F.entry_set_init (check_set_init_1 hT ?_)) fun r s2 hr => ?_
      · obtain ⟨⟨cls, dd, dt, sl⟩, ho, hc, nl, hd⟩ := hl
        simp only at hc hd
        subst hc hd
        have ho1 : (s.heap.push { cls := .type "set", dict := none, data := .set #[] 0 (.fresh 0 0 led) }).get? l = some { cls := .type "list", dict := dd, data := .seq items nl, slots := sl } := Heap.get?_push_of_some _ ho
        have l1 : (s.heap.push { cls := .type "set", dict := none, data := .set #[] 0 (.fresh 0 0 led) }).IsList l items := ⟨_, ho1, rfl, nl, rfl⟩
        have n1 := PySem.F.sub_list_set
        have n2 := PySem.F.sub_list_frozenset
        have n3 : (Value.type "list" == Value.type "dict") = false := by decide
        unfold Builtin.«set.__init__» noKeywords Builtin.Frozenset.updateFrom
        generalize hit : pyIter = it
        wp_walk
        subst hit
        refine wpAny_pyIter_list l1 (wpAny_bind (wpAny_runValue ?_))
        have hlt : l < s.heap.objs.size := Heap.lt_size ho
        have sz := Heap.size_push s.heap { cls := .type "set", dict := none, data := .set #[] 0 (.fresh 0 0 led) }
        have n4 : l ≠ (s.heap.push { cls := .type "set", dict := none, data := .set #[] 0 (.fresh 0 0 led) }).objs.size := by
          rw [sz]
          exact Nat.ne_of_lt (Nat.lt_succ_of_lt hlt)
        have n5 : s.heap.objs.size ∉ [(s.heap.push { cls := .type "set", dict := none, data := .set #[] 0 (.fresh 0 0 led) }).objs.size, l] := fun q => by
          rw [sz] at q
          rcases List.mem_cons.mp q with e | q
          · exact absurd e (Nat.ne_of_lt (Nat.lt_succ_self _))
          · exact absurd (List.mem_singleton.mp q) (Nat.ne_of_gt hlt)
        have val : ∀ (i : Nat) (v : Value), items[i]? = some v → ∃ t, v = .str (xs.getD i Str.empty) t := fun i v hv => SS.strs_at hi i v (by rw [Array.getElem?_toList]; exact hv)
        refine texts_in ((Walks.list (by simp [hh]) _ l n4 items).toS) n5 (by rw [← StrsAre.len_eq hi, Array.length_toList]) few val items.size 0 _ (Nat.sub_zero _) (Nat.zero_le _) ⟨⟨_, Heap.get?_push_size _ rfl, rfl, rfl⟩, l1.push _⟩ ?_ ?_
        · exact SetOf_congr ((setObjOf_fresh (knd := PySem.strKind prog w) led).setOf (Heap.get?_push_of_some _ hS) (by unfold scanBound; omega)) (fun _ => rfl) rfl
        · intro s' m hS'
          obtain ⟨h', g', d', tk', os'⟩ := s'
          obtain rfl : g' = s.gens := m.gens
          obtain rfl : d' = s.drawn := m.drawn
          obtain rfl : os' = s.os := m.os
          show wpAny _ _ _ _ _ _
          refine wpAny_pure ?_
          show wpAny _ _ (ret Value.none) _ _ _
          refine wpAny_pure ⟨rfl, h', tk', rfl, hS', fun b o hb e => m.heap b o (fun q => ?_) (Heap.get?_push_of_some _ (Heap.get?_push_of_some _ e))⟩
          rw [sz] at q
          rcases List.mem_cons.mp q with e | q
          · exact absurd e (Nat.ne_of_lt hb)
          · exact absurd (List.mem_singleton.mp q) (Nat.ne_of_lt (Nat.lt_succ_of_lt hb))
      · cases r with
        | error e => exact hr
        | ok fl2 =>
          cases fl2 with
          | ret r =>
            obtain ⟨rfl, h', tk, rfl, hS', k⟩ := hr
            repeat (any_goals (first | assumption | wp_step))
            exact done _ _ hS' k
          | _ => exact hr.elim
    | _ => exact hr.elim
end
section
variable {X : Cx}
/-- len(set(xs)), xs a list of texts -/
def tLenSetT (K : PySem.W.Frag) (ta : TE) : TE := fun σ H Q => ta σ H fun x H1 => ∃ (l : Addr) (xs : List Str), x = .ref l ∧ SqL K H1 l (xs.map V.str) ∧ xs.length ≤ 1000 ∧ Q (.int (differ xs xs.length : Nat)) H1
theorem pe_lenSetT {a : Expr} {ta : TE} {p p2 q pos : Pos} (hc : X.calm = true) (hg : Gl X "len") (hm : X.mg "len" = none) (hg2 : Gl X "set") (hm2 : X.mg "set" = none) (ha : PE X a ta)
    (na : starEach [a] X.env = (false, eval a X.env) :: starEach [] X.env := by rfl) : PE X (.Call (.Name "len" p) [.Call (.Name "set" p2) [a] [] q] [] pos) (tLenSetT X.K ta) := by
  refine ⟨fun pins s σ H Q I h => ?_⟩
  refine Call_ (ld_blt I hg hm boot_len ?_)
  refine callWith_builtin1 (args_cons ?_ rfl) rfl rfl
  refine Call_ (ld_blt I hg2 hm2 boot_set ?_)
  refine callWith_type1 (args_cons (thn (ha.run pins s σ H _ I h) fun v s1 ⟨x, H1, I1, r1, q1⟩ => args_nil ?_) na) na rfl
  obtain ⟨l, xs, rfl, hq, h1, q1⟩ := q1
  cases r1
  obtain ⟨its, r, pl, hz⟩ := I1.list hq
  have hl : its.toArray.size = xs.length := by rw [List.size_toArray, ← r.length, List.length_map]
  refine set_of_texts (I1.ok.hd hc) pl.isList (by simpa using strsAre_of r) (by unfold scanBound; omega) fun h' tk hS hk => args_nil ?_
  rw [hl] at hS
  obtain ⟨o, es, ep, t, ho, hex, hd, _, _, _, hf, hn⟩ := hS
  have I2 : Inv X pins σ H1 { s1 with heap := h', toks := tk } := I1.kept fun b o e => hk b o (Heap.lt_size e) e
  have dl := differ_le xs xs.length
  exact call_len_set ho hex hd hf (by rw [hn] <;> omega) ⟨.int (differ xs xs.length : Nat), H1, I2.tok _, ⟨_, by rw [hn]⟩, q1⟩
end
end DQ

set_option Elab.async false
set_option linter.all false
set_option maxRecDepth 100000
set_option maxHeartbeats 4000000
namespace DQ
open PySem PySem.Spec PyProof.Rows L2
/-! ### a comprehension whose items are flags, without an if -/
theorem same_upd {H H' : Hp} {D : Addr} {o : HO} (s : Same H H') (nD : H D = none) : Same H (upd H' D o) := fun b u e => by
  rw [upd_ne (ne_of_none e nD)]
  exact s b u e
theorem yes_if {A B : Prop} (h : A) : if (true : Bool) = true then A else B := (if_pos rfl : (if (true : Bool) = true then A else B) = A).mpr h
theorem lc_bools {J : It} {n : Nat} {G : Hp → Prop} {Y : Nat → Hp → V → Hp → Prop} (w : Walk J n G Y) {g : TG} {te : TE} {vs : List Nat} {σ : L2.St} {H1 : Hp} {D : Addr} {Qd : Hp → Prop} (bs : List Bool) (hn : bs.length = n) (few : n < sizeLine) (nD : H1 D = none)
    (hG : ∀ H, Same H1 H → G H) (hY : ∀ i H x H', Y i H x H' → Same H H')
    (hs : ∀ i x H H' b, i < n → bs[i]? = some b → Same H1 H → Y i H x H' → ∀ R : V → Hp → Prop, (∀ H4, Same H' H4 → R (.bl b) H4) → g x (wipe σ vs) H' fun σ2 H2 => wipe σ2 vs = wipe σ vs ∧ te σ2 H2 R)
    (hd : ∀ H, Same H1 H → H D = some (.lst (bs.map V.bl)) → Qd H) (gm : ∀ x σ H (Q Q' : L2.St → Hp → Prop), (∀ σ H, Q σ H → Q' σ H) → g x σ H Q → g x σ H Q') :
    ∃ W : Nat → Nat → Hp → Prop, (∃ m, W 0 m (upd H1 D (.lst []))) ∧ ∀ i m H, W i m H →
      (J.stop i H ∧ Qd H) ∨ (J.go i H ∧ ∃ Nx : Hp → Prop, (∀ H', Nx H' → ∃ m', m' < m ∧ W (i + 1) m' H') ∧ ∀ x H', J.yld i H x H' → g x (wipe σ vs) H' fun σ2 H2 => wipe σ2 vs = wipe σ vs ∧ tYes σ2 H2 fun b H3 =>
        if b = true then te σ2 H3 fun y H4 => ∃ acc, H4 D = some (.lst acc) ∧ acc.length < sizeLine ∧ Nx (upd H4 D (.lst (acc ++ [y]))) else Nx H3) := by
  refine lc_it w (fun i H => H D = some (.lst ((bs.take i).map V.bl)) ∧ Same H1 H) ⟨upd_same, same_new nD⟩ (fun i H _ p => hG H p.2) (fun i x H H' hi p y => ?_) fun H p => hd H p.2 (by rw [← hn, List.take_length] at p; exact p.1)
  obtain ⟨e, s⟩ := p
  have hb : bs[i]? = some bs[i] := List.getElem?_eq_getElem (by omega)
  refine (fun z => gm x _ _ _ _ (fun σ2 H2 z => ⟨z.1, z.2⟩) z) (hs i x H H' _ hi hb s y (fun y H4 => ∃ acc, H4 D = some (.lst acc) ∧ acc.length < sizeLine ∧ upd H4 D (.lst (acc ++ [y])) D = some (.lst ((bs.take (i + 1)).map V.bl)) ∧ Same H1 (upd H4 D (.lst (acc ++ [y])))) fun H4 s4 => ?_)
  have e4 := s4 _ _ (hY _ _ _ _ y _ _ e)
  refine ⟨_, e4, ?_, ?_, ?_⟩
  · rw [List.length_map, List.length_take]
    omega
  · rw [take_next hb, List.map_append]
    exact upd_same
  · exact same_upd ((s.trans (hY _ _ _ _ y)).trans s4) nD
end DQ

set_option Elab.async false
set_option linter.all false
set_option maxRecDepth 100000
set_option maxHeartbeats 4000000
namespace DQ
open PySem PySem.Spec PyProof.Rows L2
abbrev sIsWord : Stmt := topS 10
abbrev sSpelled : Stmt := topS 11
def letters : Str := "abcdefghijklmnopqrstuvwxyz"
def wordSigns : Str := "abcdefghijklmnopqrstuvwxyz0123456789"
def reserved : List Str := ["all", "and", "false", "in", "link", "mark", "not", "or", "same", "some", "true"]
/-- a text of 1 to 30 signs that are small letters or digits, the first a letter -/
def spelled (x : Str) : Bool := decide (1 ≤ x.length) && decide (x.length ≤ 30) && (x.cps.toList.head?.any fun c => decide (c ∈ letters.cps.toList)) && x.cps.toList.all fun c => decide (c ∈ wordSigns.cps.toList)
def wordB (x : Str) : Bool := spelled x && !inV (.str x) (reserved.map V.str)
theorem scIsWord : FnScope ["value"] ["value"] (defScope sIsWord) := ⟨rfl, rfl, rfl, by decide +kernel, rfl, by decide +kernel, by decide +kernel⟩
theorem scSpelled : FnScope ["text", "sign"] ["text"] (defScope sSpelled) := ⟨rfl, rfl, rfl, by decide +kernel, rfl, by decide +kernel, by decide +kernel⟩
section
variable {P : Program} {w : World} {K : PySem.W.Frag} {mg : Str → Option Value} {base : Heap}
def spSpelled : Sp := fun vs H Q _ => ∃ x : Str, vs = [.str x] ∧ x.length ≤ 1000 ∧ ∀ H', Same H H' → Q (.bl (spelled x)) H'
theorem ok_spelled {f : Addr} {fd : FuncData} {t1 t2 t3 : Tok} (F : Fun K "is_spelled" "is_spelled" sSpelled f fd) (mL : mg "LETTERS" = some (.str letters t1)) (mW : mg "WORD_SIGNS" = some (.str wordSigns t2)) (mM : mg "MOST_SIGNS" = some (.int 30 t3))
    (mLen : mg "len" = none) (mAll : mg "all" = none) : FnOk P w K mg base CX0 1 f fd ["text"] spSpelled := by
  refine F.ok scSpelled (fun vs H Q E h => ?_) (fun cdv A outer s H vs Q E hr h => ?_)
  · obtain ⟨x, rfl, _⟩ := h
    rfl
  obtain ⟨x, rfl, few, q⟩ := h
  have nd := scSpelled.nd
  refine ⟨_, (pss_cons (ps_if (PW.pt (pw_or (pt_not (pt_chain op_le op_le pe_int (pe_callB call_len_str (by rfl) mLen PySem.boot_len (pa_cons (pv 0) pa_nil)) (pe_glob (v := .int 30) (by rfl) mM ⟨_, rfl⟩))) (pw_or1 (pt_cmpR op_notIn_sign (pe_ix (r := rIxS) ix_str (pv 0) pe_int (fun _ _ => rfl)) (pe_glob (v := .str letters) (by rfl) mL ⟨_, rfl⟩) (by rfl))))) (pss_one (ps_ret pe_bl)) pss_nil)
    (pss_one (ps_ret (pe_callB (cr_all rfl) (by rfl) mAll (by decide +kernel) (pa_cons (pe_lc (own := [("sign", 1)]) (g := gName 1) (tt := tYes) rfl nd (pi_str (pv 0)) (blkOk_by (own := [("sign", 1)]) (N := ["text", "sign"]) (sc := defScope sSpelled) (by decide +kernel)) (fun _ _ _ _ _ => pg_name (i := 1) nd rfl (Or.inl rfl)) (fun _ _ _ _ _ => pts_nil) (fun _ _ _ _ _ => pe_cmpR op_in_sign (pv 1) (pe_glob (v := .str wordSigns) (by rfl) mW ⟨_, rfl⟩) (by rfl))) pa_nil))))), ?_⟩
  have end0 : spelled x = false → Q (.bl false) H := fun e => by
    have := q H (fun _ _ h => h)
    rwa [e] at this
  refine ⟨_, rfl, x, rfl, Nat.le_trans few (by decide), _, _, rfl, rfl, _, rfl, ite2 (fun c1 => ⟨_, _, rfl, rfl, _, rfl, ite2 (fun c2 => ?_) fun c2 => ?_⟩) fun c1 => ⟨_, rfl, ?_⟩⟩
  · -- too long
    refine end0 ?_
    have z : ¬ x.length ≤ 30 := fun z => by
      rw [decide_eq_true (show (x.length : Int) ≤ 30 by omega)] at c2
      exact absurd c2 (by decide)
    unfold spelled
    rw [decide_eq_false z, Bool.and_false, Bool.false_and, Bool.false_and]
  · have l1 : 1 ≤ x.length := by
      have := of_decide_eq_true c1
      omega
    have l2 : x.length ≤ 30 := by
      by_cases z : (x.length : Int) ≤ 30
      · omega
      · rw [decide_eq_false z] at c2
        exact absurd rfl c2
    obtain ⟨c, r, hx⟩ : ∃ c r, x.cps.toList = c :: r := by
      cases e : x.cps.toList with
      | nil =>
        have : x.length = 0 := by
          show x.cps.size = 0
          rw [← Array.length_toList, e]
          rfl
        omega
      | cons c r => exact ⟨c, r, rfl⟩
    have sp : spelled x = (decide (c ∈ letters.cps.toList) && x.cps.toList.all fun c => decide (c ∈ wordSigns.cps.toList)) := by
      unfold spelled
      rw [decide_eq_true l1, decide_eq_true l2, hx]
      rfl
    refine ⟨_, rfl, x, 0, c, rfl, rfl, Nat.le_trans few (by decide), by rw [hx]; exact atI_nat (j := 0) rfl, c, letters, rfl, rfl, _, rfl, ite2 (fun c3 => ?_) fun c3 => ?_⟩
    · refine end0 ?_
      rw [sp]
      cases h : decide (c ∈ letters.cps.toList) with
      | true =>
        rw [h] at c3
        exact absurd c3 (by decide)
      | false => rfl
    · have h : decide (c ∈ letters.cps.toList) = true := by
        cases h : decide (c ∈ letters.cps.toList) with
        | true => rfl
        | false =>
          rw [h] at c3
          exact absurd rfl c3
      rw [h, Bool.true_and] at sp
      refine ⟨_, rfl, x, rfl, fun D nD => lc_bools (walk_str (z := x)) (x.cps.toList.map fun c => decide (c ∈ wordSigns.cps.toList)) (by rw [List.length_map, Array.length_toList]) (Nat.lt_of_le_of_lt (show x.cps.size ≤ 1000 from few) (by decide)) nD (fun _ _ => trivial) (fun _ _ _ _ y => by rw [y.1]; exact fun _ _ h => h)
        (fun i v H2 H3 b hi hb s1 y R hR => ?_) (fun H2 s2 e2 => ?_) (fun _ _ _ _ _ m h => m _ _ h)⟩
      · obtain ⟨rfl, d, hd, rfl⟩ := y
        rw [List.getElem?_map, Array.getElem?_toList, hd] at hb
        cases hb
        exact ⟨rfl, _, rfl, d, wordSigns, rfl, rfl, hR _ fun _ _ h => h⟩
      · refine ⟨D, _, rfl, SqL.of e2, ?_⟩
        have e : (List.map (fun c => decide (c ∈ wordSigns.cps.toList)) x.cps.toList).any id = true ∨ True := .inr trivial
        rw [List.all_map]
        have := q H2 s2
        rw [sp] at this
        exact this
  · -- empty
    refine end0 ?_
    have z : ¬ 1 ≤ x.length := fun z => c1 (decide_eq_true (by omega))
    unfold spelled
    rw [decide_eq_false z]
    rfl
def spIsWord (K : PySem.W.Frag) : Sp := fun vs H Q _ => ∃ v, vs = [v] ∧ ((∃ x : Str, v = .str x ∧ x.length ≤ 1000 ∧ ∀ H', Same H H' → Q (.bl (wordB x)) H') ∨ ((∃ t, TyX K H v t ∧ PySem.W.kitOne K t (.type "str") = some false) ∧ Q (.bl false) H))
theorem ok_isWord {f fs r : Addr} {fd fds : FuncData} (F : Fun K "is_word" "is_word" sIsWord f fd) (GS : FnOk P w K mg base CX0 1 fs fds ["text"] spSpelled) (bS : Binds K fds ["text"] []) (kS : PySem.W.keepIn K (.ref fs) = true) (mS : mg "is_spelled" = some (.ref fs))
    (mI : mg "isinstance" = none) (mStr : mg "str" = none) (mR : mg "RESERVED" = some (.ref r)) (eR : ∀ H, SqT K H r (reserved.map V.str)) : FnOk P w K mg base CX0 2 f fd ["value"] (spIsWord K) := by
  refine F.ok scIsWord (fun vs H Q E h => ?_) (fun cdv A outer s H vs Q E hr h => ?_)
  · obtain ⟨x, rfl, _⟩ := h
    rfl
  obtain ⟨v, rfl, h⟩ := h
  refine ⟨_, pss_one (ps_ret (pe_and (pe_callB call_isi (by rfl) mI (by decide +kernel) (pa_cons (pv 0) (pa_cons (pe_bltn (v := .ty "str") (by rfl) mStr (by decide +kernel) rfl) pa_nil))) (pe_and (pe_call GS (hr.mono (by decide)) rfl mS kS bS .nil pass0 (pa_cons (pv 0) pa_nil)) (pe_one (pe_cmpR op_notIn_seq (pv 0) (pe_glob (v := .ref r) (by rfl) mR rfl) (by rfl)))))), ?_⟩
  rcases h with ⟨x, rfl, few, q⟩ | ⟨⟨t, ty, kt⟩, q⟩
  · refine ⟨_, rfl, .str x, .ty "str", _, _, true, rfl, .ty "str", .base (.str x), kit_ty (by decide +kernel), true, rfl, ?_⟩
    refine ⟨_, rfl, x, rfl, few, fun H' sm => ⟨_, rfl, ite2 (fun c => ?_) fun c => ?_⟩⟩
    · refine ⟨_, rfl, r, _, rfl, .inr (eR _), rfl, ?_, ?_⟩
      · decide
      · have := q H' sm
        unfold wordB at this
        rw [c, Bool.true_and] at this
        exact this
    · have := q H' sm
      unfold wordB at this
      rw [Bool.eq_false_iff.mpr c, Bool.false_and] at this
      exact this
  · exact ⟨_, rfl, v, .ty "str", _, _, false, rfl, .ty "str", ty, kt, false, rfl, q⟩
end
end DQ

set_option Elab.async false
set_option linter.all false
set_option maxRecDepth 100000
set_option maxHeartbeats 4000000
namespace DQ
open PySem PySem.Spec PyProof.Rows L2
/-! ### data on the heap -/
theorem Same.seqT {K : PySem.W.Frag} {H H' : Hp} {a : Addr} {xs : List V} (e : Same H H') (h : SqT K H a xs) : SqT K H' a xs := by
  rcases h with (h | ⟨o, h⟩) | h
  · exact .inl (.inl (e _ _ h))
  · exact .inl (.inr ⟨o, e _ _ h⟩)
  · exact .inr h
mutual
theorem dp_same {K : PySem.W.Frag} {H H' : Hp} (e : Same H H') : ∀ (d : PyData) (v : V), Dp K H v d → Dp K H' v d
  | .none, _, h => by cases h; exact .non
  | .bool b, _, h => by cases h; exact .bl b
  | .int i, _, h => by cases h; exact .int i
  | .str x, _, h => by cases h; exact .str x
  | .list ds, _, h => by
    cases h with
    | lst h a => exact .lst (L2.Same.seq e h) (dpAll_same e ds _ a)
  | .tuple ds, _, h => by
    cases h with
    | tup h a => exact .tup (DQ.Same.seqT e h) (dpAll_same e ds _ a)
  | .dict _, _, h => by
    cases h with
    | dct h => exact .dct (e _ _ h)
theorem dpAll_same {K : PySem.W.Frag} {H H' : Hp} (e : Same H H') : ∀ (ds : List PyData) (vs : List V), DpAll K H vs ds → DpAll K H' vs ds
  | [], _, h => by cases h; exact .nil
  | d :: ds, _, h => by
    cases h with
    | cons a b => exact .cons (dp_same e d _ a) (dpAll_same e ds _ b)
end
theorem dpAll_len {K : PySem.W.Frag} {H : Hp} : ∀ {vs : List V} {ds : List PyData}, DpAll K H vs ds → vs.length = ds.length
  | _, _, .nil => rfl
  | _, _, .cons _ t => congrArg Nat.succ (dpAll_len t)
theorem dpAll_at {K : PySem.W.Frag} {H : Hp} : ∀ {vs : List V} {ds : List PyData} {i : Nat} {v : V}, DpAll K H vs ds → vs[i]? = some v → ∃ d, ds[i]? = some d ∧ Dp K H v d
  | _, _, _, _, .nil, h => by simp at h
  | _, _, 0, _, .cons a _, h => by
    cases h
    exact ⟨_, rfl, a⟩
  | _, _, i + 1, _, .cons _ t, h => dpAll_at (i := i) t (by simpa using h)
theorem dpAll_get {K : PySem.W.Frag} {H : Hp} {vs : List V} {ds : List PyData} {i : Nat} {v : V} {d : PyData} (a : DpAll K H vs ds) (h : vs[i]? = some v) (hd : ds[i]? = some d) : Dp K H v d := by
  obtain ⟨e, he, q⟩ := dpAll_at a h
  rw [hd] at he
  cases he
  exact q
/-- the name of its type -/
def tyN : PyData → String
  | .none => "NoneType"
  | .bool _ => "bool"
  | .int _ => "int"
  | .str _ => "str"
  | .list _ => "list"
  | .tuple _ => "tuple"
  | .dict _ => "dict"
theorem dp_ty {K : PySem.W.Frag} {H : Hp} {v : V} {d : PyData} (h : Dp K H v d) : TyX K H v (.type (tyN d)) := by
  cases h with
  | non => exact .base .non
  | bl b => exact .base (.bl b)
  | int i => exact .base (.int i)
  | str x => exact .base (.str x)
  | lst h _ =>
    rcases h with (h | ⟨o, h⟩) | ⟨o, _, _, h, c, _⟩
    · exact .base (.lst h)
    · exact .base (.frz h)
    · exact .kList h c
  | tup h _ =>
    rcases h with (h | ⟨o, h⟩) | ⟨o, _, _, h, c, _⟩
    · exact .base (.tup h)
    · exact .fTuple h
    · exact .kTuple h c
  | dct h => exact .base (.dK h)
/-- isinstance(d, T) -/
def isTN (T n : String) : Bool := n == T || (n == "bool" && T == "int")
def isT (T : String) (d : PyData) : Bool := isTN T (tyN d)
def tyNames : List String := ["NoneType", "bool", "int", "str", "list", "tuple", "dict"]
theorem kit_names : ∀ T ∈ ["int", "bool", "str", "list", "tuple"], ∀ n ∈ tyNames, kitB n T = some (isTN T n) := by decide +kernel
theorem tyN_mem : ∀ d : PyData, tyN d ∈ tyNames
  | .none => by unfold tyN tyNames; simp
  | .bool _ => by unfold tyN tyNames; simp
  | .int _ => by unfold tyN tyNames; simp
  | .str _ => by unfold tyN tyNames; simp
  | .list _ => by unfold tyN tyNames; simp
  | .tuple _ => by unfold tyN tyNames; simp
  | .dict _ => by unfold tyN tyNames; simp
theorem kit_data {K : PySem.W.Frag} {T : String} (hT : T ∈ ["int", "bool", "str", "list", "tuple"]) (d : PyData) : PySem.W.kitOne K (.type (tyN d)) (.type T) = some (isT T d) :=
  kit_ty (kit_names T hT _ (tyN_mem d))
/-- x < y of alike data -/
def rLtD (K : PySem.W.Frag) : R2 := fun x y H Q => ∃ d e, Dp K H x d ∧ Dp K H y e ∧ PySem.W.alike d e = true ∧ d ≠ .none ∧ d.depth ≤ 8 ∧ Q (.bl (PySem.W.dataLt d e)) H
theorem op_ltD {X : Cx} (hu : X.A.units + 64 < cLine) : OpR X (compareOp .Lt) (rLtD X.K) := by
  intro pins s σ H x y v u Q I rx ry h
  obtain ⟨d, e, hd, he, al, nn, dep, q⟩ := h
  obtain ⟨as, r1⟩ := Dp.reads I d x v hd rx
  obtain ⟨bs, r2⟩ := Dp.reads I e y u he ry
  exact PySem.W.rcLt_alike d e X.A s v u as bs r1 r2 al nn (by have := Nat.min_le_left d.depth e.depth; omega) X.prog X.w _ _ ⟨.bl _, H, I, rfl, q⟩
end DQ

set_option Elab.async false
set_option linter.all false
set_option maxRecDepth 100000
set_option maxHeartbeats 1000000
namespace DQ
open PySem PySem.Spec PyProof.Rows
open L2 (Hp V VK XK R2 OpR SqL SqT Inv RelV Vals HOk Cx EP CallR)
/-! ### repr of data, empty dicts among it -/
mutual
theorem dp_shown {X : Cx} {pins : List (Addr × Obj)} {σ : L2.St} {H : Hp} {s : Shared} (I : Inv X pins σ H s) : ∀ (d : PyData) (v : V) (u : Value), Dp X.K H v d → RelV v u → d.showable = true → d.shown.length ≤ sizeLine →
    ∃ bs, ReadAtMost s.heap d.depth bs ∧ ReprK X.prog X.w bs s.heap d.depth u d.shown
  | .none, v, u, h, r, sh, sz => (Dp.reads I .none v u h r).elim fun as rd => ReprK.of_reads rd sh (fun z => by simp [PyData.hasDict] at z) sz
  | .bool b, v, u, h, r, sh, sz => (Dp.reads I (.bool b) v u h r).elim fun as rd => ReprK.of_reads rd sh (fun z => by simp [PyData.hasDict] at z) sz
  | .int i, v, u, h, r, sh, sz => (Dp.reads I (.int i) v u h r).elim fun as rd => ReprK.of_reads rd sh (fun z => by simp [PyData.hasDict] at z) sz
  | .str x, v, u, h, r, sh, sz => (Dp.reads I (.str x) v u h r).elim fun as rd => ReprK.of_reads rd sh (fun z => by simp [PyData.hasDict] at z) sz
  | .list ds, v, u, h, r, sh, sz => by
    obtain ⟨as, rd⟩ := Dp.reads I (.list ds) v u h r
    cases h with
    | lst hs ha =>
      obtain rfl : u = Value.ref _ := r
      obtain ⟨its, rv, ⟨o, n, ho, hc, _, hd⟩, _⟩ := I.list hs
      have sz' : (listText (PyData.shownAll ds)).length ≤ sizeLine := by simpa only [PyData.shown] using sz
      obtain ⟨bs, hb, hk⟩ := dpAll_shown I ds _ its ha rv (by simpa only [PyData.showable] using sh) fun t ht => Nat.le_trans (listText_mem_le ht) sz'
      have hna := not_mem_of_deeper rd (by simp only [PyData.depth]; omega) hb
      refine ⟨_ :: bs, ReadAtMost.cons rd (by simp only [PyData.depth]; omega) hb, ?_⟩
      simp only [PyData.depth, PyData.shown]
      cases its with
      | nil =>
        cases rv
        cases ha
        simp only [PyData.shownAll, listText_nil]
        exact ReprK.listEmpty ho hc hd
      | cons y ys => exact ReprK.list ho hc hd hna (by simpa using hk.length_eq) fun i z e => hk.item i z (by simpa using e)
  | .tuple ds, v, u, h, r, sh, sz => by
    obtain ⟨as, rd⟩ := Dp.reads I (.tuple ds) v u h r
    cases h with
    | tup hs ha =>
      obtain rfl : u = Value.ref _ := r
      obtain ⟨its, rv, ⟨o, ho, hc, n, hd⟩, _⟩ := I.tuple hs
      have sz' : (tupleText (PyData.shownAll ds)).length ≤ sizeLine := by simpa only [PyData.shown] using sz
      obtain ⟨bs, hb, hk⟩ := dpAll_shown I ds _ its ha rv (by simpa only [PyData.showable] using sh) fun t ht => Nat.le_trans (tupleText_mem_le ht) sz'
      have hna := not_mem_of_deeper rd (by simp only [PyData.depth]; omega) hb
      refine ⟨_ :: bs, ReadAtMost.cons rd (by simp only [PyData.depth]; omega) hb, ?_⟩
      simp only [PyData.depth, PyData.shown]
      exact ReprK.tuple ho hc hd hna (by simpa using hk)
  | .dict kvs, v, u, h, r, sh, sz => by
    obtain ⟨as, rd⟩ := Dp.reads I (.dict kvs) v u h r
    cases h with
    | dct hs =>
      obtain rfl : u = Value.ref _ := r
      obtain ⟨_, hsys, vs, kv, o, es, ep, ho, ex, hd, _, ps, _⟩ := L2.dk_of I.hok hs
      have e0 : vs = [] := by
        cases kv
        rfl
      subst e0
      have e1 : es.toList = [] := List.length_eq_zero_iff.mp (by simpa using PySem.Pairs.length ps)
      refine ⟨[_], ReadAtMost.cons (bs := []) rd (n := 0) (Nat.zero_le _) (fun b hb => nomatch hb), ?_⟩
      simp only [PyData.depth, PyData.depthKv, PyData.shown, PyData.shownKv]
      exact ReprK.dict ho ex.1 hd hsys (by simp) (by rw [e1]; exact .nil)
theorem dpAll_shown {X : Cx} {pins : List (Addr × Obj)} {σ : L2.St} {H : Hp} {s : Shared} (I : Inv X pins σ H s) : ∀ (ds : List PyData) (vs : List V) (us : List Value), DpAll X.K H vs ds → Vals vs us → PyData.showableAll ds = true → (∀ t ∈ PyData.shownAll ds, t.length ≤ sizeLine) →
    ∃ bs, ReadAtMost s.heap (PyData.depthAll ds) bs ∧ ReprAllK X.prog X.w bs s.heap (PyData.depthAll ds) us (PyData.shownAll ds)
  | [], _, _, h, r, _, _ => by
    cases h
    cases r
    exact ⟨[], (fun _ h => nomatch h), by simp only [PyData.shownAll]; exact .nil⟩
  | d :: ds, _, _, h, r, sh, sz => by
    cases h with
    | cons h1 h2 =>
      cases r with
      | cons r1 r2 =>
        have sh' : d.showable = true ∧ PyData.showableAll ds = true := by simpa [PyData.showableAll] using sh
        obtain ⟨b1, hb1, k1⟩ := dp_shown I d _ _ h1 r1 sh'.1 (sz _ (by simp only [PyData.shownAll]; exact List.mem_cons_self ..))
        obtain ⟨b2, hb2, k2⟩ := dpAll_shown I ds _ _ h2 r2 sh'.2 fun t ht => sz t (by simp only [PyData.shownAll]; exact List.mem_cons_of_mem _ ht)
        have m1 : PyData.depth d ≤ PyData.depthAll (d :: ds) := by simp only [PyData.depthAll]; exact Nat.le_max_left _ _
        have m2 : PyData.depthAll ds ≤ PyData.depthAll (d :: ds) := by simp only [PyData.depthAll]; exact Nat.le_max_right _ _
        refine ⟨b1 ++ b2, (hb1.mono m1).append (hb2.mono m2), ?_⟩
        simp only [PyData.shownAll]
        exact .cons ((k1.more fun b hb => List.mem_append_left _ hb).level_le m1) (k2.more_le (fun b hb => List.mem_append_right _ hb) m2)
end
/-- what repr wants of data, dicts among it -/
structure ShowsZ (d : PyData) : Prop where
  sh : d.showable = true
  dep : d.depth ≤ 64
  sz : d.shown.length ≤ sizeLine
/-- repr of a tuple of data; the guards around are known to be none -/
def rReprT (K : PySem.W.Frag) : List V → Hp → VK → Prop := fun xs H Q => ∃ (a : Addr) (ds : List PyData), xs = [.ref a] ∧ Dp K H (.ref a) (.tuple ds) ∧ ShowsZ (.tuple ds) ∧ Q (.str (PyData.tuple ds).shown) H
theorem call_reprT {X : Cx} (hu : X.A.units + 65 < cLine) (hg : X.A.guards = some []) : CallR X (.builtin "repr") (rReprT X.K) := by
  intro pins s σ H xs us Q I r h
  obtain ⟨a, ds, rfl, hd, ⟨sh, dep, sz⟩, q⟩ := h
  obtain ⟨u, rfl, ru⟩ := L2.vals1 r
  obtain ⟨as, rd⟩ := Dp.reads I (.tuple ds) _ _ hd ru
  cases hd with
  | tup hs ha =>
    obtain rfl : u = Value.ref a := ru
    obtain ⟨its, rv, ⟨o, ho, hc, n, hd⟩, _⟩ := I.tuple hs
    have sz' : (tupleText (PyData.shownAll ds)).length ≤ sizeLine := by simpa only [PyData.shown] using sz
    obtain ⟨bs, hb, hk⟩ := dpAll_shown I ds _ its ha rv (by simpa only [PyData.showable] using sh) fun t ht => Nat.le_trans (tupleText_mem_le ht) sz'
    have hna := not_mem_of_deeper rd (by simp only [PyData.depth]; omega) hb
    have dp : PyData.depthAll ds + 1 ≤ 64 := by simpa only [PyData.depth] using dep
    refine call_repr_slot (by omega) ⟨o, ho, hc⟩ F.slot_tuple_repr (call_tuple_reprK ho hc hd hna (by simpa using hk) hg (fun b _ => Clear.nil b) (by show X.A.units + 1 + _ < _; omega) (fun _ _ e => e) (fun h' u tk k => ⟨_, _, rfl, ?_⟩) sz')
    simp only [PyData.shown] at q
    exact ⟨.str _, H, I.kept fun b o e => k b o e, ⟨u, rfl⟩, q⟩
end DQ

set_option Elab.async false
set_option linter.all false
set_option maxRecDepth 100000
set_option maxHeartbeats 2000000
namespace DQ
open PySem PySem.Spec PyProof.Rows L2
/-- repr of data that stands as an object; the guards around are known to be none -/
def rReprD (K : PySem.W.Frag) : List V → Hp → VK → Prop := fun xs H Q => ∃ (a : Addr) (d : PyData), xs = [.ref a] ∧ Dp K H (.ref a) d ∧ d.showable = true ∧ d.hasDict = false ∧ d.depth ≤ 64 ∧ d.shown.length ≤ sizeLine ∧ Q (.str d.shown) H
theorem call_reprD {X : Cx} (hu : X.A.units + 65 < cLine) (hg : X.A.guards = some []) : CallR X (.builtin "repr") (rReprD X.K) := by
  intro pins s σ H xs us Q I r h
  obtain ⟨a, d, rfl, hd, sh, nd, dep, sz, q⟩ := h
  obtain ⟨u, rfl, ru⟩ := vals1 r
  obtain rfl : u = Value.ref a := ru
  obtain ⟨as, rd⟩ := Dp.reads I d _ _ hd rfl
  refine repr_of_reads' rd sh (fun h => by rw [nd] at h; exact nomatch h) hg (by omega) (fun _ _ e => e) (fun h' u tk k => ?_) sz
  exact ⟨.str d.shown, H, I.kept fun b o e => k b o e, ⟨u, rfl⟩, q⟩
end DQ
namespace DQ
open PySem PySem.Spec PyProof.Rows L2
/-! ### defs that are called where no guard is around (repr wants that) -/
structure FnG (P : Program) (w : World) (K : PySem.W.Frag) (mg : Str → Option Value) (base : Heap) (CX : CXT) (k : Nat) (f : Addr) (fd : FuncData) (ps : List Str) (sp : Sp) : Prop where
  len : ∀ vs H Q E, sp vs H Q E → vs.length = ps.length
  run : ∀ (A : Around) (outer : List Env) (s : Shared) (H : Hp) (args : Args) (us : List Value) (vs : List V) (Q : VK) (E : XK), Room k A → A.guards = some [] → Env0 P w K mg base A outer s H → BindsTo s fd args (ps.zip us) → Vals vs us → sp vs H Q E →
    codeAny (model P w) A (.call (.ref f) args) (CR CX outer P w H s Q E) s
theorem FnG.of {P : Program} {w : World} {K : PySem.W.Frag} {mg : Str → Option Value} {base : Heap} {CX : CXT} {k : Nat} {f : Addr} {fd : FuncData} {ps : List Str} {sp : Sp} (F : FnOk P w K mg base CX k f fd ps sp) : FnG P w K mg base CX k f fd ps sp :=
  ⟨F.len, fun A outer s H args us vs Q E hr _ => F.run A outer s H args us vs Q E hr⟩
theorem fnG_of {CX : CXT} {P : Program} {w : World} {K : PySem.W.Frag} {mg : Str → Option Value} {base : Heap} {k : Nat} {f : Addr} {name qual : Str} {params : Arguments} {body : List Stmt} {scope : Scope} {dV kV doc pm cdv ct oc : Value} {an od : Option Addr}
    {osl : Array (Option Value)} {N ps : List Str} {sp : Sp} (lk : K.lookup f = some ⟨oc, od, .func (PySem.W.fnOf name qual params body scope dV kV doc pm an cdv ct), osl⟩) (hcd : PySem.W.codeIn K cdv qual = true) (S : FnScope N ps scope)
    (len : ∀ vs H Q E, sp vs H Q E → vs.length = ps.length)
    (hbody : ∀ (A : Around) (outer : List Env) (s : Shared) (H : Hp) (vs : List V) (Q : VK) (E : XK), Room k (A.deeper (envOfC qual scope s.heap.objs.size f cdv)) → A.guards = some [] → sp vs H Q E →
      ∃ t, PSs (cxOf CX P w K mg base N qual scope f cdv A outer s H E) body t ∧ t { nx := fun _ H' => Q .non H', rt := Q } (L2.start N vs) H) :
    FnG P w K mg base CX (k + 1) f (PySem.W.fnOf name qual params body scope dV kV doc pm an cdv ct) ps sp := by
  refine ⟨len, fun A outer s H args us vs Q E hr hg e0 hb r hsp => ?_⟩
  have hl := len _ _ _ _ hsp
  have KX : K.In s.heap := e0.mod.kin.keeps fun b o e => (e0.bs b o e).1
  have lim : s.heap.NoLimit := e0.mod.nolimit.keeps fun b o e => (e0.bs b o e).1
  have hkind : ∀ y ∈ ps.zip us, scope.names.lookup y.1 = some .local ∨ (scope.names.lookup y.1 = some .cell ∧ ((cellsFrom (s.heap.objs.size + 1) scope.names []).lookup y.1).isSome = true) := fun ⟨n, v⟩ hy => by
    rcases S.par n (List.of_mem_zip hy).1 with q | q
    · exact .inl q
    · exact .inr ⟨q, PySem.W.cellsFrom_some _ _ _ (.inl q)⟩
  refine codeAny_call_function hr.depth (KX _ _ lk) rfl S.co S.gen rfl (PySem.W.codeRec_of KX hcd) (hb _ _ _ _ ?_)
  refine wpAny_newFunctionEnv_cells S.kind hkind fun env he s1 x => ?_
  subst he
  refine ⟨lim.keeps x.toInCall.keep, codeAny_func ?_⟩
  obtain ⟨t, ht, hq⟩ := hbody A outer s H vs Q E (hr.deeper _) hg hsp
  have I : Inv (cxOf CX P w K mg base N qual scope f cdv A outer s H E) [] (L2.start N vs) H s1 := inv_start S hr.hd e0 hl r x
  refine wpAny_mono (ht.run [] s1 (L2.start N vs) H _ I hq) (fun fl s' hs => ?_) fun e s' hs => hs
  have fin : ∀ {σ' : L2.St} {H' : Hp} {v : V} {u : Value}, Inv (cxOf CX P w K mg base N qual scope f cdv A outer s H E) [] σ' H' s' → RelV v u → Q v H' → CE outer P w H s Q u s' :=
    fun {σ' H' v u} J rv q => ⟨v, H', J.os, J.bare, J.base, J.hok, rv, q⟩
  cases fl with
  | ret u =>
    obtain ⟨v, σ', H', J, rv, q⟩ := hs
    exact fin J rv q
  | next =>
    obtain ⟨σ', H', J, q⟩ := hs
    exact fin (v := V.non) (u := Value.none) J rfl q
  | brk =>
    obtain ⟨_, _, _, q⟩ := hs
    exact False.elim q
  | cont =>
    obtain ⟨_, _, _, q⟩ := hs
    exact False.elim q
section
variable {P : Program} {w : World} {K : PySem.W.Frag} {mg : Str → Option Value} {base : Heap}
theorem fun_okG {CX : CXT} {x qual : Str} {st : Stmt} {f : Addr} {fd : FuncData} {N ps : List Str} {k : Nat} {sp : Sp} (F : Fun K x qual st f fd) (S : FnScope N ps (defScope st)) (len : ∀ vs H Q E, sp vs H Q E → vs.length = ps.length)
    (hbody : ∀ (cdv : Value) (A : Around) (outer : List Env) (s : Shared) (H : Hp) (vs : List V) (Q : VK) (E : XK), Room k (A.deeper (envOfC qual (defScope st) s.heap.objs.size f cdv)) → A.guards = some [] → sp vs H Q E →
      ∃ t, PSs (cxOf CX P w K mg base N qual (defScope st) f cdv A outer s H E) (defBody st) t ∧ t { nx := fun _ H' => Q .non H', rt := Q } (L2.start N vs) H) : FnG P w K mg base CX (k + 1) f fd ps sp := by
  obtain ⟨oc, od, kV, doc, pm, an, cdv, ct, osl, rfl, lk, hcd⟩ := F.ex
  exact fnG_of lk hcd S len fun A outer s H vs Q E hr hg hsp => hbody cdv A outer s H vs Q E hr hg hsp
end
section
variable {X : Cx} {CX : CXT} {k : Nat} {f : Addr} {fd : FuncData} {ps : List Str} {sp : Sp} {dvs : List V} {ds : List Value} {E : XK} {x : Str} {p pos : Pos} {e : Expr} {es : List Expr} {t : TA}
theorem run_fnG {pins : List (Addr × Obj)} {σ : L2.St} {H : Hp} {s : Shared} {Q : VK} {us : List Value} {vs : List V} (F : FnG X.prog X.w X.K X.mg X.base CX k f fd ps sp) (hr : Room k X.A) (hG : X.A.guards = some []) (hb : Binds X.K fd ps ds) (hd : Vals dvs ds) (hx : Passes CX X E)
    (I : Inv X pins σ H s) (r : Vals vs us) (h : sp (vs ++ dvs) H Q E) : wpAny (model X.prog X.w) X.A (call (.ref f) us) (EP X pins σ Q) X.xe s := by
  have r2 : Vals (vs ++ dvs) (us ++ ds) := r.append hd
  have hl : (us ++ ds).length = ps.length := by rw [← r2.length]; exact F.len _ _ _ _ h
  refine wpAny_call (codeAny_mono (F.run X.A X.stack s H ⟨us, []⟩ (us ++ ds) (vs ++ dvs) Q E hr hG I.env0 (hb s us I.kIn hl) r2 h) fun r s' hq => ?_)
  cases r with
  | error e => exact hx pins σ H s e s' I hq
  | ok fl =>
    cases fl with
    | ret u => exact I.after hq
    | next => exact False.elim hq
    | brk => exact False.elim hq
    | cont => exact False.elim hq
theorem pe_callGd (F : FnG X.prog X.w X.K X.mg X.base CX k f fd ps sp) (hr : Room k X.A) (hG : X.A.guards = some []) (hg : Gl X x) (hm : X.mg x = some (.ref f)) (hk : PySem.W.keepIn X.K (.ref f) = true) (hb : Binds X.K fd ps ds) (hd : Vals dvs ds) (hx : Passes CX X E)
    (ha : PA X (e :: es) t) (hdb : (x == ("__debug__" : Str)) = false := by decide) (he : starEach (e :: es) X.env = (false, eval e X.env) :: starEach es X.env := by rfl) (hpl : (backTo pos (starEach es X.env)).any (·.1) = false := by rfl) :
    PE X (.Call (.Name x p) (e :: es) [] pos) (tCall sp dvs E t) := by
  refine ⟨fun pins s σ H Q I h => ?_⟩
  refine wpAny_Call_Name_kw (ld_glob I hg hm ?_ hdb)
  refine PySem.W.callWith_K (h₀ := X.base) I.ok.mod.kin hk (thn (ha.run pos pins s σ H _ I h) fun us s1 ⟨vs, H1, I1, r, q⟩ => ⟨I1.kIn, ?_⟩) he hpl
  exact run_fnG F hr hG hb hd hx I1 r q
end
end DQ
namespace DQ
open PySem PySem.Spec PyProof.Rows L2
/-- what repr wants of data -/
structure Shows (d : PyData) : Prop where
  sh : d.showable = true
  nod : d.hasDict = false
  dep : d.depth ≤ 64
  sz : d.shown.length ≤ sizeLine
/-- repr of any data; the guards around are known to be none -/
def rReprV (K : PySem.W.Frag) : List V → Hp → VK → Prop := fun xs H Q => ∃ (v : V) (d : PyData), xs = [v] ∧ Dp K H v d ∧ Shows d ∧ Q (.str d.shown) H
theorem call_reprV {X : Cx} (hu : X.A.units + 65 < cLine) (hg : X.A.guards = some []) : CallR X (.builtin "repr") (rReprV X.K) := by
  intro pins s σ H xs us Q I r h
  obtain ⟨v, d, rfl, hd, ⟨sh, nod, dep, sz⟩, q⟩ := h
  cases hd with
  | non =>
    obtain ⟨u, rfl, ru⟩ := vals1 r
    obtain rfl : u = Value.none := ru
    exact PySem.P.repr_of_none ⟨.str _, H, I.tok _, ⟨_, rfl⟩, q⟩
  | bl b =>
    obtain ⟨u, rfl, ru⟩ := vals1 r
    obtain rfl : u = Value.bool b := ru
    exact PySem.P.repr_of_bool ⟨.str _, H, I.tok _, ⟨_, rfl⟩, q⟩
  | int i =>
    obtain ⟨u, rfl, t, rfl⟩ := vals1 r
    exact PySem.P.repr_of_int (by simpa [PyData.showable] using sh) ⟨.str _, H, I.tok _, ⟨_, rfl⟩, q⟩
  | str x =>
    obtain ⟨u, rfl, t, rfl⟩ := vals1 r
    exact PySem.P.repr_of_str ⟨.str _, H, I.tok _, ⟨_, rfl⟩, q⟩ sz
  | lst hs ha => exact call_reprD hu hg pins s σ H _ us Q I r ⟨_, _, rfl, .lst hs ha, sh, nod, dep, sz, q⟩
  | tup hs ha => exact call_reprD hu hg pins s σ H _ us Q I r ⟨_, _, rfl, .tup hs ha, sh, nod, dep, sz, q⟩
  | dct h => simp [PyData.hasDict] at nod
end DQ

set_option Elab.async false
set_option linter.all false
set_option maxRecDepth 100000
set_option maxHeartbeats 4000000
namespace DQ
open PySem PySem.Spec PyProof.Rows L2
abbrev sWhole : Stmt := topS 17
abbrev sBetween : Stmt := topS 18
abbrev sNumber : Stmt := topS 19
abbrev sWords : Stmt := topS 20
abbrev sMarks : Stmt := topS 21
abbrev sColumns : Stmt := topS 22
abbrev sNumbers : Stmt := topS 23
theorem scWhole : FnScope ["value"] ["value"] (defScope sWhole) := ⟨rfl, rfl, rfl, by decide +kernel, rfl, by decide +kernel, by decide +kernel⟩
theorem scBetween : FnScope ["value", "least", "most"] ["value", "least", "most"] (defScope sBetween) := ⟨rfl, rfl, rfl, by decide +kernel, rfl, by decide +kernel, by decide +kernel⟩
theorem scNumber : FnScope ["value"] ["value"] (defScope sNumber) := ⟨rfl, rfl, rfl, by decide +kernel, rfl, by decide +kernel, by decide +kernel⟩
theorem scWords : FnScope ["value", "most", "word"] ["value", "most"] (defScope sWords) := ⟨rfl, rfl, rfl, by decide +kernel, rfl, by decide +kernel, by decide +kernel⟩
theorem scMarks : FnScope ["value"] ["value"] (defScope sMarks) := ⟨rfl, rfl, rfl, by decide +kernel, rfl, by decide +kernel, by decide +kernel⟩
theorem scColumns : FnScope ["marks", "value", "word"] ["marks", "value"] (defScope sColumns) := ⟨rfl, rfl, rfl, by decide +kernel, rfl, by decide +kernel, by decide +kernel⟩
theorem scNumbers : FnScope ["value", "item"] ["value"] (defScope sNumbers) := ⟨rfl, rfl, rfl, by decide +kernel, rfl, by decide +kernel, by decide +kernel⟩
def numD : PyData → Bool
  | .int i => decide (0 ≤ i) && decide (i ≤ 1000000000)
  | _ => false
def numsD : PyData → Bool
  | .list ds => ds.all numD
  | _ => false
def wordD : PyData → Bool
  | .str x => wordB x
  | _ => false
def textD : PyData → Option Str
  | .str x => some x
  | _ => none
def texts (ds : List PyData) : List Str := ds.filterMap textD
def wordsD (m : Nat) : PyData → Bool
  | .list ds => decide (ds.length ≤ m) && (ds.all wordD && decide (differ (texts ds) ds.length = ds.length))
  | _ => false
/-- no text of more than 1000 signs -/
def Short (d : PyData) : Prop := ∀ x, d = .str x → x.length ≤ 1000
/-- a list is of at most 10000 items, no text among them of more than 1000 signs -/
def Fits (d : PyData) : Prop := ∀ ds, d = .list ds → ds.length ≤ 10000 ∧ ∀ e ∈ ds, Short e
theorem texts_all {K : PySem.W.Frag} {H : Hp} : ∀ {vs : List V} {ds : List PyData}, DpAll K H vs ds → ds.all wordD = true → vs = (texts ds).map V.str ∧ (texts ds).length = ds.length
  | _, _, .nil, _ => ⟨rfl, rfl⟩
  | v :: vs, d :: ds, .cons a t, h => by
    rw [List.all_cons, Bool.and_eq_true] at h
    obtain ⟨h1, h2⟩ := h
    obtain ⟨e, l⟩ := texts_all t h2
    cases a with
    | str x =>
      unfold texts at e l ⊢
      rw [List.filterMap_cons_some (f := textD) (a := .str x) (b := x) rfl, List.map_cons, ← e, List.length_cons, l]
      exact ⟨rfl, rfl⟩
    | _ => cases h1
theorem all_at {f : PyData → Bool} {ds : List PyData} {i : Nat} {b : Bool} (h : (ds.map f)[i]? = some b) : ∃ d, ds[i]? = some d ∧ b = f d := by
  rw [List.getElem?_map] at h
  obtain ⟨x, hx, e⟩ := Option.map_eq_some_iff.mp h
  exact ⟨x, hx, e.symm⟩
section
variable {P : Program} {w : World} {K : PySem.W.Frag} {mg : Str → Option Value} {base : Heap}
/-- an int, no flag -/
def wholeD : PyData → Bool
  | .int _ => true
  | _ => false
/-- an int within bounds -/
def betweenD (a b : Int) : PyData → Bool
  | .int i => decide (a ≤ i) && decide (i ≤ b)
  | _ => false
def spWhole (K : PySem.W.Frag) : Sp := fun vs H Q _ => ∃ (v : V) (d : PyData), vs = [v] ∧ Dp K H v d ∧ Q (.bl (wholeD d)) H
theorem ok_whole {f : Addr} {fd : FuncData} (F : Fun K "is_whole" "is_whole" sWhole f fd) (mI : mg "isinstance" = none) (mInt : mg "int" = none) (mBool : mg "bool" = none) :
    FnOk P w K mg base CX0 1 f fd ["value"] (spWhole K) := by
  refine F.ok scWhole (fun vs H Q E h => ?_) (fun cdv A outer s H vs Q E hr h => ?_)
  · obtain ⟨v, d, rfl, _⟩ := h
    rfl
  obtain ⟨v, d, rfl, hd, q⟩ := h
  refine ⟨_, pss_one (ps_ret (pe_and (pe_callB call_isi (by rfl) mI (by decide +kernel) (pa_cons (pv 0) (pa_cons (pe_bltn (v := .ty "int") (by rfl) mInt (by decide +kernel) rfl) pa_nil)))
    (pe_one (pe_not (pe_callB call_isi (by rfl) mI (by decide +kernel) (pa_cons (pv 0) (pa_cons (pe_bltn (v := .ty "bool") (by rfl) mBool (by decide +kernel) rfl) pa_nil))))))), ?_⟩
  have ty := dp_ty hd
  refine ⟨_, rfl, v, .ty "int", _, _, _, rfl, .ty "int", ty, kit_data (by simp) d, _, rfl, ite2 (fun c1 => ⟨_, rfl, v, .ty "bool", _, _, _, rfl, .ty "bool", ty, kit_data (by simp) d, _, rfl, ?_⟩) fun c1 => ?_⟩
  · cases hd with
    | int i => exact q
    | bl b => exact q
    | _ => exact absurd c1 (by simp only [isT, tyN]; decide)
  · have : wholeD d = false := by
      cases hd with
      | int i => exact absurd rfl c1
      | _ => rfl
    rw [this] at q
    exact q
def spBetween (K : PySem.W.Frag) : Sp := fun vs H Q _ => ∃ (v : V) (d : PyData) (a b : Int), vs = [v, .int a, .int b] ∧ Dp K H v d ∧ Q (.bl (betweenD a b d)) H
theorem ok_between {f fw : Addr} {fd fdw : FuncData} (F : Fun K "is_between" "is_between" sBetween f fd) (GW : FnOk P w K mg base CX0 1 fw fdw ["value"] (spWhole K)) (bW : Binds K fdw ["value"] []) (kW : PySem.W.keepIn K (.ref fw) = true) (mW : mg "is_whole" = some (.ref fw)) :
    FnOk P w K mg base CX0 2 f fd ["value", "least", "most"] (spBetween K) := by
  refine F.ok scBetween (fun vs H Q E h => ?_) (fun cdv A outer s H vs Q E hr h => ?_)
  · obtain ⟨v, d, a, b, rfl, _⟩ := h
    rfl
  obtain ⟨v, d, a, b, rfl, hd, q⟩ := h
  refine ⟨_, pss_one (ps_ret (pe_and (pe_call GW (hr.mono (by decide)) rfl mW kW bW .nil pass0 (pa_cons (pv 0) pa_nil)) (pe_one (pe_chain op_le op_le (pv 1) (pv 0) (pv 2))))), ?_⟩
  refine ⟨_, rfl, v, d, rfl, hd, _, rfl, ite2 (fun c2 => ?_) fun c2 => ?_⟩
  · cases hd with
    | int i =>
      refine ⟨_, rfl, _, rfl, _, _, rfl, rfl, _, rfl, ite2 (fun c3 => ⟨_, rfl, _, _, rfl, rfl, ?_⟩) fun c3 => ?_⟩
      · have : betweenD a b (.int i) = decide (i ≤ b) := by
          show (decide (a ≤ i) && decide (i ≤ b)) = _
          rw [c3, Bool.true_and]
        rw [this] at q
        exact q
      · have : betweenD a b (.int i) = false := by
          show (decide (a ≤ i) && decide (i ≤ b)) = _
          rw [Bool.eq_false_iff.mpr c3, Bool.false_and]
        rw [this] at q
        exact q
    | _ => exact absurd c2 (by simp only [wholeD]; decide)
  · have : betweenD a b d = false := by
      cases hd with
      | int i => exact absurd rfl c2
      | _ => rfl
    rw [this] at q
    exact q
theorem num_between (d : PyData) : betweenD 0 1000000000 d = numD d := by cases d <;> rfl
def spNumber (K : PySem.W.Frag) : Sp := fun vs H Q _ => ∃ (v : V) (d : PyData), vs = [v] ∧ Dp K H v d ∧ Q (.bl (numD d)) H
theorem ok_number {f fb : Addr} {fd fdb : FuncData} {t1 : Tok} (F : Fun K "is_number" "is_number" sNumber f fd) (GB : FnOk P w K mg base CX0 2 fb fdb ["value", "least", "most"] (spBetween K)) (bB : Binds K fdb ["value", "least", "most"] []) (kB : PySem.W.keepIn K (.ref fb) = true) (mB : mg "is_between" = some (.ref fb))
    (mM : mg "MOST_NUMBER" = some (.int 1000000000 t1)) : FnOk P w K mg base CX0 3 f fd ["value"] (spNumber K) := by
  refine F.ok scNumber (fun vs H Q E h => ?_) (fun cdv A outer s H vs Q E hr h => ?_)
  · obtain ⟨v, d, rfl, _⟩ := h
    rfl
  obtain ⟨v, d, rfl, hd, q⟩ := h
  refine ⟨_, pss_one (ps_ret (pe_call GB (hr.mono (by decide)) rfl mB kB bB .nil pass0 (pa_cons (pv 0) (pa_cons pe_int (pa_cons (pe_glob (v := .int 1000000000) (by rfl) mM ⟨_, rfl⟩) pa_nil))))), ?_⟩
  refine ⟨_, rfl, v, d, 0, 1000000000, rfl, hd, ?_⟩
  rw [num_between]
  exact q
def spNumbers (K : PySem.W.Frag) : Sp := fun vs H Q _ => ∃ (v : V) (d : PyData), vs = [v] ∧ Dp K H v d ∧ Fits d ∧ ∀ H', Same H H' → Q (.bl (numsD d)) H'
theorem ok_numbers {f fn : Addr} {fd fdn : FuncData} (F : Fun K "are_numbers" "are_numbers" sNumbers f fd) (GN : FnOk P w K mg base CX0 3 fn fdn ["value"] (spNumber K)) (bN : Binds K fdn ["value"] []) (kN : PySem.W.keepIn K (.ref fn) = true) (mN : mg "is_number" = some (.ref fn))
    (mI : mg "isinstance" = none) (mList : mg "list" = none) (mAll : mg "all" = none) : FnOk P w K mg base CX0 4 f fd ["value"] (spNumbers K) := by
  refine F.ok scNumbers (fun vs H Q E h => ?_) (fun cdv A outer s H vs Q E hr h => ?_)
  · obtain ⟨v, d, rfl, _⟩ := h
    rfl
  obtain ⟨v, d, rfl, hd, fit, q⟩ := h
  have nd := scNumbers.nd
  refine ⟨_, pss_one (ps_ret (pe_and (pe_callB call_isi (by rfl) mI (by decide +kernel) (pa_cons (pv 0) (pa_cons (pe_bltn (v := .ty "list") (by rfl) mList (by decide +kernel) rfl) pa_nil)))
    (pe_one (pe_callB (cr_all rfl) (by rfl) mAll (by decide +kernel) (pa_cons (pe_lc (own := [("item", 1)]) (g := gName 1) (tt := tYes) rfl nd (pi_list (pv 0)) (blkOk_by (own := [("item", 1)]) (N := ["value", "item"]) (sc := defScope sNumbers) (by decide +kernel)) (fun _ _ _ _ _ => pg_name (i := 1) nd rfl (Or.inl rfl)) (fun _ _ _ _ _ => pts_nil)
      (fun _ _ _ _ _ => pe_call GN (hr.mono (by decide)) rfl mN kN bN .nil pass0 (pa_cons (pv 1) pa_nil))) pa_nil))))), ?_⟩
  have ty := dp_ty hd
  refine ⟨_, rfl, v, .ty "list", _, _, _, rfl, .ty "list", ty, kit_data (by simp) d, _, rfl, ite2 (fun c1 => ?_) fun c1 => ?_⟩
  · cases hd with
    | @lst a xs ds hs ha =>
      have len := dpAll_len ha
      obtain ⟨few, _⟩ := fit ds rfl
      refine ⟨_, rfl, a, rfl, ⟨_, hs⟩, fun D nD => lc_bools (walk_list (K := K) (a := a) (xs := xs)) (ds.map numD) (by rw [List.length_map, len]) (Nat.lt_of_le_of_lt (show xs.length ≤ 10000 by rw [len]; exact few) (by decide)) nD (fun _ s1 => L2.Same.seq s1 hs) (fun _ _ _ _ y => by rw [y.1]; exact fun _ _ h => h)
        (fun i v H2 H3 b hi hb s1 y R hR => ?_) (fun H2 s2 e2 => ?_) (fun _ _ _ _ _ m h => m _ _ h)⟩
      · obtain ⟨rfl, hv⟩ := y
        obtain ⟨e, he, rfl⟩ := all_at hb
        exact ⟨rfl, _, rfl, v, e, rfl, dp_same s1 _ _ (dpAll_get ha hv he), hR _ fun _ _ h => h⟩
      · refine ⟨D, _, rfl, SqL.of e2, ?_⟩
        rw [List.all_map]
        exact q H2 s2
    | _ => exact absurd c1 (by simp only [isT, tyN]; decide)
  · have : numsD d = false := by
      cases hd with
      | lst hs ha => exact absurd rfl c1
      | _ => rfl
    have q := q H fun _ _ h => h
    rw [this] at q
    exact q
end
end DQ

set_option Elab.async false
set_option linter.all false
set_option maxRecDepth 100000
set_option maxHeartbeats 4000000
namespace DQ
open PySem PySem.Spec PyProof.Rows L2
theorem not_list {d : PyData} (h : isT "list" d = false) : ∀ ds, d ≠ .list ds := fun ds e => by
  rw [e] at h
  exact absurd h (by simp only [isT, tyN]; decide)
section
variable {P : Program} {w : World} {K : PySem.W.Frag} {mg : Str → Option Value} {base : Heap}
def spWords (K : PySem.W.Frag) : Sp := fun vs H Q _ => ∃ (v : V) (d : PyData) (m : Nat), vs = [v, .int m] ∧ m ≤ 100 ∧ Dp K H v d ∧ Fits d ∧ ∀ H', Same H H' → Q (.bl (wordsD m d)) H'
theorem ok_words {f fn : Addr} {fd fdn : FuncData} (F : Fun K "are_words" "are_words" sWords f fd) (GW : FnOk P w K mg base CX0 2 fn fdn ["value"] (spIsWord K)) (bW : Binds K fdn ["value"] []) (kW : PySem.W.keepIn K (.ref fn) = true) (mW : mg "is_word" = some (.ref fn))
    (mI : mg "isinstance" = none) (mList : mg "list" = none) (mLen : mg "len" = none) (mSet : mg "set" = none) (mAll : mg "all" = none) : FnOk P w K mg base CX0 3 f fd ["value", "most"] (spWords K) := by
  refine F.ok scWords (fun vs H Q E h => ?_) (fun cdv A outer s H vs Q E hr h => ?_)
  · obtain ⟨v, d, m, rfl, _⟩ := h
    rfl
  obtain ⟨v, d, m, rfl, hm, hd, fit, q⟩ := h
  have nd := scWords.nd
  refine ⟨_, (pss_cons (ps_if (PW.pt (pw_or (pt_not (pt_val (pe_callB call_isi (by rfl) mI (by decide +kernel) (pa_cons (pv 0) (pa_cons (pe_bltn (v := .ty "list") (by rfl) mList (by decide +kernel) rfl) pa_nil)))))
      (pw_or1 (pt_cmpR op_gt (pe_callB call_len_seq (by rfl) mLen PySem.boot_len (pa_cons (pv 0) pa_nil)) (pv 1) (by rfl))))) (pss_one (ps_ret pe_bl)) pss_nil)
    (pss_one (ps_ret (pe_and (pe_callB (cr_all rfl) (by rfl) mAll (by decide +kernel) (pa_cons (pe_lc (own := [("word", 2)]) (g := gName 2) (tt := tYes) rfl nd (pi_list (pv 0)) (blkOk_by (own := [("word", 2)]) (N := ["value", "most", "word"]) (sc := defScope sWords) (by decide +kernel)) (fun _ _ _ _ _ => pg_name (i := 2) nd rfl (Or.inl rfl)) (fun _ _ _ _ _ => pts_nil)
      (fun _ _ _ _ _ => pe_call GW (hr.mono (by decide)) rfl mW kW bW .nil pass0 (pa_cons (pv 2) pa_nil))) pa_nil))
      (pe_one (pe_cmpR op_eq (pe_lenSetT rfl (by rfl) mLen (by rfl) mSet (pv 0)) (pe_callB call_len_seq (by rfl) mLen PySem.boot_len (pa_cons (pv 0) pa_nil)) (by rfl))))))), ?_⟩
  have ty := dp_ty hd
  refine ⟨_, rfl, v, .ty "list", _, _, _, rfl, .ty "list", ty, kit_data (by simp) d, ?_⟩
  refine ⟨_, rfl, ite2 (fun c1 => ?_) fun c1 => ?_⟩
  · have no : wordsD m d = false := by
      cases hd with
      | lst hs ha => exact absurd c1 (by simp only [isT, tyN]; decide)
      | _ => rfl
    have q := q H fun _ _ h => h
    rw [no] at q
    exact q
  cases hd with
  | @lst a xs ds hs ha =>
    have len := dpAll_len ha
    obtain ⟨few, short⟩ := fit ds rfl
    refine ⟨_, rfl, a, _, rfl, .inl hs, _, rfl, _, _, rfl, rfl, _, rfl, ite2 (fun c2 => ?_) fun c2 => ?_⟩
    · have no : wordsD m (.list ds) = false := by
        have c2 := of_decide_eq_true c2
        show (decide (ds.length ≤ m) && _) = false
        rw [decide_eq_false (by omega), Bool.false_and]
      have q := q H fun _ _ h => h
      rw [no] at q
      exact q
    have le : ds.length ≤ m := by
      have c2 := of_decide_eq_false (Bool.eq_false_iff.mpr c2)
      omega
    have yes : wordsD m (.list ds) = (ds.all wordD && decide (differ (texts ds) ds.length = ds.length)) := by
      show (decide (ds.length ≤ m) && _) = _
      rw [decide_eq_true le, Bool.true_and]
    rw [yes] at q
    refine ⟨_, rfl, a, rfl, ⟨_, hs⟩, fun D nD => lc_bools (walk_list (K := K) (a := a) (xs := xs)) (ds.map wordD) (by rw [List.length_map, len]) (Nat.lt_of_le_of_lt (show xs.length ≤ 10000 by rw [len]; exact few) (by decide)) nD (fun _ s1 => L2.Same.seq s1 hs) (fun _ _ _ _ y => by rw [y.1]; exact fun _ _ h => h)
        (fun i v H2 H3 b hi hb s1 y R hR => ?_) (fun H2 s2 e2 => ?_) (fun _ _ _ _ _ m h => m _ _ h)⟩
    · obtain ⟨rfl, hv⟩ := y
      obtain ⟨e, he, rfl⟩ := all_at hb
      have dv := dp_same s1 _ _ (dpAll_get ha hv he)
      refine ⟨rfl, _, rfl, v, rfl, ?_⟩
      cases dv with
      | str x => exact .inl ⟨x, rfl, short _ (List.mem_of_getElem? he) x rfl, fun H' sm => hR H' sm⟩
      | non => exact .inr ⟨⟨_, dp_ty (K := K) (d := .none) .non, kit_data (by simp) _⟩, hR _ fun _ _ h => h⟩
      | bl b => exact .inr ⟨⟨_, dp_ty (K := K) (d := .bool b) (.bl b), kit_data (by simp) _⟩, hR _ fun _ _ h => h⟩
      | int i => exact .inr ⟨⟨_, dp_ty (K := K) (d := .int i) (.int i), kit_data (by simp) _⟩, hR _ fun _ _ h => h⟩
      | lst h1 h2 => exact .inr ⟨⟨_, dp_ty (Dp.lst h1 h2), kit_data (by simp) _⟩, hR _ fun _ _ h => h⟩
      | tup h1 h2 => exact .inr ⟨⟨_, dp_ty (Dp.tup h1 h2), kit_data (by simp) _⟩, hR _ fun _ _ h => h⟩
      | dct h1 => exact .inr ⟨⟨_, dp_ty (Dp.dct h1), kit_data (by simp) _⟩, hR _ fun _ _ h => h⟩
    · refine ⟨D, _, rfl, SqL.of e2, _, rfl, ite2 (fun c3 => ?_) fun c3 => ?_⟩
      · rw [List.all_map] at c3
        have c3 : ds.all wordD = true := c3
        obtain ⟨et, lt⟩ := texts_all ha c3
        have hs2 := L2.Same.seq s2 hs
        refine ⟨_, rfl, a, texts ds, rfl, by rw [← et]; exact hs2, by omega, _, rfl, a, xs, rfl, .inl hs2, rfl, ?_⟩
        have q := q H2 s2
        rw [c3, Bool.true_and] at q
        rw [lt, len]
        have ee : decide (V.int ((differ (texts ds) ds.length : Nat) : Int) = V.int (ds.length : Nat)) = decide (differ (texts ds) ds.length = ds.length) := by
          by_cases z : differ (texts ds) ds.length = ds.length
          · rw [z]
            simp
          · rw [decide_eq_false z]
            exact decide_eq_false fun k => z (by injection k with k; omega)
        rw [ee]
        exact q
      · rw [List.all_map] at c3
        have q := q H2 s2
        rw [show ds.all wordD = false from Bool.eq_false_iff.mpr c3, Bool.false_and] at q
        exact q
  | _ => exact absurd rfl c1
def spMarks (K : PySem.W.Frag) (m : Nat) : Sp := fun vs H Q _ => ∃ (v : V) (d : PyData), vs = [v] ∧ Dp K H v d ∧ Fits d ∧ ∀ H', Same H H' → Q (.bl (wordsD m d)) H'
theorem ok_marks {f fn : Addr} {fd fdn : FuncData} {t1 : Tok} (F : Fun K "are_marks" "are_marks" sMarks f fd) (GW : FnOk P w K mg base CX0 3 fn fdn ["value", "most"] (spWords K)) (bW : Binds K fdn ["value", "most"] []) (kW : PySem.W.keepIn K (.ref fn) = true) (mW : mg "are_words" = some (.ref fn))
    (mM : mg "MOST_MARKS" = some (.int 4 t1)) : FnOk P w K mg base CX0 4 f fd ["value"] (spMarks K 4) := by
  refine F.ok scMarks (fun vs H Q E h => ?_) (fun cdv A outer s H vs Q E hr h => ?_)
  · obtain ⟨v, d, rfl, _⟩ := h
    rfl
  obtain ⟨v, d, rfl, hd, fit, q⟩ := h
  refine ⟨_, pss_one (ps_ret (pe_call GW (hr.mono (by decide)) rfl mW kW bW .nil pass0 (pa_cons (pv 0) (pa_cons (pe_glob (v := .int 4) (by rfl) mM ⟨_, rfl⟩) pa_nil)))), ?_⟩
  exact ⟨_, rfl, v, d, 4, rfl, by decide, hd, fit, q⟩
end
end DQ

set_option Elab.async false
set_option linter.all false
set_option maxRecDepth 100000
set_option maxHeartbeats 4000000
namespace DQ
open PySem PySem.Spec PyProof.Rows L2
def columnsD (ms : List Str) : PyData → Bool
  | .list ds => wordsD 2 (.list ds) && !(texts ds).any fun x => inV (.str x) (ms.map V.str)
  | _ => false
theorem columns_no {ms : List Str} {d : PyData} (h : wordsD 2 d = false) : columnsD ms d = false := by
  cases d with
  | list ds =>
    show (wordsD 2 (.list ds) && _) = false
    rw [h, Bool.false_and]
  | _ => rfl
theorem cut_drop {xs : List V} {k : Nat} : cutV xs (some (k : Int)) none = xs.drop k := by
  unfold cutV
  rw [HT.sIx_none, show HT.sIx xs.length 0 (some (k : Int)) = min k xs.length from HT.sIx_nat _ _ _]
  by_cases h : k ≤ xs.length
  · rw [Nat.min_eq_left h, List.take_of_length_le (by rw [List.length_drop]; exact Nat.le_refl _)]
  · rw [Nat.min_eq_right (by omega), Nat.sub_self, List.take_zero, List.drop_eq_nil_of_le (by omega)]
def ascB (ds : List PyData) : Bool := (ds.zip (ds.drop 1)).all fun p => PySem.W.dataLt p.1 p.2
section
variable {P : Program} {w : World} {K : PySem.W.Frag} {mg : Str → Option Value} {base : Heap}
def spColumns (K : PySem.W.Frag) : Sp := fun vs H Q _ => ∃ (ma : Addr) (ms : List Str) (v : V) (d : PyData), vs = [.ref ma, v] ∧ SqL K H ma (ms.map V.str) ∧ Dp K H v d ∧ Fits d ∧ ∀ H', Same H H' → Q (.bl (columnsD ms d)) H'
theorem ok_columns {f fn : Addr} {fd fdn : FuncData} {t1 : Tok} (F : Fun K "are_columns" "are_columns" sColumns f fd) (GW : FnOk P w K mg base CX0 3 fn fdn ["value", "most"] (spWords K)) (bW : Binds K fdn ["value", "most"] []) (kW : PySem.W.keepIn K (.ref fn) = true) (mW : mg "are_words" = some (.ref fn))
    (mM : mg "MOST_COLUMNS" = some (.int 2 t1)) (mAny : mg "any" = none) : FnOk P w K mg base CX0 4 f fd ["marks", "value"] (spColumns K) := by
  refine F.ok scColumns (fun vs H Q E h => ?_) (fun cdv A outer s H vs Q E hr h => ?_)
  · obtain ⟨ma, ms, v, d, rfl, _⟩ := h
    rfl
  obtain ⟨ma, ms, v, d, rfl, hma, hd, fit, q⟩ := h
  have nd := scColumns.nd
  refine ⟨_, pss_one (ps_ret (pe_and (pe_call GW (hr.mono (by decide)) rfl mW kW bW .nil pass0 (pa_cons (pv 1) (pa_cons (pe_glob (v := .int 2) (by rfl) mM ⟨_, rfl⟩) pa_nil)))
    (pe_one (pe_not (pe_callB (cr_any rfl) (by rfl) mAny (by decide +kernel) (pa_cons (pe_lc (own := [("word", 2)]) (g := gName 2) (tt := tYes) rfl nd (pi_list (pv 1)) (blkOk_by (own := [("word", 2)]) (N := ["marks", "value", "word"]) (sc := defScope sColumns) (by decide +kernel)) (fun _ _ _ _ _ => pg_name (i := 2) nd rfl (Or.inl rfl)) (fun _ _ _ _ _ => pts_nil)
      (fun _ _ _ _ _ => pe_cmpR (r := rIn K false) op_in_seq (pv 2) (pv 0) (by rfl))) pa_nil)))))), ?_⟩
  refine ⟨_, rfl, v, d, 2, rfl, by decide, hd, fit, fun H1 s1 => ⟨_, rfl, ite2 (fun c1 => ?_) fun c1 => ?_⟩⟩
  · cases hd with
    | @lst a xs ds hs ha =>
      obtain ⟨few, short⟩ := fit ds rfl
      have c1' : (decide (ds.length ≤ 2) && (ds.all wordD && decide (differ (texts ds) ds.length = ds.length))) = true := c1
      rw [Bool.and_eq_true, Bool.and_eq_true] at c1'
      obtain ⟨et, lt⟩ := texts_all ha c1'.2.1
      have hs1 := L2.Same.seq s1 hs
      rw [et] at hs1
      have yes : columnsD ms (.list ds) = !(texts ds).any fun x => inV (.str x) (ms.map V.str) := by
        show (wordsD 2 (.list ds) && _) = _
        rw [c1, Bool.true_and]
      rw [yes] at q
      refine ⟨_, rfl, a, rfl, ⟨_, hs1⟩, fun D nD => lc_bools (walk_list (K := K) (a := a) (xs := (texts ds).map V.str)) ((texts ds).map fun x => inV (.str x) (ms.map V.str)) (by rw [List.length_map, List.length_map]) (Nat.lt_of_le_of_lt (show ((texts ds).map V.str).length ≤ 10000 by rw [List.length_map, lt]; exact few) (by decide)) nD (fun _ s2 => L2.Same.seq s2 hs1) (fun _ _ _ _ y => by rw [y.1]; exact fun _ _ h => h)
        (fun i v H2 H3 b hi hb s2 y R hR => ?_) (fun H2 s2 e2 => ?_) (fun _ _ _ _ _ m h => m _ _ h)⟩
      · obtain ⟨rfl, hv⟩ := y
        obtain ⟨x, hx, rfl⟩ := at_map hv
        rw [List.getElem?_map, hx] at hb
        cases hb
        exact ⟨rfl, _, rfl, _, rfl, ma, _, rfl, .inl (L2.Same.seq (s1.trans s2) hma), rfl, flat_strs ms, hR _ fun _ _ h => h⟩
      · refine ⟨D, _, rfl, SqL.of e2, _, rfl, ?_⟩
        rw [List.any_map]
        exact q H2 (s1.trans s2)
    | _ => exact absurd c1 (by simp [wordsD])
  · have q := q H1 s1
    rw [columns_no (Bool.eq_false_iff.mpr c1)] at q
    exact q
end
end DQ

set_option Elab.async false
set_option linter.all false
set_option maxRecDepth 100000
set_option maxHeartbeats 400000
namespace DQ
open PySem PySem.Spec PyProof.Rows L2
abbrev sIsFact : Stmt := topS 25
abbrev NF : List Str := ["marks", "columns", "known", "value", "fits", "item"]
theorem scIsFact : FnScope NF ["marks", "columns", "known", "value"] (defScope sIsFact) := ⟨rfl, rfl, rfl, by decide +kernel, rfl, by decide +kernel, by decide +kernel⟩
def okItem (ns : List Int) (d : PyData) : Bool := numD d && match d with
  | .int i => decide (i ∈ ns)
  | _ => false
def hasD (ms : List Str) (b : PyData) : Bool := (ms.map PyData.str).any fun z => PyData.eqv z b
def isFactD (ms cs : List Str) (ns : List Int) : PyData → Bool
  | .tuple (a :: b :: r) => decide (r.length = 1 ∨ r.length = 2) && ((if r.length = 1 then PyData.eqv a (.str "mark") && hasD ms b else PyData.eqv a (.str "link") && hasD cs b) && r.all (okItem ns))
  | _ => false
/-- the parts of a tuple are of a shape that == takes -/
def Parts (d : PyData) : Prop := ∀ ds, d = .tuple ds → ∀ e ∈ ds.take 2, SeqAt.shaped e = true
theorem dp_texts {K : PySem.W.Frag} {H : Hp} : ∀ ms : List Str, DpAll K H (ms.map V.str) (ms.map PyData.str)
  | [] => .nil
  | x :: r => .cons (.str x) (dp_texts r)
theorem room65 {k : Nat} {A : Around} (r : Room k A) : A.units + 65 < cLine := by have := r.un; omega
theorem room1 {k : Nat} {A : Around} (r : Room k A) : A.units + 1 < cLine := by have := r.un; omega
/-- the dict of the items -/
def KnownAt (H : Hp) (ka : Addr) (ns : List Int) : Prop := ∃ kvs : List (Key × V), H ka = some (.dK kvs) ∧ ∀ i : Int, (valV kvs (.inl i)).isSome = decide (i ∈ ns)
theorem dpAll_two {K : PySem.W.Frag} {H : Hp} {xs : List V} {ds : List PyData} (h : DpAll K H xs ds) (l : 2 ≤ ds.length) : ∃ x0 x1 xr d0 d1 dr, xs = x0 :: x1 :: xr ∧ ds = d0 :: d1 :: dr ∧ Dp K H x0 d0 ∧ Dp K H x1 d1 ∧ DpAll K H xr dr := by
  cases h with
  | nil => exact absurd l (by decide)
  | cons a h =>
    cases h with
    | nil => exact absurd l (by simp)
    | cons b h => exact ⟨_, _, _, _, _, _, rfl, rfl, a, b, h⟩
theorem in_34 (n : Nat) : inV (.int (n : Int)) [.int 3, .int 4] = (decide (n = 3) || decide (n = 4)) := by
  show (((3 : Int) == (n : Int)) || (((4 : Int) == (n : Int)) || false)) = _
  rw [Bool.or_false]
  congr 1
  · by_cases h : n = 3
    · rw [h]; rfl
    · rw [decide_eq_false h]
      exact beq_eq_false_iff_ne.mpr fun e => h (by omega)
  · by_cases h : n = 4
    · rw [h]; rfl
    · rw [decide_eq_false h]
      exact beq_eq_false_iff_ne.mpr fun e => h (by omega)
theorem fact_no {ms cs : List Str} {ns : List Int} {ds : List PyData} (h : ¬ (ds.length = 3 ∨ ds.length = 4)) : isFactD ms cs ns (.tuple ds) = false := by
  match ds, h with
  | [], _ => rfl
  | [_], _ => rfl
  | a :: b :: r, h =>
    show (decide (r.length = 1 ∨ r.length = 2) && _) = false
    rw [decide_eq_false (fun z => h (by simp only [List.length_cons]; omega)), Bool.false_and]
section
variable {P : Program} {w : World} {K : PySem.W.Frag} {mg : Str → Option Value} {base : Heap}
def spIsFact (K : PySem.W.Frag) : Sp := fun vs H Q _ => ∃ (ma ca ka : Addr) (ms cs : List Str) (ns : List Int) (v : V) (d : PyData), vs = [.ref ma, .ref ca, .ref ka, v] ∧ SqL K H ma (ms.map V.str) ∧ SqL K H ca (cs.map V.str) ∧ SeqAt.shaped (.list (ms.map PyData.str)) = true ∧ SeqAt.shaped (.list (cs.map PyData.str)) = true ∧
  KnownAt H ka ns ∧ Dp K H v d ∧ Parts d ∧ ∀ H', Same H H' → Q (.bl (isFactD ms cs ns d)) H'
theorem ok_isFact {f fn : Addr} {fd fdn : FuncData} (F : Fun K "is_fact" "is_fact" sIsFact f fd) (GN : FnOk P w K mg base CX0 3 fn fdn ["value"] (spNumber K)) (bN : Binds K fdn ["value"] []) (kN : PySem.W.keepIn K (.ref fn) = true) (mN : mg "is_number" = some (.ref fn))
    (mI : mg "isinstance" = none) (mTuple : mg "tuple" = none) (mLen : mg "len" = none) (mAll : mg "all" = none) : FnOk P w K mg base CX0 4 f fd ["marks", "columns", "known", "value"] (spIsFact K) := by
  refine F.ok scIsFact (fun vs H Q E h => ?_) (fun cdv A outer s H vs Q E hr h => ?_)
  · obtain ⟨_, _, _, _, _, _, _, _, rfl, _⟩ := h
    rfl
  obtain ⟨ma, ca, ka, ms, cs, ns, v, d, rfl, hma, hca, lm, lc, hk, hd, pd, q⟩ := h
  have nd := scIsFact.nd
  refine ⟨_, (pss_cons (ps_if (PW.pt (pw_or (pt_not (pt_val (pe_callB call_isi (by rfl) mI (by decide +kernel) (pa_cons (pv 3) (pa_cons (pe_bltn (v := .ty "tuple") (by rfl) mTuple (by decide +kernel) rfl) pa_nil)))))
      (pw_or1 (pt_cmpR op_notIn_seq (pe_callB call_len_seq (by rfl) mLen PySem.boot_len (pa_cons (pv 3) pa_nil)) (pe_tup (pa_cons pe_int (pa_cons pe_int pa_nil))) (by rfl))))) (pss_one (ps_ret pe_bl)) pss_nil)
    (pss_cons (ps_if (pt_cmpR op_eq (pe_callB call_len_seq (by rfl) mLen PySem.boot_len (pa_cons (pv 3) pa_nil)) pe_int (nomark _))
      (pss_one (ps_set (i := 4) nd rfl (.inl rfl) (pe_and (pe_cmpR (op_eqD hr.units) (pe_ix (r := rIxT K) ix_tup (pv 3) pe_int (fun _ _ => rfl)) pe_str (nomark _)) (pe_one (pe_cmpR (op_inD (room65 hr)) (pe_ix (r := rIxT K) ix_tup (pv 3) pe_int (fun _ _ => rfl)) (pv 0) (by rfl))))))
      (pss_one (ps_set (i := 4) nd rfl (.inl rfl) (pe_and (pe_cmpR (op_eqD hr.units) (pe_ix (r := rIxT K) ix_tup (pv 3) pe_int (fun _ _ => rfl)) pe_str (nomark _)) (pe_one (pe_cmpR (op_inD (room65 hr)) (pe_ix (r := rIxT K) ix_tup (pv 3) pe_int (fun _ _ => rfl)) (pv 1) (by rfl)))))))
    (pss_one (ps_ret (pe_and (pv 4) (pe_one (pe_callB (cr_all rfl) (by rfl) mAll (by decide +kernel) (pa_cons (pe_lc (own := [("item", 5)]) (g := gName 5) (tt := tYes) rfl nd (pi_tup (pe_slice sl_tup (pv 3) (po_some pe_int) po_none)) (blkOk_by (own := [("item", 5)]) (N := NF) (sc := defScope sIsFact) (by decide +kernel)) (fun _ _ _ _ _ => pg_name (i := 5) nd rfl (Or.inl rfl)) (fun _ _ _ _ _ => pts_nil)
      (fun _ _ _ _ _ => pe_and (pe_call GN (hr.mono (by decide)) rfl mN kN bN .nil pass0 (pa_cons (pv 5) pa_nil)) (pe_one (pe_cmp (pc_din (room1 hr) (pv 5) (pv 2)) (by rfl))))) pa_nil)))))))), ?_⟩
  have ty := dp_ty hd
  refine ⟨_, rfl, v, .ty "tuple", _, _, _, rfl, .ty "tuple", ty, kit_data (by simp) d, _, rfl, ite2 (fun c1 => ?_) fun c1 => ?_⟩
  · have no : isFactD ms cs ns d = false := by
      cases hd with
      | tup hs ha => exact absurd c1 (by simp only [isT, tyN]; decide)
      | _ => rfl
    have q := q H fun _ _ h => h
    rw [no] at q
    exact q
  cases hd with
  | @tup a xs ds hs ha =>
    have len := dpAll_len ha
    refine ⟨_, rfl, a, _, rfl, .inr hs, by show 2 ≤ sizeLine; decide, fun T nT => ?_⟩
    have mT := same_new nT (o := .tup [.int 3, .int 4])
    have eT : upd H T (.tup [.int 3, .int 4]) T = some (.tup [.int 3, .int 4]) := upd_same
    generalize upd H T (.tup [.int 3, .int 4]) = H1 at mT eT ⊢
    refine ⟨T, _, rfl, .inr (.inl (.inl eT)), rfl, rfl, _, rfl, ite2 (fun c2 => ?_) fun c2 => ?_⟩
    · have c2 : (!inV (.int (xs.length : Nat)) [.int 3, .int 4]) = true := c2
      rw [in_34, len] at c2
      have q := q H1 mT
      rw [fact_no (fun z => by
        rcases z with z | z
        · rw [z] at c2; exact absurd c2 (by decide)
        · rw [z] at c2; exact absurd c2 (by decide))] at q
      exact q
    have c2 : ¬ (!inV (.int (xs.length : Nat)) [.int 3, .int 4]) = true := c2
    rw [in_34, len] at c2
    have l34 : ds.length = 3 ∨ ds.length = 4 := by
      by_cases h3 : ds.length = 3
      · exact .inl h3
      · by_cases h4 : ds.length = 4
        · exact .inr h4
        · rw [decide_eq_false h3, decide_eq_false h4] at c2
          exact absurd rfl c2
    obtain ⟨x0, x1, xr, d0, d1, dr, ex, ed, a0, a1, ar⟩ := dpAll_two ha (by omega)
    have hs1 := DQ.Same.seqT mT hs
    rw [ex] at hs1
    have s0 : SeqAt.shaped d0 = true := pd _ rfl d0 (by rw [ed]; exact List.mem_cons_self ..)
    have s1 : SeqAt.shaped d1 = true := pd _ rfl d1 (by rw [ed]; exact List.mem_cons_of_mem _ (List.mem_cons_self ..))
    have at0 : atI (x0 :: x1 :: xr) 0 = some x0 := atI_nat (j := 0) rfl
    have at1 : atI (x0 :: x1 :: xr) 1 = some x1 := atI_nat (j := 1) rfl
    have lr : dr.length = 1 ∨ dr.length = 2 := by
      rw [ed] at l34
      simp only [List.length_cons] at l34
      omega
    have lx : xr.length = dr.length := dpAll_len ar
    refine ⟨_, rfl, a, _, rfl, .inr hs1, rfl, _, rfl, ite2 (fun c3 => ?_) fun c3 => ?_⟩
    · have yes : isFactD ms cs ns (.tuple ds) = ((PyData.eqv d0 (.str "mark") && hasD ms d1) && dr.all (okItem ns)) := by
        have e1 : (dr.length = 1) = True := by
          exact eq_true (by have c3 := of_decide_eq_true c3; injection c3 with c3; rw [List.length_cons, List.length_cons, lx] at c3; omega)
        rw [ed]
        show (decide (dr.length = 1 ∨ dr.length = 2) && ((if dr.length = 1 then _ else _) && _)) = _
        rw [decide_eq_true lr, Bool.true_and, if_pos (of_eq_true e1)]
      rw [yes] at q
      refine ⟨_, rfl, a, _, 0, x0, rfl, rfl, hs1, at0, d0, .str "mark", dp_same mT _ _ a0, .str _, s0, by decide +kernel, _, rfl, ite2 (fun c4 => ?_) fun c4 => ?_⟩
      · refine ⟨_, rfl, a, _, 1, x1, rfl, rfl, hs1, at1, _, rfl, d1, ms.map PyData.str, dp_same mT _ _ a1, .lst (L2.Same.seq mT hma) (dp_texts ms), s1, lm, ?_⟩
        rw [c4, Bool.true_and] at q
        refine ⟨_, rfl, hasD ms d1, rfl, ite2 (fun c5 => ?_) fun c5 => ?_⟩
        · rw [c5, Bool.true_and] at q
          refine ⟨_, rfl, _, rfl, a, _, rfl, hs1, fun z => ?_, fun p np => ?_⟩
          · have z := z.1
            rw [show (some (2 : Int)) = some ((2 : Nat) : Int) from rfl, HT.sIx_nat] at z
            simp only [List.length_cons] at z
            omega
          rw [show (some (2 : Int)) = some ((2 : Nat) : Int) from rfl, cut_drop]
          have mp := same_new np (o := .tup ((x0 :: x1 :: xr).drop 2))
          have ep : upd H1 p (.tup ((x0 :: x1 :: xr).drop 2)) p = some (.tup xr) := upd_same
          generalize upd H1 p (.tup ((x0 :: x1 :: xr).drop 2)) = H2 at mp ep ⊢
          have all2 : L2.Same H H2 := mT.trans mp
          refine ⟨p, rfl, ⟨_, .inl (.inl ep)⟩, fun D nD => lc_bools (walk_tup (K := K) (a := p) (xs := xr)) (dr.map (okItem ns)) (by rw [List.length_map, lx]) (Nat.lt_of_le_of_lt (show xr.length ≤ 2 by omega) (by decide)) nD (fun _ s2 => .inl (.inl (s2 _ _ ep))) (fun _ _ _ _ y => by rw [y.1]; exact fun _ _ h => h)
            (fun i v H3 H4 b hi hb s2 y R hR => ?_) (fun H3 s3 e3 => ?_) (fun _ _ _ _ _ m h => m _ _ h)⟩
          · obtain ⟨rfl, hv⟩ := y
            obtain ⟨e, he, rfl⟩ := all_at hb
            have dv := dp_same (all2.trans s2) _ _ (dpAll_get ar hv he)
            refine ⟨rfl, _, rfl, v, e, rfl, dv, _, rfl, ite2 (fun c6 => ?_) fun c6 => ?_⟩
            · cases dv with
              | int i =>
                obtain ⟨kvs, ek, iff⟩ := hk
                refine ⟨_, rfl, _, rfl, ka, _, rfl, .inl ⟨kvs, .inl i, .inl ((all2.trans s2) _ _ ek), rfl, rfl⟩, ?_⟩
                have z := hR _ fun _ _ h => h
                have eo : okItem ns (.int i) = (valV kvs (.inl i)).isSome := by
                  show (numD (.int i) && decide (i ∈ ns)) = _
                  rw [c6, Bool.true_and, iff]
                rw [eo] at z
                exact z
              | _ => exact absurd c6 (by simp [numD])
            · have z := hR _ fun _ _ h => h
              have eo : okItem ns e = false := by
                unfold okItem
                rw [Bool.eq_false_iff.mpr c6, Bool.false_and]
              rw [eo] at z
              exact z
          · refine ⟨D, _, rfl, SqL.of e3, ?_⟩
            rw [List.all_map]
            exact q H3 (all2.trans s3)
        · rw [Bool.eq_false_iff.mpr c5, Bool.false_and] at q
          exact q H1 mT
      · rw [Bool.eq_false_iff.mpr c4, Bool.false_and, Bool.false_and] at q
        exact ⟨_, rfl, false, rfl, q H1 mT⟩
    · have yes : isFactD ms cs ns (.tuple ds) = ((PyData.eqv d0 (.str "link") && hasD cs d1) && dr.all (okItem ns)) := by
        have e1 : (dr.length = 1) = False := by
          exact eq_false fun z => c3 (decide_eq_true (by rw [List.length_cons, List.length_cons, lx, z]; rfl))
        rw [ed]
        show (decide (dr.length = 1 ∨ dr.length = 2) && ((if dr.length = 1 then _ else _) && _)) = _
        rw [decide_eq_true lr, Bool.true_and, if_neg (of_eq_false e1)]
      rw [yes] at q
      refine ⟨_, rfl, a, _, 0, x0, rfl, rfl, hs1, at0, d0, .str "link", dp_same mT _ _ a0, .str _, s0, by decide +kernel, _, rfl, ite2 (fun c4 => ?_) fun c4 => ?_⟩
      · refine ⟨_, rfl, a, _, 1, x1, rfl, rfl, hs1, at1, _, rfl, d1, cs.map PyData.str, dp_same mT _ _ a1, .lst (L2.Same.seq mT hca) (dp_texts cs), s1, lc, ?_⟩
        rw [c4, Bool.true_and] at q
        refine ⟨_, rfl, hasD cs d1, rfl, ite2 (fun c5 => ?_) fun c5 => ?_⟩
        · rw [c5, Bool.true_and] at q
          refine ⟨_, rfl, _, rfl, a, _, rfl, hs1, fun z => ?_, fun p np => ?_⟩
          · have z := z.1
            rw [show (some (2 : Int)) = some ((2 : Nat) : Int) from rfl, HT.sIx_nat] at z
            simp only [List.length_cons] at z
            omega
          rw [show (some (2 : Int)) = some ((2 : Nat) : Int) from rfl, cut_drop]
          have mp := same_new np (o := .tup ((x0 :: x1 :: xr).drop 2))
          have ep : upd H1 p (.tup ((x0 :: x1 :: xr).drop 2)) p = some (.tup xr) := upd_same
          generalize upd H1 p (.tup ((x0 :: x1 :: xr).drop 2)) = H2 at mp ep ⊢
          have all2 : L2.Same H H2 := mT.trans mp
          refine ⟨p, rfl, ⟨_, .inl (.inl ep)⟩, fun D nD => lc_bools (walk_tup (K := K) (a := p) (xs := xr)) (dr.map (okItem ns)) (by rw [List.length_map, lx]) (Nat.lt_of_le_of_lt (show xr.length ≤ 2 by omega) (by decide)) nD (fun _ s2 => .inl (.inl (s2 _ _ ep))) (fun _ _ _ _ y => by rw [y.1]; exact fun _ _ h => h)
            (fun i v H3 H4 b hi hb s2 y R hR => ?_) (fun H3 s3 e3 => ?_) (fun _ _ _ _ _ m h => m _ _ h)⟩
          · obtain ⟨rfl, hv⟩ := y
            obtain ⟨e, he, rfl⟩ := all_at hb
            have dv := dp_same (all2.trans s2) _ _ (dpAll_get ar hv he)
            refine ⟨rfl, _, rfl, v, e, rfl, dv, _, rfl, ite2 (fun c6 => ?_) fun c6 => ?_⟩
            · cases dv with
              | int i =>
                obtain ⟨kvs, ek, iff⟩ := hk
                refine ⟨_, rfl, _, rfl, ka, _, rfl, .inl ⟨kvs, .inl i, .inl ((all2.trans s2) _ _ ek), rfl, rfl⟩, ?_⟩
                have z := hR _ fun _ _ h => h
                have eo : okItem ns (.int i) = (valV kvs (.inl i)).isSome := by
                  show (numD (.int i) && decide (i ∈ ns)) = _
                  rw [c6, Bool.true_and, iff]
                rw [eo] at z
                exact z
              | _ => exact absurd c6 (by simp [numD])
            · have z := hR _ fun _ _ h => h
              have eo : okItem ns e = false := by
                unfold okItem
                rw [Bool.eq_false_iff.mpr c6, Bool.false_and]
              rw [eo] at z
              exact z
          · refine ⟨D, _, rfl, SqL.of e3, ?_⟩
            rw [List.all_map]
            exact q H3 (all2.trans s3)
        · rw [Bool.eq_false_iff.mpr c5, Bool.false_and] at q
          exact q H1 mT
      · rw [Bool.eq_false_iff.mpr c4, Bool.false_and, Bool.false_and] at q
        exact ⟨_, rfl, false, rfl, q H1 mT⟩
  | _ => exact absurd rfl c1
end
end DQ

set_option Elab.async false
set_option linter.all false
set_option maxRecDepth 100000
set_option maxHeartbeats 400000
namespace DQ
open PySem PySem.Spec PyProof.Rows L2
/-! ### d.setdefault((..), x): keys that are tuples -/
section
variable {X : Cx} {pins : List (Addr × Obj)} {σ : L2.St} {H : Hp} {s : Shared} {a b : Addr} {r : Value} {d : V} {k : List Key} {A : Around} {E : Value → Shared → Prop}
theorem d_setdT {kvs : List (List Key × V)} {Q : Value → Shared → Prop} (hu : A.units + 1 < cLine) (I : Inv X pins σ H s) (e : H a = some (.dT kvs)) (eb : H b = some (.tup (k.map kV))) (rd : RelV d r) (hl : kvs.length < sizeLine)
    (h1 : ∀ v, valV kvs k = some v → ∀ (w' : Value) (s' : Shared), Inv X pins σ H s' → RelV v w' → Q w' s') (h2 : valV kvs k = none → ∀ (w' : Value) (s' : Shared), Inv X pins σ (upd H a (.dT (putK kvs k d))) s' → RelV d w' → Q w' s') :
    wpAny (model X.prog X.w) A (call (.builtin "dict.setdefault") [.ref a, .ref b, r]) Q E s := by
  obtain ⟨z, hd, xs, rel, dd⟩ := dt_of I.hok e
  have hz : xs.length ≤ sizeLine := by rw [← Paired.length rel]; exact z
  refine call_setdefault_heap (hsz := hz) (tupleKind_room_in1 hu) (key_of I.hok eb) hd dd (fun p hp => ?_) fun hn h' dd' hs => ?_
  · have q := rel.val k
    rw [hp] at q
    cases q0 : valV kvs k with
    | none =>
      rw [q0] at q
      exact (show False from q).elim
    | some v0 =>
      rw [q0] at q
      exact h1 v0 q0 _ _ (I.tok _) q
  · have q := rel.val k
    rw [hn] at q
    cases q0 : valV kvs k with
    | some v0 =>
      rw [q0] at q
      exact (show False from q).elim
    | none =>
      have hl2 : (putK kvs k d).length ≤ sizeLine := by
        have := length_putK kvs k d
        omega
      obtain ⟨o, es, ep, hq, e2, e3, e4, _, e5⟩ := dd'
      refine h2 q0 _ _ (d_write (t' := _) I (by rw [e]; exact True.intro) hs ⟨o, hq⟩ ⟨hl2, hd, _, (rel.put k eb rd).keeps fun c ys ec => ?_, o, es, ep, hq, e2, e3, e4, e5⟩) rd
      rw [upd_ne (ne_of ec e (fun z => nomatch z))]
      exact ec
end
def tDSetdT (td ty tx : TE) : TE := fun σ H Q => td σ H fun x H1 => ∃ a, x = .ref a ∧ IsD H1 a ∧ ty σ H1 fun y H2 => tx σ H2 fun z H3 => ∃ (kvs : List (List Key × V)) (k : List Key) (b : Addr), H3 a = some (.dT kvs) ∧ y = .ref b ∧ H3 b = some (.tup (k.map kV)) ∧ kvs.length < sizeLine ∧
  (∀ v, valV kvs k = some v → Q v H3) ∧ (valV kvs k = none → Q z (upd H3 a (.dT (putK kvs k z))))
section
variable {X : Cx} {o e f : Expr} {td ty tx : TE} {apos cpos : Pos}
theorem pe_dsetdT (hu : X.A.units + 1 < cLine) (ho : PE X o td) (he : PE X e ty) (hf : PE X f tx) (m : M2 X o "setdefault" apos e f cpos) : PE X (.Call (.Attribute o "setdefault" apos) [e, f] [] cpos) (tDSetdT td ty tx) := by
  refine ⟨fun pins s σ H Q I h => ?_⟩
  refine wpAny_Call_method m.base m.few m.line PySem.F.plainAttrs_dict PySem.F.slot_dict_setdefault PySem.F.type_dict_setdefault (thn (ho.run pins s σ H _ I h) fun u s1 ⟨x, H1, I1, rx, a, ex, d, q1⟩ => ?_)
  subst ex
  obtain rfl : u = Value.ref a := rx
  obtain ⟨t1, t2, _⟩ := isD_at I1 d
  refine ⟨t1, t2, ?_⟩
  rw [m.trees]
  refine Calls.callWith_builtin rfl (Calls.evalArgs_plain (Calls.spliced_cons (thn (he.run pins s1 σ H1 _ I1 q1) fun iv s2 ⟨y, H2, I2, ry, q2⟩ =>
    Calls.spliced_cons (thn (hf.run pins s2 σ H2 _ I2 q2) fun fv s3 ⟨z, H3, I3, rz, kvs, k, b, ea, ey, eb, hl, q3, q4⟩ => Calls.spliced_nil ?_))))
  subst ey
  obtain rfl : iv = Value.ref b := ry
  exact d_setdT hu I3 ea eb rz hl (fun v hv w' s4 I4 rw' => ⟨v, _, I4, rw', q3 v hv⟩) fun hn w' s4 I4 rw' => ⟨z, _, I4, rw', q4 hn⟩
end
end DQ

set_option Elab.async false
set_option linter.all false
set_option maxRecDepth 100000
set_option maxHeartbeats 400000
namespace DQ
open PySem PySem.Spec PyProof.Rows L2
/-! ### links that clash -/
def clashes : Fact → Fact → Bool
  | .link c a b, .link c' a' b' => decide (c = c') && ((decide (a = a') && !decide (b = b')) || (decide (b = b') && !decide (a = a')))
  | _, _ => false
def NoClash (fs : List Fact) : Prop := ∀ x ∈ fs, ∀ y ∈ fs, clashes x y = false
theorem clashes_self (x : Fact) : clashes x x = false := by
  cases x with
  | mark _ _ => rfl
  | link c a b => simp [clashes]
theorem clashes_comm (x y : Fact) : clashes x y = clashes y x := by
  cases x with
  | mark _ _ => cases y <;> rfl
  | link c a b =>
    cases y with
    | mark _ _ => rfl
    | link c' a' b' =>
      show (decide (c = c') && ((decide (a = a') && !decide (b = b')) || (decide (b = b') && !decide (a = a')))) = (decide (c' = c) && ((decide (a' = a) && !decide (b' = b)) || (decide (b' = b) && !decide (a' = a))))
      rw [show decide (c = c') = decide (c' = c) from decide_eq_decide.mpr ⟨Eq.symm, Eq.symm⟩, show decide (a = a') = decide (a' = a) from decide_eq_decide.mpr ⟨Eq.symm, Eq.symm⟩, show decide (b = b') = decide (b' = b) from decide_eq_decide.mpr ⟨Eq.symm, Eq.symm⟩]
theorem noClash_snoc {fs : List Fact} {y : Fact} (h : NoClash fs) (n : ∀ x ∈ fs, clashes x y = false) : NoClash (fs ++ [y]) := fun x hx z hz => by
  rcases List.mem_append.mp hx with hx | hx <;> rcases List.mem_append.mp hz with hz | hz
  · exact h x hx z hz
  · rw [List.mem_singleton.mp hz]
    exact n x hx
  · rw [List.mem_singleton.mp hx, clashes_comm]
    exact n z hz
  · rw [List.mem_singleton.mp hx, List.mem_singleton.mp hz]
    exact clashes_self y
def isFrom (c : Str) (a : Int) : Fact → Bool
  | .link c' a' _ => decide (c' = c) && decide (a' = a)
  | _ => false
def isTo (c : Str) (b : Int) : Fact → Bool
  | .link c' _ b' => decide (c' = c) && decide (b' = b)
  | _ => false
/-- the first whose fact is such a one -/
def firstOf (p : Fact → Bool) (zs : List (V × Fact)) : Option V := (zs.find? fun z => p z.2).map (·.1)
theorem firstOf_snoc (p : Fact → Bool) (zs : List (V × Fact)) (z : V × Fact) : firstOf p (zs ++ [z]) = (firstOf p zs).or (if p z.2 = true then some z.1 else none) := by
  unfold firstOf
  rw [List.find?_append]
  cases zs.find? fun z => p z.2 with
  | some y => rfl
  | none =>
    by_cases h : p z.2 = true
    · rw [List.find?_cons_of_pos (by exact h), if_pos h]
      rfl
    · rw [List.find?_cons_of_neg (by exact h), if_neg h]
      rfl
theorem firstOf_some {p : Fact → Bool} {zs : List (V × Fact)} {v : V} (h : firstOf p zs = some v) : ∃ x, (v, x) ∈ zs ∧ p x = true := by
  unfold firstOf at h
  obtain ⟨z, hz, e⟩ := Option.map_eq_some_iff.mp h
  exact ⟨z.2, by rw [← e]; exact List.mem_of_find?_eq_some hz, by simpa using List.find?_some hz⟩
theorem firstOf_none {p : Fact → Bool} {zs : List (V × Fact)} (h : firstOf p zs = none) : ∀ z ∈ zs, p z.2 = false := by
  unfold firstOf at h
  have h := Option.map_eq_none_iff.mp h
  exact fun z hz => Bool.eq_false_iff.mpr (List.find?_eq_none.mp h z hz)
def kF (c : Str) (a : Int) : List Key := [.inr c, .inr "from", .inl a]
def kT (c : Str) (b : Int) : List Key := [.inr c, .inr "to", .inl b]
theorem kF_inj {c c' : Str} {a a' : Int} : kF c a = kF c' a' ↔ c = c' ∧ a = a' := by
  unfold kF
  constructor
  · intro h
    simp only [List.cons.injEq, Sum.inr.injEq, Sum.inl.injEq, and_true, true_and] at h
    exact h
  · rintro ⟨rfl, rfl⟩
    rfl
theorem kT_inj {c c' : Str} {a a' : Int} : kT c a = kT c' a' ↔ c = c' ∧ a = a' := by
  unfold kT
  constructor
  · intro h
    simp only [List.cons.injEq, Sum.inr.injEq, Sum.inl.injEq, and_true, true_and] at h
    exact h
  · rintro ⟨rfl, rfl⟩
    rfl
theorem kFT {c c' : Str} {a a' : Int} : kF c a ≠ kT c' a' := fun h => by
  unfold kF kT at h
  simp only [List.cons.injEq, Sum.inr.injEq] at h
  exact absurd h.2.1 (by decide)
theorem str_beq {x y : Str} : (x == y) = true ↔ x = y := ⟨fun h => eq_of_beq h, fun h => by rw [h]; exact beq_self_eq_true y⟩
theorem fact_eqv (x y : Fact) : PyData.eqv x.d y.d = true ↔ x = y := by
  cases x with
  | mark m i =>
    cases y with
    | mark m' i' =>
      simp only [Fact.d, PyData.eqv, PyData.eqvAll, Bool.and_true, Fact.mark.injEq, Bool.and_eq_true, str_beq, beq_iff_eq, true_and]
    | link c a b =>
      simp only [Fact.d, PyData.eqv, PyData.eqvAll, Bool.and_eq_true, str_beq]
      exact ⟨fun h => absurd h.1 (by decide), fun h => nomatch h⟩
  | link c a b =>
    cases y with
    | mark m' i' =>
      simp only [Fact.d, PyData.eqv, PyData.eqvAll, Bool.and_eq_true, str_beq]
      exact ⟨fun h => absurd h.1 (by decide), fun h => nomatch h⟩
    | link c' a' b' =>
      simp only [Fact.d, PyData.eqv, PyData.eqvAll, Bool.and_true, Fact.link.injEq, Bool.and_eq_true, str_beq, beq_iff_eq, true_and]
def Fact.word : Fact → Str
  | .mark m _ => m
  | .link c _ _ => c
theorem fact_shaped (x : Fact) (h : PyData.canLay0 (.str x.word) = true) : SeqAt.shaped x.d = true := by
  have e1 : PyData.canLay0 (.str "mark") = true := by decide +kernel
  have e2 : PyData.canLay0 (.str "link") = true := by decide +kernel
  have dep := fact_depth x
  show (PyData.canLay0 x.d && decide (x.d.depth ≤ 64)) = true
  rw [decide_eq_true (by omega), Bool.and_true]
  cases x with
  | mark m i =>
    have h : PyData.canLay0 (.str m) = true := h
    simp only [Fact.d, PyData.canLay0, PyData.canLayAll0, Bool.and_true] at h e1 e2 ⊢
    rw [e1, h]
    rfl
  | link c a b =>
    have h : PyData.canLay0 (.str c) = true := h
    simp only [Fact.d, PyData.canLay0, PyData.canLayAll0, Bool.and_true] at h e1 e2 ⊢
    rw [e2, h]
    rfl
end DQ

set_option Elab.async false
set_option linter.all false
set_option maxRecDepth 100000
set_option maxHeartbeats 400000
namespace DQ
open PySem PySem.Spec PyProof.Rows L2
abbrev sClash : Stmt := topS 26
abbrev NC : List Str := ["facts", "taken", "fact", "_", "column", "one", "other", "from_one", "to_other"]
theorem scClash : FnScope NC ["facts"] (defScope sClash) := ⟨rfl, rfl, rfl, by decide +kernel, rfl, by decide +kernel, by decide +kernel⟩
theorem both {Q : VK} {R : V → Prop} {N : Prop} {H3 H4 : Hp} {z : V} (P7 : V → Hp → Prop) (h1 : ∀ v, R v → P7 v H3) (h2 : N → P7 z H4) (h : ∀ v H, P7 v H → Q v H) : (∀ v, R v → Q v H3) ∧ (N → Q z H4) := ⟨fun v r => h _ _ (h1 v r), fun n => h _ _ (h2 n)⟩
theorem isFrom_iff {c : Str} {p : Int} {x : Fact} : isFrom c p x = true ↔ ∃ q, x = .link c p q := by
  cases x with
  | mark _ _ => exact ⟨fun h => absurd h (by simp [isFrom]), fun ⟨q, e⟩ => nomatch e⟩
  | link c' a b =>
    show (decide (c' = c) && decide (a = p)) = true ↔ _
    rw [Bool.and_eq_true, decide_eq_true_iff, decide_eq_true_iff]
    exact ⟨fun ⟨h1, h2⟩ => ⟨b, by rw [h1, h2]⟩, fun ⟨q, e⟩ => by cases e; exact ⟨rfl, rfl⟩⟩
theorem isTo_iff {c : Str} {p : Int} {x : Fact} : isTo c p x = true ↔ ∃ q, x = .link c q p := by
  cases x with
  | mark _ _ => exact ⟨fun h => absurd h (by simp [isTo]), fun ⟨q, e⟩ => nomatch e⟩
  | link c' a b =>
    show (decide (c' = c) && decide (b = p)) = true ↔ _
    rw [Bool.and_eq_true, decide_eq_true_iff, decide_eq_true_iff]
    exact ⟨fun ⟨h1, h2⟩ => ⟨a, by rw [h1, h2]⟩, fun ⟨q, e⟩ => by cases e; exact ⟨rfl, rfl⟩⟩
theorem clash_from {c : Str} {p q r : Int} (h : q ≠ r) : clashes (.link c p q) (.link c p r) = true := by simp [clashes, h]
theorem clash_to {c : Str} {p q r : Int} (h : q ≠ r) : clashes (.link c q p) (.link c r p) = true := by simp [clashes, h]
theorem no_clash {x y : Fact} (h1 : ∀ c p q r, y = .link c p q → x = .link c p r → x = y) (h2 : ∀ c p q r, y = .link c q p → x = .link c r p → x = y) : clashes x y = false := by
  refine Bool.eq_false_iff.mpr fun h => ?_
  cases x with
  | mark _ _ => exact absurd h (by simp [clashes])
  | link c a b =>
    cases y with
    | mark _ _ => exact absurd h (by simp [clashes])
    | link c' a' b' =>
      simp only [clashes, Bool.and_eq_true, Bool.or_eq_true, decide_eq_true_iff, Bool.not_eq_true', decide_eq_false_iff_not] at h
      obtain ⟨rfl, h⟩ := h
      rcases h with ⟨rfl, h⟩ | ⟨rfl, h⟩
      · have z := h1 _ _ _ _ rfl rfl
        cases z
        exact h rfl
      · have z := h2 _ _ _ _ rfl rfl
        cases z
        exact h rfl
/-- what a key's first fact tells of a fact behind it -/
structure Seen (p : Fact → Bool) (fs : List Fact) (x x7 : Fact) : Prop where
  same : x7 = x → ∀ y ∈ fs, p y = true → y = x
  other : x7 ≠ x → x7 ∈ fs ∧ clashes x7 x = true
theorem zip_take_mem {rs : List V} {fs : List Fact} (l : rs.length = fs.length) {i : Nat} {v : V} {x : Fact} (h : (v, x) ∈ (rs.zip fs).take i) : x ∈ fs.take i := by
  have z : x ∈ ((rs.zip fs).take i).map (·.2) := List.mem_map.mpr ⟨_, h, rfl⟩
  rwa [List.map_take, List.map_snd_zip (Nat.le_of_eq l.symm)] at z
theorem zip_take_of {rs : List V} {fs : List Fact} (l : rs.length = fs.length) {i : Nat} {x : Fact} (h : x ∈ fs.take i) : ∃ v, (v, x) ∈ (rs.zip fs).take i := by
  have z : x ∈ ((rs.zip fs).take i).map (·.2) := by rwa [List.map_take, List.map_snd_zip (Nat.le_of_eq l.symm)]
  obtain ⟨⟨v, y⟩, hz, rfl⟩ := List.mem_map.mp z
  exact ⟨v, hz⟩
theorem seen_some {rs : List V} {fs : List Fact} (l : rs.length = fs.length) {i : Nat} {p : Fact → Bool} {x : Fact} {v : V} (hp : ∀ y, p y = true → y ≠ x → clashes y x = true) (nc : NoClash (fs.take i)) (h : firstOf p ((rs.zip fs).take i) = some v) :
    ∃ x7, (v, x7) ∈ (rs.zip fs).take i ∧ Seen p (fs.take i) x x7 := by
  obtain ⟨x7, h1, h2⟩ := firstOf_some h
  have m := zip_take_mem l h1
  refine ⟨x7, h1, fun e y hy py => ?_, fun ne => ⟨m, hp x7 h2 ne⟩⟩
  by_cases z : y = x
  · exact z
  · have := nc y hy x7 m
    rw [e, hp y py z] at this
    exact nomatch this
theorem seen_none {rs : List V} {fs : List Fact} (l : rs.length = fs.length) {i : Nat} {p : Fact → Bool} {x : Fact} (h : firstOf p ((rs.zip fs).take i) = none) : Seen p (fs.take i) x x := by
  refine ⟨fun _ y hy py => ?_, fun ne => absurd rfl ne⟩
  obtain ⟨v, hv⟩ := zip_take_of l hy
  have := firstOf_none h _ hv
  rw [py] at this
  exact nomatch this
theorem next_some {zs : List (V × Fact)} {i : Nat} {z : V × Fact} {p : Fact → Bool} (hz : zs[i]? = some z) (h : p z.2 = true → (firstOf p (zs.take i)).isSome = true) : firstOf p (zs.take (i + 1)) = firstOf p (zs.take i) := by
  rw [take_next hz, firstOf_snoc]
  by_cases e : p z.2 = true
  · obtain ⟨v, hv⟩ := Option.isSome_iff_exists.mp (h e)
    rw [hv]
    rfl
  · rw [if_neg e, Option.or_none]
theorem next_none {zs : List (V × Fact)} {i : Nat} {z : V × Fact} {p : Fact → Bool} (hz : zs[i]? = some z) (e : p z.2 = true) (h : firstOf p (zs.take i) = none) : firstOf p (zs.take (i + 1)) = some z.1 := by
  rw [take_next hz, firstOf_snoc, h, if_pos e]
  rfl
section
variable {P : Program} {w : World} {K : PySem.W.Frag} {mg : Str → Option Value} {base : Heap}
def spClash (K : PySem.W.Frag) : Sp := fun vs H Q _ => ∃ (a : Addr) (rs : List V) (fs : List Fact), vs = [.ref a] ∧ SqL K H a rs ∧ Tups H rs (fs.map Fact.v) ∧ (∀ x ∈ fs, PyData.canLay0 (.str x.word) = true) ∧ fs.length ≤ 10000 ∧
  (∀ H', Same H H' → NoClash fs → Q .non H') ∧ ∀ i y v H', Same H H' → fs[i]? = some y → rs[i]? = some v → NoClash (fs.take i) → (∃ x ∈ fs.take i, clashes x y = true) → Q v H'
theorem ok_clash {f : Addr} {fd : FuncData} (F : Fun K "first_clash" "first_clash" sClash f fd) : FnOk P w K mg base CX0 1 f fd ["facts"] (spClash K) := by
  refine F.ok scClash (fun vs H Q E h => ?_) (fun cdv A outer s H vs Q E hr h => ?_)
  · obtain ⟨_, _, _, rfl, _⟩ := h
    rfl
  obtain ⟨a, rs, fs, rfl, hs, tp, lay, few, q1, q2⟩ := h
  have nd := scClash.nd
  refine ⟨_, (pss_cons (ps_set (i := 1) nd rfl (.inl rfl) pe_dnewT)
    (pss_cons (ps_for PassesOwn.never rfl (pi_list (pv 0)) (pg_name (i := 2) nd rfl (.inl rfl)) (pss_one (ps_if (pt_cmpR op_eq (pe_ix (r := rIxT K) ix_tup (pv 2) pe_int (fun _ _ => rfl)) pe_str (nomark _))
      (pss_cons (ps_asg (pv 2) (pg_tup rfl (pgs_cons (pg_name (i := 3) nd rfl (.inl rfl)) (pgs_cons (pg_name (i := 4) nd rfl (.inl rfl)) (pgs_cons (pg_name (i := 5) nd rfl (.inl rfl)) (pgs_cons (pg_name (i := 6) nd rfl (.inl rfl)) pgs_nil))))))
      (pss_cons (ps_set (i := 7) nd rfl (.inl rfl) (pe_dsetdT (room1 hr) (pv 1) (pe_tup (pa_cons (pv 4) (pa_cons pe_str (pa_cons (pv 5) pa_nil)))) (pv 2) (by constructor <;> rfl)))
      (pss_cons (ps_set (i := 8) nd rfl (.inl rfl) (pe_dsetdT (room1 hr) (pv 1) (pe_tup (pa_cons (pv 4) (pa_cons pe_str (pa_cons (pv 6) pa_nil)))) (pv 2) (by constructor <;> rfl)))
      (pss_one (ps_if (PW.pt (pw_or (pt_cmpR (op_neD hr.units) (pv 7) (pv 2) (nomark _)) (pw_or1 (pt_cmpR (op_neD hr.units) (pv 8) (pv 2) (nomark _))))) (pss_one (ps_ret (pv 2))) pss_nil)))))
      pss_nil)))
    (pss_one (ps_ret pe_non)))), ?_⟩
  intro D nD
  have sD := same_new nD (o := .dT [])
  have eD0 : upd H D (.dT []) D = some (.dT []) := upd_same
  generalize upd H D (.dT []) = H0 at sD eD0 ⊢
  have lr : rs.length = fs.length := by rw [tp.length, List.length_map]
  refine ⟨_, rfl, a, rfl, ⟨_, L2.Same.seq sD hs⟩, for_list (K := K) (a := a) (xs := rs) (fun i σ H' => ∃ (kvs : List (List Key × V)) (y2 y3 y4 y5 y6 y7 y8 : Option V), σ = [some (.ref a), some (.ref D), y2, y3, y4, y5, y6, y7, y8] ∧ Same H H' ∧ H' D = some (.dT kvs) ∧ kvs.length ≤ 2 * i ∧
      (∀ c x, valV kvs (kF c x) = firstOf (isFrom c x) ((rs.zip fs).take i)) ∧ (∀ c x, valV kvs (kT c x) = firstOf (isTo c x) ((rs.zip fs).take i)) ∧ NoClash (fs.take i))
    ⟨[], none, none, none, none, none, none, none, rfl, sD, eD0, Nat.le_refl _, fun _ _ => rfl, fun _ _ => rfl, fun x h => by cases h⟩ (fun i σ H' _ hP => ?_) (fun i v σ H' hx hP => ?_) fun σ H' hP => ?_⟩
  · obtain ⟨_, _, _, _, _, _, _, _, _, sm, _⟩ := hP
    exact L2.Same.seq sm hs
  · obtain ⟨kvs, y2, y3, y4, y5, y6, y7, y8, rfl, sm, eD, lk, hF, hT, nc⟩ := hP
    obtain ⟨t, tv, rfl, ht, htv⟩ := tp.get hx
    obtain ⟨x, hxf, rfl⟩ := at_map htv
    have hi : i < fs.length := (List.getElem?_eq_some_iff.mp hxf).1
    have hz : (rs.zip fs)[i]? = some (.ref t, x) := List.getElem?_zip_eq_some.mpr ⟨hx, hxf⟩
    have lx := lay x (List.mem_of_getElem? hxf)
    have ht' := sm _ _ ht
    have tk : fs.take (i + 1) = fs.take i ++ [x] := take_next hxf
    cases x with
    | mark m it =>
      refine ⟨_, rfl, t, _, 0, .str "mark", rfl, rfl, .inl (.inl ht'), atI_nat (j := 0) rfl, rfl, _, rfl, ?_⟩
      have ne : decide (V.str "mark" = V.str "link") = false := decide_eq_false (fun e => by injection e with e; exact absurd e (by decide))
      rw [ne]
      refine ⟨kvs, _, y3, y4, y5, y6, y7, y8, rfl, sm, eD, by omega, fun c x => ?_, fun c x => ?_, ?_⟩
      · rw [hF, next_some hz (fun e => absurd e (by simp [isFrom]))]
      · rw [hT, next_some hz (fun e => absurd e (by simp [isTo]))]
      · rw [tk]
        exact noClash_snoc nc fun y _ => by cases y <;> rfl
    | link c p q =>
      refine ⟨_, rfl, t, _, 0, .str "link", rfl, rfl, .inl (.inl ht'), atI_nat (j := 0) rfl, rfl, _, rfl, ?_⟩
      rw [decide_eq_true (rfl : V.str "link" = V.str "link")]
      refine ⟨_, rfl, t, _, rfl, .inl (.inl ht'), rfl, .str "link", _, rfl, .str c, _, rfl, .int p, _, rfl, .int q, _, rfl, rfl, ?_⟩
      refine ⟨_, rfl, D, rfl, .inr ⟨kvs, .inl eD⟩, _, rfl, _, rfl, by show 3 ≤ sizeLine; decide, fun T nT => ⟨_, rfl, ?_⟩⟩
      have mT := same_new nT (o := .tup [.str c, .str "from", .int p])
      have eT : upd H' T (.tup [.str c, .str "from", .int p]) T = some (.tup [.str c, .str "from", .int p]) := upd_same
      generalize upd H' T (.tup [.str c, .str "from", .int p]) = H1 at mT eT ⊢
      have eD1 := mT _ _ eD
      have sm1 : L2.Same H H1 := sm.trans mT
      have mem7 : ∀ (v : V) (x7 : Fact), (v, x7) ∈ (rs.zip fs).take i → (∃ t7, v = .ref t7 ∧ H t7 = some (.tup x7.v)) ∧ PyData.canLay0 (.str x7.word) = true := fun v x7 h =>
        ⟨tp.zip _ (List.mem_of_mem_take h), lay _ (List.mem_of_mem_take (zip_take_mem lr h))⟩
      refine ⟨kvs, kF c p, T, eD1, rfl, eT, Nat.lt_of_le_of_lt (show kvs.length ≤ 20000 by omega) (by decide), both (fun v H2 => ∃ (kvs1 : List (List Key × V)) (t7 : Addr) (x7 : Fact), v = .ref t7 ∧ H2 t7 = some (.tup x7.v) ∧ PyData.canLay0 (.str x7.word) = true ∧ Same H H2 ∧ H2 D = some (.dT kvs1) ∧ kvs1.length ≤ 2 * i + 1 ∧ (∀ c x, valV kvs1 (kF c x) = firstOf (isFrom c x) ((rs.zip fs).take (i + 1))) ∧ (∀ c x, valV kvs1 (kT c x) = firstOf (isTo c x) ((rs.zip fs).take i)) ∧ Seen (isFrom c p) (fs.take i) (.link c p q) x7) (fun v hv => ?_) (fun hn => ?_) fun v7 H2 h7 => ?_⟩
      · have hv' := hv
        rw [hF] at hv'
        obtain ⟨x7, hm, seen⟩ := seen_some (x := .link c p q) lr (fun y py ne => by
          obtain ⟨r, rfl⟩ := isFrom_iff.mp py
          exact clash_from fun e => ne (by rw [e])) nc hv'
        obtain ⟨⟨t7, rfl, e7⟩, l7⟩ := mem7 v x7 hm
        refine ⟨kvs, t7, x7, rfl, sm1 _ _ e7, l7, sm1, eD1, by omega, fun c' p' => ?_, hT, seen⟩
        rw [hF, next_some hz fun e => ?_]
        obtain ⟨r, e⟩ := isFrom_iff.mp e
        cases e
        rw [hv']
        rfl
      · have hn' := hn
        rw [hF] at hn'
        refine ⟨putK kvs (kF c p) (.ref t), t, .link c p q, rfl, same_upd sm1 nD _ _ ht, lx, same_upd sm1 nD, upd_same, by have := length_putK kvs (kF c p) (.ref t); omega, fun c' p' => ?_, fun c' p' => ?_, seen_none lr hn'⟩
        · rw [valV_put]
          by_cases e : kF c' p' = kF c p
          · rw [if_pos e]
            obtain ⟨rfl, rfl⟩ := kF_inj.mp e
            exact (next_none hz (isFrom_iff.mpr ⟨q, rfl⟩) hn').symm
          · rw [if_neg e, hF, next_some hz fun k => ?_]
            obtain ⟨r, k⟩ := isFrom_iff.mp k
            cases k
            exact absurd rfl e
        · rw [valV_put, if_neg (fun e => kFT e.symm), hT]
      obtain ⟨kvs1, t7, x7, rfl, e7, l7, sm2, eD2, lk1, hF1, hT1, seen7⟩ := h7
      refine ⟨_, rfl, D, rfl, .inr ⟨kvs1, .inl eD2⟩, _, rfl, _, rfl, by show 3 ≤ sizeLine; decide, fun T2 nT2 => ⟨_, rfl, ?_⟩⟩
      have mT2 := same_new nT2 (o := .tup [.str c, .str "to", .int q])
      have eT2 : upd H2 T2 (.tup [.str c, .str "to", .int q]) T2 = some (.tup [.str c, .str "to", .int q]) := upd_same
      generalize upd H2 T2 (.tup [.str c, .str "to", .int q]) = H3 at mT2 eT2 ⊢
      have eD3 := mT2 _ _ eD2
      have e73 := mT2 _ _ e7
      have sm3 : L2.Same H H3 := sm2.trans mT2
      refine ⟨kvs1, kT c q, T2, eD3, rfl, eT2, Nat.lt_of_le_of_lt (show kvs1.length ≤ 20001 by omega) (by decide), both (fun v H2 => H2 t7 = some (.tup x7.v) ∧ ∃ (kvs1 : List (List Key × V)) (t8 : Addr) (x8 : Fact), v = .ref t8 ∧ H2 t8 = some (.tup x8.v) ∧ PyData.canLay0 (.str x8.word) = true ∧ Same H H2 ∧ H2 D = some (.dT kvs1) ∧ kvs1.length ≤ 2 * i + 2 ∧ (∀ c x, valV kvs1 (kF c x) = firstOf (isFrom c x) ((rs.zip fs).take (i + 1))) ∧ (∀ c x, valV kvs1 (kT c x) = firstOf (isTo c x) ((rs.zip fs).take (i + 1))) ∧ Seen (isTo c q) (fs.take i) (.link c p q) x8) (fun v hv => ?_) (fun hn => ?_) fun v8 H4 h8 => ?_⟩
      · have hv' := hv
        rw [hT1] at hv'
        obtain ⟨x8, hm, seen⟩ := seen_some (x := .link c p q) lr (fun y py ne => by
          obtain ⟨r, rfl⟩ := isTo_iff.mp py
          exact clash_to fun e => ne (by rw [e])) nc hv'
        obtain ⟨⟨t8, rfl, e8⟩, l8⟩ := mem7 v x8 hm
        refine ⟨e73, kvs1, t8, x8, rfl, sm3 _ _ e8, l8, sm3, eD3, by omega, hF1, fun c' p' => ?_, seen⟩
        rw [hT1, next_some hz fun e => ?_]
        obtain ⟨r, e⟩ := isTo_iff.mp e
        cases e
        rw [hv']
        rfl
      · have hn' := hn
        rw [hT1] at hn'
        have neD : t7 ≠ D := fun e => by
          rw [e, eD3] at e73
          exact nomatch e73
        refine ⟨by rw [upd_ne neD]; exact e73, putK kvs1 (kT c q) (.ref t), t, .link c p q, rfl, same_upd sm3 nD _ _ ht, lx, same_upd sm3 nD, upd_same, by have := length_putK kvs1 (kT c q) (.ref t); omega, fun c' p' => ?_, fun c' p' => ?_, seen_none lr hn'⟩
        · rw [valV_put, if_neg kFT, hF1]
        · rw [valV_put]
          by_cases e : kT c' p' = kT c q
          · rw [if_pos e]
            obtain ⟨rfl, rfl⟩ := kT_inj.mp e
            exact (next_none hz (isTo_iff.mpr ⟨p, rfl⟩) hn').symm
          · rw [if_neg e, hT1, next_some hz fun k => ?_]
            obtain ⟨r, k⟩ := isTo_iff.mp k
            cases k
            exact absurd rfl e
      obtain ⟨e74, kvs2, t8, x8, rfl, e8, l8, sm4, eD4, lk2, hF2, hT2, seen8⟩ := h8
      have ht4 := sm4 _ _ ht
      have shx := fact_shaped (.link c p q) lx
      refine ⟨_, rfl, _, rfl, x7.d, (Fact.link c p q).d, fact_dp e74, fact_dp ht4, fact_shaped _ l7, shx, _, rfl, ite2 (fun n1 => ?_) fun n1 => ⟨_, rfl, _, rfl, x8.d, (Fact.link c p q).d, fact_dp e8, fact_dp ht4, fact_shaped _ l8, shx, _, rfl, ite2 (fun n2 => ?_) fun n2 => ?_⟩⟩
      · have ne : x7 ≠ .link c p q := fun e => by
          rw [(fact_eqv _ _).mpr e] at n1
          exact absurd n1 (by decide)
        exact ⟨_, rfl, q2 i _ _ H4 sm4 hxf hx nc ⟨x7, seen7.other ne⟩⟩
      · have ne : x8 ≠ .link c p q := fun e => by
          rw [(fact_eqv _ _).mpr e] at n2
          exact absurd n2 (by decide)
        exact ⟨_, rfl, q2 i _ _ H4 sm4 hxf hx nc ⟨x8, seen8.other ne⟩⟩
      · have yes : ∀ y : Fact, ¬ (!PyData.eqv y.d (Fact.link c p q).d) = true → y = .link c p q := fun y h => (fact_eqv _ _).mp (by
          cases e : PyData.eqv y.d (Fact.link c p q).d with
          | true => rfl
          | false => rw [e] at h; exact absurd rfl h)
        have s7 := seen7.same (yes _ n1)
        have s8 := seen8.same (yes _ n2)
        refine ⟨kvs2, _, _, _, _, _, _, _, rfl, sm4, eD4, by omega, hF2, hT2, ?_⟩
        rw [tk]
        refine noClash_snoc nc fun y hy => no_clash (fun c' p' q' r' k1 k2 => ?_) fun c' p' q' r' k1 k2 => ?_
        · cases k1
          exact s7 y hy (isFrom_iff.mpr ⟨_, k2⟩)
        · cases k1
          exact s8 y hy (isTo_iff.mpr ⟨_, k2⟩)
  · obtain ⟨kvs, y2, y3, y4, y5, y6, y7, y8, rfl, sm, eD, lk, hF, hT, nc⟩ := hP
    rw [lr, List.take_length] at nc
    exact q1 H' sm nc
end
end DQ

set_option Elab.async false
set_option linter.all false
set_option maxRecDepth 100000
set_option maxHeartbeats 400000
namespace DQ
open PySem PySem.Spec PyProof.Rows L2
/-- {item: True for item in items} -/
theorem dc_known {K : PySem.W.Frag} {a : Addr} {ns : List Int} {i : Nat} {vs : List Nat} {σ : L2.St} {H1 : Hp} {D : Addr} {Qd : Hp → Prop} {te : TE} (hs : SqL K H1 a (ns.map V.int)) (few : ns.length ≤ 10000) (nD : H1 D = none)
    (hw : ∀ (x : V), wipe ((wipe σ vs).set i (some x)) vs = wipe σ vs) (ht : ∀ (x : V) H (Q : V → Hp → Prop), Q x H → te ((wipe σ vs).set i (some x)) H Q) (hd : ∀ H, Same H1 H → KnownAt H D ns → Qd H) :
    ∃ W : Nat → Nat → Hp → Prop, (∃ m, W 0 m (upd H1 D (.dK []))) ∧ ∀ k m H, W k m H →
      ((Itl K a).stop k H ∧ Qd H) ∨ ((Itl K a).go k H ∧ ∃ Nx : Hp → Prop, (∀ H', Nx H' → ∃ m', m' < m ∧ W (k + 1) m' H') ∧ ∀ x H', (Itl K a).yld k H x H' → gName i x (wipe σ vs) H' fun σ2 H2 => wipe σ2 vs = wipe σ vs ∧ tYes σ2 H2 fun b H3 =>
        if b = true then te σ2 H3 fun y H4 => tC (.bl true) σ2 H4 fun z H5 => ∃ kvs k, y = kV k ∧ H5 D = some (.dK kvs) ∧ kvs.length < sizeLine ∧ Nx (upd H5 D (.dK (putK kvs k z))) else Nx H3) := by
  refine ⟨fun k m H => m = ns.length - k ∧ k ≤ ns.length ∧ Same H1 H ∧ ∃ kvs, H D = some (.dK kvs) ∧ kvs.length ≤ k ∧ ∀ j : Int, (valV kvs (.inl j)).isSome = decide (j ∈ ns.take k), ⟨ns.length, by simp, Nat.zero_le _, same_new nD, [], upd_same, Nat.le_refl _, fun j => by simp [valV]⟩, ?_⟩
  rintro k m H ⟨rfl, hk, sm, kvs, eD, lk, hv⟩
  have q := L2.Same.seq sm hs
  by_cases hlt : k < ns.length
  · refine .inr ⟨⟨_, _, q, by rw [List.getElem?_eq_getElem (by rw [List.length_map]; exact hlt)]⟩, fun H' => k + 1 ≤ ns.length ∧ Same H1 H' ∧ ∃ kvs, H' D = some (.dK kvs) ∧ kvs.length ≤ k + 1 ∧ ∀ j : Int, (valV kvs (.inl j)).isSome = decide (j ∈ ns.take (k + 1)), fun H' p => ⟨ns.length - (k + 1), by omega, rfl, p⟩, fun x H' y => ?_⟩
    obtain ⟨e, y⟩ := y
    subst e
    obtain ⟨n, hn, rfl⟩ := at_map (y _ q)
    refine ⟨hw _, ?_⟩
    refine ht _ _ _ ⟨kvs, .inl n, rfl, eD, Nat.lt_of_le_of_lt (show kvs.length ≤ 10000 by omega) (by decide), by omega, same_upd sm nD, _, upd_same, by have := length_putK kvs (.inl n) (.bl true); omega, fun j => ?_⟩
    rw [valV_put, take_next hn]
    by_cases e : j = n
    · rw [e, if_pos rfl]
      simp
    · rw [if_neg (fun z => e (by injection z)), hv]
      exact decide_eq_decide.mpr ⟨fun h => List.mem_append_left _ h, fun h => by
        rcases List.mem_append.mp h with h | h
        · exact h
        · exact absurd (List.mem_singleton.mp h) e⟩
  · have e : k = ns.length := by omega
    subst e
    refine .inl ⟨⟨_, q, by rw [List.length_map]; exact Nat.le_refl _⟩, hd H sm ⟨kvs, eD, fun j => ?_⟩⟩
    rw [hv, List.take_length]
def factD : PyData → Option Fact
  | .tuple [.str k, .str m, .int i] => if k = "mark" then some (.mark m i) else none
  | .tuple [.str k, .str c, .int a, .int b] => if k = "link" then some (.link c a b) else none
  | _ => none
def factsD (ds : List PyData) : List Fact := ds.filterMap factD
def noClashB (fs : List Fact) : Bool := fs.all fun x => fs.all fun y => !clashes x y
theorem noClashB_iff {fs : List Fact} : noClashB fs = true ↔ NoClash fs := by
  unfold noClashB NoClash
  simp only [List.all_eq_true, Bool.not_eq_true']
def areFactsD (ms cs : List Str) (ns : List Int) : PyData → Bool
  | .list ds => ds.all (isFactD ms cs ns) && (ascB ds && noClashB (factsD ds))
  | _ => false
theorem eqv_str {d : PyData} {s : Str} (h : PyData.eqv d (.str s) = true) : d = .str s := by
  cases d with
  | str x =>
    have e : (x == s) = true := by simpa only [PyData.eqv] using h
    rw [str_beq.mp e]
  | _ => exact absurd h (by simp [PyData.eqv])
theorem str_eqv {d : PyData} {s : Str} (h : PyData.eqv (.str s) d = true) : d = .str s := by
  cases d with
  | str x =>
    have e : (s == x) = true := by simpa only [PyData.eqv] using h
    rw [str_beq.mp e]
  | _ => exact absurd h (by simp [PyData.eqv])
theorem hasD_str {ms : List Str} {d : PyData} (h : hasD ms d = true) : ∃ m ∈ ms, d = .str m := by
  obtain ⟨z, hz, e⟩ := List.any_eq_true.mp h
  obtain ⟨m, hm, rfl⟩ := List.mem_map.mp hz
  exact ⟨m, hm, str_eqv e⟩
theorem okItem_int {ns : List Int} {d : PyData} (h : okItem ns d = true) : ∃ i ∈ ns, d = .int i := by
  unfold okItem at h
  rw [Bool.and_eq_true] at h
  cases d with
  | int i => exact ⟨i, of_decide_eq_true h.2, rfl⟩
  | _ => exact absurd h.2 (by simp)
theorem isFact_fact {ms cs : List Str} {ns : List Int} {d : PyData} (h : isFactD ms cs ns d = true) : ∃ x : Fact, d = x.d ∧ factD d = some x ∧ (x.word ∈ ms ∨ x.word ∈ cs) ∧ x.of ⟨ms, cs, ns, []⟩ := by
  cases d with
  | tuple ds =>
    match ds, h with
    | [], h => exact nomatch h
    | [_], h => exact nomatch h
    | a :: b :: r, h =>
      have h : (decide (r.length = 1 ∨ r.length = 2) && ((if r.length = 1 then PyData.eqv a (.str "mark") && hasD ms b else PyData.eqv a (.str "link") && hasD cs b) && r.all (okItem ns))) = true := h
      rw [Bool.and_eq_true, Bool.and_eq_true] at h
      obtain ⟨l, h1, h2⟩ := h
      have l := of_decide_eq_true l
      match r, l, h1, h2 with
      | [c], _, h1, h2 =>
        rw [if_pos (show [c].length = 1 from rfl), Bool.and_eq_true] at h1
        obtain ⟨m, hm, rfl⟩ := hasD_str h1.2
        rw [List.all_cons, Bool.and_eq_true] at h2
        obtain ⟨i, hi, rfl⟩ := okItem_int h2.1
        have ea := eqv_str h1.1
        subst ea
        exact ⟨.mark m i, rfl, (if_pos rfl : (if ("mark" : Str) = "mark" then some (Fact.mark m i) else none) = _), .inl hm, hm, hi⟩
      | [c, e], _, h1, h2 =>
        rw [if_neg (by simp), Bool.and_eq_true] at h1
        obtain ⟨m, hm, rfl⟩ := hasD_str h1.2
        rw [List.all_cons, List.all_cons, Bool.and_eq_true, Bool.and_eq_true] at h2
        obtain ⟨i, hi, rfl⟩ := okItem_int h2.1
        obtain ⟨j, hj, rfl⟩ := okItem_int h2.2.1
        have ea := eqv_str h1.1
        subst ea
        exact ⟨.link m i j, rfl, (if_pos rfl : (if ("link" : Str) = "link" then some (Fact.link m i j) else none) = _), .inr hm, hm, hi, hj⟩
      | [], l, _, _ => exact absurd l (by simp)
      | _ :: _ :: _ :: _, l, _, _ => exact absurd l (by simp)
  | _ => exact absurd h (by simp [isFactD])
theorem all_facts {ms cs : List Str} {ns : List Int} : ∀ {ds : List PyData}, ds.all (isFactD ms cs ns) = true → ds = (factsD ds).map Fact.d ∧ ∀ x ∈ factsD ds, (x.word ∈ ms ∨ x.word ∈ cs) ∧ x.of ⟨ms, cs, ns, []⟩
  | [], _ => ⟨rfl, fun x h => by cases h⟩
  | d :: ds, h => by
    rw [List.all_cons, Bool.and_eq_true] at h
    obtain ⟨x, e1, e2, e3, e4⟩ := isFact_fact h.1
    obtain ⟨i1, i2⟩ := all_facts h.2
    unfold factsD at i1 i2 ⊢
    rw [List.filterMap_cons_some e2]
    refine ⟨by rw [List.map_cons, ← i1, ← e1], fun y hy => ?_⟩
    rcases List.mem_cons.mp hy with rfl | hy
    · exact ⟨e3, e4⟩
    · exact i2 y hy
end DQ

set_option Elab.async false
set_option linter.all false
set_option maxRecDepth 100000
set_option maxHeartbeats 400000
namespace DQ
open PySem PySem.Spec PyProof.Rows L2
/-! ### what a store is, of any data: words, items, facts -/
def listD : PyData → List PyData
  | .list ds => ds
  | _ => []
def intD : PyData → Option Int
  | .int i => some i
  | _ => none
def intsD (ds : List PyData) : List Int := ds.filterMap intD
theorem ints_all {K : PySem.W.Frag} {H : Hp} : ∀ {vs : List V} {ds : List PyData}, DpAll K H vs ds → ds.all numD = true → vs = (intsD ds).map V.int ∧ (intsD ds).length = ds.length ∧ ds = (intsD ds).map PyData.int
  | _, _, .nil, _ => ⟨rfl, rfl, rfl⟩
  | v :: vs, d :: ds, .cons a t, h => by
    rw [List.all_cons, Bool.and_eq_true] at h
    obtain ⟨h1, h2⟩ := h
    obtain ⟨e, l, m⟩ := ints_all t h2
    cases a with
    | int x =>
      unfold intsD at e l m ⊢
      rw [List.filterMap_cons_some (f := intD) (a := .int x) (b := x) rfl, List.map_cons, List.map_cons, ← e, ← m, List.length_cons, l]
      exact ⟨rfl, rfl, rfl⟩
    | _ => cases h1
theorem texts_data : ∀ {ds : List PyData}, ds.all wordD = true → ds = (texts ds).map PyData.str
  | [], _ => rfl
  | d :: ds, h => by
    rw [List.all_cons, Bool.and_eq_true] at h
    have m := texts_data h.2
    cases d with
    | str x =>
      unfold texts at m ⊢
      rw [List.filterMap_cons_some (f := textD) (a := .str x) (b := x) rfl, List.map_cons, ← m]
    | _ => exact nomatch h.1
/-- a store, as data -/
def isStoreD (s m c i f : PyData) : Bool :=
  PyData.eqv s (.str "store") && ((wordsD 4 m && columnsD (texts (listD m)) c) && ((numsD i && decide ((listD i).length ≤ 2000) && ascB (listD i)) && areFactsD (texts (listD m)) (texts (listD c)) (intsD (listD i)) f))
theorem wordsD_list {m : Nat} {d : PyData} (h : wordsD m d = true) : ∃ ds, d = .list ds ∧ ds.all wordD = true := by
  cases d with
  | list ds =>
    have h : (decide (ds.length ≤ m) && (ds.all wordD && decide (differ (texts ds) ds.length = ds.length))) = true := h
    rw [Bool.and_eq_true, Bool.and_eq_true] at h
    exact ⟨ds, rfl, h.2.1⟩
  | _ => exact absurd h (by simp [wordsD])
/-- the items of a list can be laid -/
def Lays (d : PyData) : Prop := ∀ ds, d = .list ds → ∀ e ∈ ds, e.canLay0 = true
theorem shaped_texts {ds : List PyData} (h : ds.all wordD = true) (l : ∀ e ∈ ds, e.canLay0 = true) : SeqAt.shaped (.list ((texts ds).map PyData.str)) = true := by
  rw [← texts_data h]
  have c : ∀ {xs : List PyData}, xs.all wordD = true → (∀ e ∈ xs, e.canLay0 = true) → PyData.canLayAll0 xs = true ∧ PyData.depthAll xs = 0 := fun {xs} => by
    induction xs with
    | nil => exact fun _ _ => ⟨rfl, rfl⟩
    | cons x xs ih =>
      intro h l
      rw [List.all_cons, Bool.and_eq_true] at h
      obtain ⟨a, b⟩ := ih h.2 fun e he => l e (List.mem_cons_of_mem _ he)
      have lx := l x (List.mem_cons_self ..)
      cases x with
      | str z =>
        refine ⟨?_, ?_⟩
        · simp only [PyData.canLayAll0]
          rw [lx, a]
          rfl
        · simp only [PyData.depthAll, PyData.depth]
          rw [b]
          rfl
      | _ => exact nomatch h.1
  obtain ⟨a, b⟩ := c h l
  have dep : (PyData.list ds).depth ≤ 64 := by
    simp only [PyData.depth]
    rw [b]
    decide
  show (PyData.canLay0 (.list ds) && decide (PyData.depth (.list ds) ≤ 64)) = true
  rw [decide_eq_true dep, Bool.and_true]
  simp only [PyData.canLay0]
  exact a
theorem ne_int {n k : Nat} (h : n ≠ k) : decide (V.int (n : Int) = V.int (k : Int)) = false := decide_eq_false fun e => h (by injection e with e; omega)
end DQ

set_option Elab.async false
set_option linter.all false
set_option maxRecDepth 100000
set_option maxHeartbeats 400000
namespace DQ
open PySem PySem.Spec PyProof.Rows L2
/-! ### a drawn store is judged a store -/
theorem texts_strs : ∀ ms : List Str, texts (ms.map PyData.str) = ms
  | [] => rfl
  | x :: r => by
    have ih := texts_strs r
    unfold texts at ih ⊢
    rw [List.map_cons, List.filterMap_cons_some (f := textD) (a := .str x) (b := x) rfl, ih]
theorem factD_d (x : Fact) : factD x.d = some x := by
  cases x with
  | mark m i => exact (if_pos rfl : (if ("mark" : Str) = "mark" then some (Fact.mark m i) else none) = _)
  | link c a b => exact (if_pos rfl : (if ("link" : Str) = "link" then some (Fact.link c a b) else none) = _)
theorem factsD_facts : ∀ fs : List Fact, factsD (fs.map Fact.d) = fs
  | [] => rfl
  | x :: r => by
    have ih := factsD_facts r
    unfold factsD at ih ⊢
    rw [List.map_cons, List.filterMap_cons_some (factD_d x), ih]
theorem pairwise_next {α : Type} {R : α → α → Prop} : ∀ {l : List α}, l.Pairwise R → ∀ p ∈ l.zip (l.drop 1), R p.1 p.2
  | [], _, p, h => by cases h
  | [_], _, p, h => by cases h
  | x :: y :: r, h, p, hp => by
    obtain ⟨h1, h2⟩ := List.pairwise_cons.mp h
    have hp : p ∈ (x, y) :: (y :: r).zip ((y :: r).drop 1) := hp
    rcases List.mem_cons.mp hp with rfl | hp
    · exact h1 y (List.mem_cons_self ..)
    · exact pairwise_next h2 p hp
theorem ascB_of {ds : List PyData} (h : ds.Pairwise fun x y => PySem.W.dataLt x y = true) : ascB ds = true :=
  List.all_eq_true.mpr fun p hp => pairwise_next h p hp
theorem asc_ints {ns : List Int} (h : ns.Pairwise (· < ·)) : ascB (ns.map PyData.int) = true :=
  ascB_of (List.pairwise_map.mpr (h.imp fun {a b} h => by rw [PySem.W.dataLt_int]; exact decide_eq_true h))
theorem asc_facts {fs : List Fact} (h : fs.Pairwise fun x y => PySem.W.dataLt x.d y.d = true) : ascB (fs.map Fact.d) = true := ascB_of (List.pairwise_map.mpr h)
theorem nums_of {ns : List Int} (h : ∀ x ∈ ns, 0 ≤ x ∧ x ≤ 1000000000) : numsD (.list (ns.map PyData.int)) = true := by
  refine List.all_eq_true.mpr fun d hd => ?_
  obtain ⟨x, hx, rfl⟩ := List.mem_map.mp hd
  show (decide (0 ≤ x) && decide (x ≤ 1000000000)) = true
  rw [decide_eq_true (h x hx).1, decide_eq_true (h x hx).2]
  rfl
theorem hasD_of {ms : List Str} {m : Str} (h : m ∈ ms) : hasD ms (.str m) = true :=
  List.any_eq_true.mpr ⟨.str m, List.mem_map.mpr ⟨m, h, rfl⟩, by simp only [PyData.eqv]; exact str_beq.mpr rfl⟩
theorem okItem_of {ns : List Int} (hn : ∀ x ∈ ns, 0 ≤ x ∧ x ≤ 1000000000) {i : Int} (h : i ∈ ns) : okItem ns (.int i) = true := by
  show ((decide (0 ≤ i) && decide (i ≤ 1000000000)) && decide (i ∈ ns)) = true
  rw [decide_eq_true (hn i h).1, decide_eq_true (hn i h).2, decide_eq_true h]
  rfl
theorem isFact_of {S : Store} (hn : ∀ x ∈ S.items, 0 ≤ x ∧ x ≤ 1000000000) {x : Fact} (h : x.of S) : isFactD S.marks S.columns S.items x.d = true := by
  cases x with
  | mark m i =>
    obtain ⟨h1, h2⟩ := h
    show (decide (1 = 1 ∨ 1 = 2) && ((if 1 = 1 then PyData.eqv (.str "mark") (.str "mark") && hasD S.marks (.str m) else _) && (okItem S.items (.int i) && true))) = true
    rw [if_pos rfl, hasD_of h1, okItem_of hn h2]
    decide +kernel
  | link c a b =>
    obtain ⟨h1, h2, h3⟩ := h
    show (decide (2 = 1 ∨ 2 = 2) && ((if 2 = 1 then _ else PyData.eqv (.str "link") (.str "link") && hasD S.columns (.str c)) && (okItem S.items (.int a) && (okItem S.items (.int b) && true)))) = true
    rw [if_neg (by decide), hasD_of h1, okItem_of hn h2, okItem_of hn h3]
    decide +kernel
theorem one_place {l : List (Int × Int)} (h : (l.map (·.1)).Nodup) {a b c : Int} (h1 : (a, b) ∈ l) (h2 : (a, c) ∈ l) : b = c := by
  induction l with
  | nil => cases h1
  | cons p r ih =>
    obtain ⟨n1, n2⟩ := List.nodup_cons.mp h
    rcases List.mem_cons.mp h1 with e1 | h1 <;> rcases List.mem_cons.mp h2 with e2 | h2
    · rw [← e1] at e2
      cases e2
      rfl
    · exact absurd (List.mem_map.mpr ⟨_, h2, by rw [← e1]⟩) n1
    · exact absurd (List.mem_map.mpr ⟨_, h1, by rw [← e2]⟩) n1
    · exact ih n2 h1 h2
theorem one_place2 {l : List (Int × Int)} (h : (l.map (·.2)).Nodup) {a b c : Int} (h1 : (b, a) ∈ l) (h2 : (c, a) ∈ l) : b = c := by
  induction l with
  | nil => cases h1
  | cons p r ih =>
    obtain ⟨n1, n2⟩ := List.nodup_cons.mp h
    rcases List.mem_cons.mp h1 with e1 | h1 <;> rcases List.mem_cons.mp h2 with e2 | h2
    · rw [← e1] at e2
      cases e2
      rfl
    · exact absurd (List.mem_map.mpr ⟨_, h2, by rw [← e1]⟩) n1
    · exact absurd (List.mem_map.mpr ⟨_, h1, by rw [← e2]⟩) n1
    · exact ih n2 h1 h2
theorem mem_links {c : Str} {fs : List Fact} {a b : Int} (h : Fact.link c a b ∈ fs) : (a, b) ∈ linksOf c fs := by
  unfold linksOf
  exact List.mem_filterMap.mpr ⟨_, h, if_pos rfl⟩
theorem noClash_of {ns : List Int} {fs : List Fact} (h : ∀ c, OneToOne ns (linksOf c fs)) : NoClash fs := fun x hx y hy => no_clash (fun c p q r e1 e2 => by
    subst e1 e2
    rw [one_place (h c).1 (mem_links hx) (mem_links hy)]) fun c p q r e1 e2 => by
    subst e1 e2
    rw [one_place2 (h c).2.1 (mem_links hx) (mem_links hy)]
theorem areFacts_of {m : Nat} {S : Store} (D : Drawn m S) : areFactsD S.marks S.columns S.items (.list (S.facts.map Fact.d)) = true := by
  show ((S.facts.map Fact.d).all (isFactD S.marks S.columns S.items) && (ascB (S.facts.map Fact.d) && noClashB (factsD (S.facts.map Fact.d)))) = true
  rw [asc_facts D.rise, factsD_facts, noClashB_iff.mpr (noClash_of D.links), Bool.and_true, Bool.and_true]
  refine List.all_eq_true.mpr fun d hd => ?_
  obtain ⟨x, hx, rfl⟩ := List.mem_map.mp hd
  exact isFact_of D.items.2 (D.facts x hx)
theorem marks_ok {b : List Str} {k : Nat} (hb : b ∈ markLists) (h : k ≤ 3) : wordsD 4 (.list ((b.take k).map PyData.str)) = true := by
  have c : k = 0 ∨ k = 1 ∨ k = 2 ∨ k = 3 := by omega
  simp only [markLists, List.mem_cons, List.not_mem_nil, or_false] at hb
  rcases hb with rfl | rfl <;> rcases c with rfl | rfl | rfl | rfl <;> decide +kernel
theorem columns_ok {b : List Str} {k j : Nat} (hb : b ∈ markLists) (h : k ≤ 3) (h1 : 1 ≤ j) (h2 : j ≤ 2) : columnsD (b.take k) (.list (((["next", "below"] : List Str).take j).map PyData.str)) = true := by
  have c : k = 0 ∨ k = 1 ∨ k = 2 ∨ k = 3 := by omega
  have d : j = 1 ∨ j = 2 := by omega
  simp only [markLists, List.mem_cons, List.not_mem_nil, or_false] at hb
  rcases hb with rfl | rfl <;> rcases c with rfl | rfl | rfl | rfl <;> rcases d with rfl | rfl <;> decide +kernel
theorem dp_intsL {K : PySem.W.Frag} {H : Hp} : ∀ ns : List Int, DpAll K H (ns.map V.int) (ns.map PyData.int)
  | [] => .nil
  | x :: r => .cons (.int x) (dp_intsL r)
theorem dp_facts {K : PySem.W.Frag} {H : Hp} : ∀ {rs : List V} {fs : List Fact}, Tups H rs (fs.map Fact.v) → DpAll K H rs (fs.map Fact.d)
  | [], [], _ => .nil
  | [], _ :: _, t => by cases t
  | _ :: _, [], t => by cases t
  | r :: rs, f :: fs, .cons ⟨a, e, h⟩ t => .cons (by rw [e]; exact fact_dp h) (dp_facts t)
theorem fact_d_inj {x y : Fact} (h : x.d = y.d) : x = y := by
  have := factD_d x
  rw [h, factD_d y] at this
  cases this
  rfl
theorem facts_inj {fs gs : List Fact} (h : fs.map Fact.d = gs.map Fact.d) : fs = gs := by
  have a := factsD_facts fs
  rw [h, factsD_facts] at a
  exact a.symm
theorem fact_parts (x : Fact) (l : PyData.canLay0 (.str x.word) = true) : Parts x.d := fun ds e z hz0 => by
  have hz := List.mem_of_mem_take hz0
  have s1 : SeqAt.shaped (.str "mark") = true := by decide +kernel
  have s2 : SeqAt.shaped (.str "link") = true := by decide +kernel
  have sw : SeqAt.shaped (.str x.word) = true := by
    show (PyData.canLay0 (.str x.word) && decide (PyData.depth (.str x.word) ≤ 64)) = true
    rw [l]
    rfl
  have si : ∀ i : Int, SeqAt.shaped (.int i) = true := fun _ => rfl
  cases x with
  | mark m i =>
    injection e with e
    subst e
    simp only [List.mem_cons, List.not_mem_nil, or_false] at hz
    rcases hz with rfl | rfl | rfl
    · exact s1
    · exact sw
    · exact si _
  | link c a b =>
    injection e with e
    subst e
    simp only [List.mem_cons, List.not_mem_nil, or_false] at hz
    rcases hz with rfl | rfl | rfl | rfl
    · exact s2
    · exact sw
    · exact si _
    · exact si _
/-- a drawn word -/
def drawnWords : List Str := ["red", "blue", "gold", "next", "below", "wide", "b2"]
theorem lay_words : ∀ x ∈ drawnWords, PyData.canLay0 (.str x) = true ∧ x.length ≤ 1000 := by decide +kernel
theorem Drawn.word {m : Nat} {S : Store} (D : Drawn m S) {x : Str} (h : x ∈ S.marks ∨ x ∈ S.columns) : x ∈ drawnWords := by
  obtain ⟨b, k, hb, _, ek⟩ := D.marks
  obtain ⟨j, _, _, ej⟩ := D.columns
  rcases h with h | h
  · rw [ek] at h
    have h := List.mem_of_mem_take h
    simp only [markLists, List.mem_cons, List.not_mem_nil, or_false] at hb
    rcases hb with rfl | rfl
    · simp only [List.mem_cons, List.not_mem_nil, or_false] at h
      rcases h with rfl | rfl | rfl <;> decide
    · simp only [List.mem_cons, List.not_mem_nil, or_false] at h
      rcases h with rfl | rfl <;> decide
  · rw [ej] at h
    have h := List.mem_of_mem_take h
    simp only [List.mem_cons, List.not_mem_nil, or_false] at h
    rcases h with rfl | rfl <;> decide
theorem Drawn.factWord {m : Nat} {S : Store} (D : Drawn m S) {x : Fact} (h : x ∈ S.facts) : x.word ∈ drawnWords := by
  have z := D.facts x h
  cases x with
  | mark m i => exact D.word (.inl z.1)
  | link c a b => exact D.word (.inr z.1)
end DQ

set_option Elab.async false
set_option linter.all false
set_option maxRecDepth 100000
set_option maxHeartbeats 2000000
namespace DQ
open PySem PySem.Spec PyProof.Rows L2
/-! ### small data: what repr, ==, sorted want of it, part by part -/
/-- data that nests at most k deep, of weight at most n, its ints short -/
structure Sm (k n : Nat) (d : PyData) : Prop where
  lay : d.canLay0 = true
  dep : d.depth ≤ k
  wt : d.weight ≤ n
  sh : d.showable = true
  short : d.intsShort 13 = true
theorem Sm.mono {k n k' n' : Nat} {d : PyData} (h : Sm k n d) (hk : k ≤ k') (hn : n ≤ n') : Sm k' n' d := ⟨h.lay, Nat.le_trans h.dep hk, Nat.le_trans h.wt hn, h.sh, h.short⟩
theorem Sm.shows {k n : Nat} {d : PyData} (h : Sm k n d) (hk : k ≤ 64) (hn : n ≤ 1048576) : Shows d := by
  have hl : PyData.layable0 d = true := by
    show (PyData.canLay0 d && decide (PyData.depth d ≤ 64) && decide (PyData.weight d ≤ 2 ^ 20)) = true
    rw [h.lay, decide_eq_true (Nat.le_trans h.dep hk), decide_eq_true (show PyData.weight d ≤ 2 ^ 20 from Nat.le_trans h.wt (by simpa using hn))]
    rfl
  exact ⟨h.sh, PyData.hasDict_of_canLay d h.lay, Nat.le_trans h.dep hk, PyData.shown_fits_of_layable0 (B := 13) (by decide) (by decide) hl h.short⟩
theorem Sm.shaped {k n : Nat} {d : PyData} (h : Sm k n d) (hk : k ≤ 64) : SeqAt.shaped d = true := by
  show (PyData.canLay0 d && decide (PyData.depth d ≤ 64)) = true
  rw [h.lay, decide_eq_true (Nat.le_trans h.dep hk)]
  rfl
theorem sm_none : Sm 0 0 .none := ⟨rfl, Nat.le_refl _, Nat.le_refl _, rfl, rfl⟩
theorem sm_bool (b : Bool) : Sm 0 0 (.bool b) := ⟨rfl, Nat.le_refl _, Nat.le_refl _, rfl, rfl⟩
theorem sm_int {i : Int} (h1 : -100000000000 ≤ i) (h2 : i ≤ 100000000000) : Sm 0 64 (.int i) := by
  have h : i.natAbs < 10 ^ 12 := by omega
  have hl : i.natAbs.log2 < 64 := by
    by_cases z : i.natAbs = 0
    · rw [z]; decide
    · exact (Nat.log2_lt z).mpr (Nat.lt_trans h (by decide))
  refine ⟨rfl, Nat.le_refl _, ?_, ?_, ?_⟩
  · simp only [PyData.weight]
    split <;> omega
  · simp only [PyData.showable]
    exact decide_eq_true (by omega)
  · simp only [PyData.intsShort]
    exact decide_eq_true (PyData.shown_int_le h)
theorem sm_str {x : Str} {n : Nat} (h : PyData.canLay0 (.str x) = true) (hn : x.cps.size ≤ n) : Sm 0 n (.str x) := ⟨h, Nat.le_refl _, by simpa only [PyData.weight] using hn, rfl, rfl⟩
structure SmAll (k n : Nat) (ds : List PyData) : Prop where
  lay : PyData.canLayAll0 ds = true
  dep : PyData.depthAll ds ≤ k
  wt : PyData.weightAll ds ≤ ds.length * (n + 1)
  sh : PyData.showableAll ds = true
  short : PyData.intsShortAll 13 ds = true
theorem smAll {k n : Nat} : ∀ {ds : List PyData}, (∀ d ∈ ds, Sm k n d) → SmAll k n ds
  | [], _ => ⟨rfl, Nat.zero_le _, Nat.zero_le _, rfl, rfl⟩
  | d :: ds, h => by
    have a := h d (List.mem_cons_self ..)
    have b := smAll (ds := ds) fun e he => h e (List.mem_cons_of_mem _ he)
    refine ⟨?_, ?_, ?_, ?_, ?_⟩
    · simp only [PyData.canLayAll0]
      rw [a.lay, b.lay]
      rfl
    · simp only [PyData.depthAll]
      exact Nat.max_le.mpr ⟨a.dep, b.dep⟩
    · simp only [PyData.weightAll, List.length_cons]
      have := a.wt
      have := b.wt
      rw [Nat.add_mul]
      omega
    · simp only [PyData.showableAll]
      rw [a.sh, b.sh]
      rfl
    · simp only [PyData.intsShortAll]
      rw [a.short, b.short]
      rfl
theorem SmAll.list {k n m : Nat} {ds : List PyData} (h : SmAll k n ds) (hm : ds.length ≤ m) : Sm (k + 1) (m * (n + 1)) (.list ds) := by
  refine ⟨by simpa only [PyData.canLay0] using h.lay, ?_, ?_, by simpa only [PyData.showable] using h.sh, by simpa only [PyData.intsShort] using h.short⟩
  · simp only [PyData.depth]
    have := h.dep
    omega
  · simp only [PyData.weight]
    exact Nat.le_trans h.wt (Nat.mul_le_mul_right _ hm)
theorem SmAll.tuple {k n m : Nat} {ds : List PyData} (h : SmAll k n ds) (hm : ds.length ≤ m) : Sm (k + 1) (m * (n + 1)) (.tuple ds) := by
  refine ⟨by simpa only [PyData.canLay0] using h.lay, ?_, ?_, by simpa only [PyData.showable] using h.sh, by simpa only [PyData.intsShort] using h.short⟩
  · simp only [PyData.depth]
    have := h.dep
    omega
  · simp only [PyData.weight]
    exact Nat.le_trans h.wt (Nat.mul_le_mul_right _ hm)
theorem Sm.eqv {k n : Nat} {d : PyData} (h : Sm k n d) (hk : k ≤ 64) : PyData.eqv d d = true := SeqAt.eqv_refl d (SeqAt.canLay_of_shaped (h.shaped hk))
theorem sm_word {x : Str} (h : x ∈ drawnWords) : Sm 0 10 (.str x) := by
  simp only [drawnWords, List.mem_cons, List.not_mem_nil, or_false] at h
  rcases h with rfl | rfl | rfl | rfl | rfl | rfl | rfl <;> exact sm_str (by decide +kernel) (by decide +kernel)
theorem sm_item {i : Int} (h : 0 ≤ i ∧ i ≤ 1000000000) : Sm 0 64 (.int i) := sm_int (by omega) (by omega)
theorem sm_fact {m : Nat} {S : Store} (D : Drawn m S) {x : Fact} (h : x ∈ S.facts) : Sm 1 260 x.d := by
  have wd := sm_word (D.factWord h)
  have z := D.facts x h
  have it : ∀ i, i ∈ S.items → Sm 0 64 (.int i) := fun i hi => sm_item (D.items.2 i hi)
  have s1 : Sm 0 64 (.str "mark") := sm_str (by decide +kernel) (by decide +kernel)
  have s2 : Sm 0 64 (.str "link") := sm_str (by decide +kernel) (by decide +kernel)
  cases x with
  | mark c i =>
    refine (SmAll.tuple (k := 0) (n := 64) (m := 4) (ds := [.str "mark", .str c, .int i]) (smAll fun d hd => ?_) (show 3 ≤ 4 by decide)).mono (by decide) (by decide)
    simp only [List.mem_cons, List.not_mem_nil, or_false] at hd
    rcases hd with rfl | rfl | rfl
    · exact s1
    · exact wd.mono (by decide) (by decide)
    · exact it _ z.2
  | link c a b =>
    refine (SmAll.tuple (k := 0) (n := 64) (m := 4) (ds := [.str "link", .str c, .int a, .int b]) (smAll fun d hd => ?_) (show 4 ≤ 4 by decide)).mono (by decide) (by decide)
    simp only [List.mem_cons, List.not_mem_nil, or_false] at hd
    rcases hd with rfl | rfl | rfl | rfl
    · exact s2
    · exact wd.mono (by decide) (by decide)
    · exact it _ z.2.1
    · exact it _ z.2.2
theorem sm_facts {m : Nat} {S : Store} (D : Drawn m S) {fs : List Fact} (h : ∀ x ∈ fs, x ∈ S.facts) (hl : fs.length ≤ 1000) : Sm 2 261000 (.list (fs.map Fact.d)) := by
  refine (SmAll.list (k := 1) (n := 260) (m := 1000) (smAll fun d hd => ?_) (by rw [List.length_map]; exact hl)).mono (by decide) (by decide)
  obtain ⟨x, hx, rfl⟩ := List.mem_map.mp hd
  exact sm_fact D (h x hx)
theorem sm_words {ms : List Str} (h : ∀ x ∈ ms, x ∈ drawnWords) (hl : ms.length ≤ 10) : Sm 1 110 (.list (ms.map PyData.str)) := by
  refine (SmAll.list (k := 0) (n := 10) (m := 10) (smAll fun d hd => ?_) (by rw [List.length_map]; exact hl)).mono (by decide) (by decide)
  obtain ⟨x, hx, rfl⟩ := List.mem_map.mp hd
  exact sm_word (h x hx)
theorem sm_items {ns : List Int} (h : ∀ x ∈ ns, 0 ≤ x ∧ x ≤ 1000000000) (hl : ns.length ≤ 1000) : Sm 1 65000 (.list (ns.map PyData.int)) := by
  refine (SmAll.list (k := 0) (n := 64) (m := 1000) (smAll fun d hd => ?_) (by rw [List.length_map]; exact hl)).mono (by decide) (by decide)
  obtain ⟨x, hx, rfl⟩ := List.mem_map.mp hd
  exact sm_item (h x hx)
/-- the data of a store -/
def Store.d (S : Store) : PyData := .tuple [.str "store", .list (S.marks.map PyData.str), .list (S.columns.map PyData.str), .list (S.items.map PyData.int), .list (S.facts.map Fact.d)]
theorem store_dp {K : PySem.W.Frag} {H : Hp} {v : V} {S : Store} (A : StoAt H v S) : Dp K H v S.d := by
  obtain ⟨t, ma, ca, ia, fa, rs, rfl, ht, hma, hca, hia, hfa, tp⟩ := A
  exact .tup (.inl (.inl ht)) (.cons (.str _) (.cons (.lst (SqL.of hma) (dp_texts S.marks)) (.cons (.lst (SqL.of hca) (dp_texts S.columns)) (.cons (.lst (SqL.of hia) (dp_intsL S.items)) (.cons (.lst (SqL.of hfa) (dp_facts tp)) .nil)))))
theorem Drawn.fewMarks {m : Nat} {S : Store} (D : Drawn m S) : S.marks.length ≤ 10 := by
  obtain ⟨b, k, hb, hk, ek⟩ := D.marks
  rw [ek, List.length_take]
  omega
theorem Drawn.fewColumns {m : Nat} {S : Store} (D : Drawn m S) : S.columns.length ≤ 10 := by
  obtain ⟨k, h1, hk, ek⟩ := D.columns
  rw [ek, List.length_take]
  omega
theorem sm_store {m : Nat} {S : Store} (D : Drawn m S) (sh : S.facts.length ≤ 1000) (hm : m ≤ 1000) : Sm 3 400000 S.d := by
  have a := sm_words (ms := S.marks) (fun x h => D.word (.inl h)) D.fewMarks
  have b := sm_words (ms := S.columns) (fun x h => D.word (.inr h)) D.fewColumns
  have c := sm_items D.items.2 (Nat.le_trans D.few hm)
  have d := sm_facts D (fs := S.facts) (fun x h => h) sh
  have e : Sm 0 10 (.str "store") := sm_str (by decide +kernel) (by decide +kernel)
  refine ⟨?_, ?_, ?_, ?_, ?_⟩
  · simp only [Store.d, PyData.canLay0, PyData.canLayAll0]
    have := e.lay; have := a.lay; have := b.lay; have := c.lay; have := d.lay
    simp_all [PyData.canLay0]
  · simp only [Store.d, PyData.depth, PyData.depthAll]
    have := e.dep; have := a.dep; have := b.dep; have := c.dep; have := d.dep
    simp only [PyData.depth] at *
    omega
  · simp only [Store.d, PyData.weight, PyData.weightAll]
    have := e.wt; have := a.wt; have := b.wt; have := c.wt; have := d.wt
    simp only [PyData.weight] at *
    omega
  · simp only [Store.d, PyData.showable, PyData.showableAll]
    have := e.sh; have := a.sh; have := b.sh; have := c.sh; have := d.sh
    simp_all [PyData.showable]
  · simp only [Store.d, PyData.intsShort, PyData.intsShortAll]
    have := e.short; have := a.short; have := b.short; have := c.short; have := d.short
    simp_all [PyData.intsShort]
end DQ
namespace DQ
open PySem PySem.Spec PyProof.Rows L2
/-- a row of small data -/
structure SmL (k n : Nat) (ds : List PyData) : Prop where
  lay : PyData.canLayAll0 ds = true
  dep : PyData.depthAll ds ≤ k
  wt : PyData.weightAll ds ≤ n
  sh : PyData.showableAll ds = true
  short : PyData.intsShortAll 13 ds = true
theorem sml_nil {k : Nat} : SmL k 0 [] := ⟨rfl, Nat.zero_le _, Nat.le_refl _, rfl, rfl⟩
theorem Sm.cons {k j a b : Nat} {d : PyData} {ds : List PyData} (x : Sm j a d) (r : SmL k b ds) (hj : j ≤ k) : SmL k (a + 1 + b) (d :: ds) := by
  refine ⟨?_, ?_, ?_, ?_, ?_⟩
  · simp only [PyData.canLayAll0]
    rw [x.lay, r.lay]
    rfl
  · simp only [PyData.depthAll]
    exact Nat.max_le.mpr ⟨Nat.le_trans x.dep hj, r.dep⟩
  · simp only [PyData.weightAll]
    have := x.wt
    have := r.wt
    omega
  · simp only [PyData.showableAll]
    rw [x.sh, r.sh]
    rfl
  · simp only [PyData.intsShortAll]
    rw [x.short, r.short]
    rfl
theorem SmL.list {k n : Nat} {ds : List PyData} (h : SmL k n ds) : Sm (k + 1) n (.list ds) := by
  refine ⟨by simpa only [PyData.canLay0] using h.lay, ?_, by simpa only [PyData.weight] using h.wt, by simpa only [PyData.showable] using h.sh, by simpa only [PyData.intsShort] using h.short⟩
  simp only [PyData.depth]
  have := h.dep
  omega
theorem SmL.tuple {k n : Nat} {ds : List PyData} (h : SmL k n ds) : Sm (k + 1) n (.tuple ds) := by
  refine ⟨by simpa only [PyData.canLay0] using h.lay, ?_, by simpa only [PyData.weight] using h.wt, by simpa only [PyData.showable] using h.sh, by simpa only [PyData.intsShort] using h.short⟩
  simp only [PyData.depth]
  have := h.dep
  omega
end DQ

set_option Elab.async false
set_option linter.all false
set_option maxRecDepth 100000
set_option maxHeartbeats 4000000
/-! an own error class called with keywords: its __new__ takes them and forgets them, its __init__ binds them -/
namespace PySem.ErrKw
open PySem PySem.W PySem.Calls PyProof.Rows PySem.HandSPX
section
variable {prog : Program} {w : World} {A : Around} {E : Value → Shared → Prop} {R : Result → Shared → Prop} {hp : Heap} {gs : Array GenState} {dr : Drawn} {tk : Nat} {os : OsState}
variable {cn cq : Str} {C Nd : Addr} {bases tail tailB : List Value} {hd : Bool} {sl : List Str} {subs : List Value} {abs : Bool} {col : Option Bool} {dict : Option Addr} {z0 z1 z2 z3 z5 : Option Value} {B nw ini : String} {us : List Value} {kw : List (Str × Value)}
theorem kw_check {M : Model} (F : ExcBaseFacts B nw ini tailB) (same : ∀ Y : String, tail.contains (.type Y) = tailB.contains (.type Y)) {Q : Unit → Shared → Prop}
    (hC : hp.get? C = some (excClassObj cn cq C Nd bases tail hd sl subs abs col dict z0 z1 z2 z3 z5 nw)) (hQ : Q () ⟨hp, gs, dr, tk, os⟩) : wpAny M A (checkBuiltinCall nw ⟨.ref C :: us, kw⟩) Q E ⟨hp, gs, dr, tk, os⟩ := by
  have hasB : (Value.ref C :: tail).contains (.type B) = true := by
    rw [List.contains_cons, same, F.hasB, Bool.or_true]
  have star := F.noStar
  simp only [checkBuiltinCall, F.newKind, F.newSplit, F.newRow]
  repeat (first
    | refine wpAny_loadPart_at hC ?_
    | (refine wpAny_isSubtype_exc hC ?_; rw [hasB])
    | refine wpAny_staticBase_exc hC ?_
    | refine wpAny_madeBy_exc hC ?_
    | simp only [bne_self_eq_false, Bool.false_eq_true, if_false]
    | wp_step)
  exact hQ
theorem kw_new (F : ExcBaseFacts B nw ini tailB) (same : ∀ Y : String, tail.contains (.type Y) = tailB.contains (.type Y))
    (hC : hp.get? C = some (excClassObj cn cq C Nd bases tail hd sl subs abs col dict z0 z1 z2 z3 z5 nw))
    (hR : R (.ok (.ret (.ref (hp.objs.size + 1)))) ⟨(hp.push (W.kdv_tup us)).push (excO C hp.objs.size), gs, dr, tk, os⟩) (small : us.length ≤ sizeLine) :
    codeAny (model prog w) A (.builtin nw ⟨.ref C :: us, kw⟩) R ⟨hp, gs, dr, tk, os⟩ := by
  have ends := F.ends
  have has : ∀ {Y : String} {b : Bool}, tailB.contains (.type Y) = b → (Value.ref C :: tail).contains (.type Y) = b := fun {Y b} e => by
    rw [List.contains_cons, same, e]
    rfl
  have i1 := has F.hasB
  have i2 := has F.noAttr
  have i3 := has F.noName
  refine codeAny_builtinAt F.entry ?_
  unfold Builtin.«BaseException.__new__»
  refine wpAt_bind ?_
  refine (show wpAt _ _ _ (stack >>= _) _ _ _ from wpAt_bind (wpAt_stack fun p below => wpAt_of_wpAny ?_))
  wp_walk
  refine wpAt_of_wpAny ?_
  rw [F.owner]
  repeat (first
    | with_reducible refine wpAny_madeHere_exc F.canon hC ?_
    | with_reducible refine wpAny_loadPart_at hC ?_
    | (with_reducible refine wpAny_isSubtype_exc hC ?_; first | rw [i1] | rw [i2] | rw [i3])
    | wp_step)
  show R _ _
  rw [Heap.size_push]
  exact hR
theorem kw_type (F : ExcBaseFacts B nw ini tailB) (same : ∀ Y : String, tail.contains (.type Y) = tailB.contains (.type Y)) {fI : Addr} {Q : Fin → Shared → Prop}
    (hC : hp.get? C = some (excClassObj cn cq C Nd bases tail hd sl subs abs col dict z0 z1 z2 z3 z5 nw)) (look : Looks (model prog w) hp (typeLookup (.ref C) "__init__") (some (.ref fI))) (bind : ∀ self, Looks (model prog w) hp (bindSpecial (.ref fI) self) (.ref fI, [self])) (small : us.length ≤ sizeLine)
    (hQ : codeAny (model prog w) A (.call (.ref fI) ⟨.ref (hp.objs.size + 1) :: us, kw⟩) (fun r s' => match r with | .ok (.ret v) => v = .none ∧ Q (.done (.ret (.ref (hp.objs.size + 1)))) s' | .ok _ => False | .error e => E e s') ⟨(hp.push (W.kdv_tup us)).push (excO C hp.objs.size), gs, dr, tk, os⟩) :
    wpAny (model prog w) A (Builtin.«type.__call__» ⟨.ref C :: us, kw⟩) Q E ⟨hp, gs, dr, tk, os⟩ := by
  repeat (first
    | with_reducible refine wpAny_loadPart_at hC ?_
    | with_reducible refine wpAny_madeBy_exc hC ?_
    | wp_step)
  refine codeAny_call_builtin_code (Code.quiet_builtin _ F.quiet) (kw_check F same hC (kw_new F same hC ?_ small))
  show wpAny _ _ _ _ _ _
  have grown : ∀ b o, hp.get? b = some o → ((hp.push (W.kdv_tup us)).push (excO C hp.objs.size)).get? b = some o := fun b o z => Heap.get?_push_of_some _ (Heap.get?_push_of_some _ z)
  have made : ((hp.push (W.kdv_tup us)).push (excO C hp.objs.size)).get? (hp.objs.size + 1) = some (excO C hp.objs.size) := by heap_get
  have itself : (Value.ref C :: tail).contains (.ref C) = true := by simp
  have hC2 := grown _ _ hC
  unfold isInstance
  repeat (first
    | with_reducible refine wpAny_loadPart_at made ?_
    | (with_reducible refine wpAny_isSubtype_exc hC2 ?_; rw [itself])
    | wp_step)
  refine (show wpAny _ _ (typeLookup (.ref C) _) _ _ _ from (look.keeps grown).at ?_)
  refine wpAny_holding (wpAny_bind (((bind (.ref (hp.objs.size + 1))).keeps grown).at ?_))
  refine wpAny_bind (wpAny_call (codeAny_mono hQ fun r s' z => ?_))
  match r, z with
  | .error _, z => exact z
  | .ok (.ret _), ⟨rfl, z⟩ =>
    first
      | exact wpAny_pure (wpAny_pure z)
      | (wp_walk; exact z)
  | .ok .next, z => exact z.elim
  | .ok .brk, z => exact z.elim
  | .ok .cont, z => exact z.elim
theorem kw_check_call {M : Model} {Q : Unit → Shared → Prop} (hC : hp.get? C = some (excClassObj cn cq C Nd bases tail hd sl subs abs col dict z0 z1 z2 z3 z5 nw)) (hQ : Q () ⟨hp, gs, dr, tk, os⟩) :
    wpAny M A (checkBuiltinCall "type.__call__" ⟨.ref C :: us, kw⟩) Q E ⟨hp, gs, dr, tk, os⟩ := by
  have sub := tc_sub
  have isTy : (⟨hp, gs, dr, tk, os⟩ : Shared).TypeIs (.ref C) "type" := ⟨_, hC, rfl⟩
  simp only [checkBuiltinCall, tc_kind, tc_split]
  repeat (any_goals (first
    | assumption
    | with_reducible refine wpAny_loadPart_at hC ?_
    | with_reducible refine wpAny_onRaise ?_
    | with_reducible refine wpAny_map ?_
    | wp_step))
theorem kw_call (F : ExcBaseFacts B nw ini tailB) (same : ∀ Y : String, tail.contains (.type Y) = tailB.contains (.type Y)) {fI : Addr}
    (hC : hp.get? C = some (excClassObj cn cq C Nd bases tail hd sl subs abs col dict z0 z1 z2 z3 z5 nw)) (look : Looks (model prog w) hp (typeLookup (.ref C) "__init__") (some (.ref fI))) (bind : ∀ self, Looks (model prog w) hp (bindSpecial (.ref fI) self) (.ref fI, [self])) (small : us.length ≤ sizeLine)
    (hR : codeAny (model prog w) (A.under (.builtin "type.__call__" ⟨.ref C :: us, kw⟩)) (.call (.ref fI) ⟨.ref (hp.objs.size + 1) :: us, kw⟩) (InitBack (hp.objs.size + 1) R) ⟨(hp.push (W.kdv_tup us)).push (excO C hp.objs.size), gs, dr, tk, os⟩) :
    codeAny (model prog w) A (.call (.ref C) ⟨us, kw⟩) R ⟨hp, gs, dr, tk, os⟩ := by
  have l1 := tc_lookup
  have l2 := tc_bind (.ref C)
  have isTy : (⟨hp, gs, dr, tk, os⟩ : Shared).TypeIs (.ref C) "type" := ⟨_, hC, rfl⟩
  refine codeAny_of_tree (show wpAny _ _ (callAny (.ref C) _) _ _ _ from ?_)
  repeat (any_goals (first
    | assumption
    | with_reducible refine wpAny_loadPart_at hC ?_
    | wp_step))
  refine ⟨rfl, codeAny_call_builtin_at (Code.quiet_builtin _ (by decide +kernel)) entry_typeCall (kw_check_call hC (kw_type F same hC look bind small (codeAny_mono hR fun r s' z => ?_)))⟩
  match r, z with
  | .error _, z => exact z
  | .ok (.ret _), z => exact z
  | .ok .next, z => exact z
  | .ok .brk, z => exact z
  | .ok .cont, z => exact z
end
end PySem.ErrKw

set_option Elab.async false
set_option linter.all false
set_option maxRecDepth 100000
set_option maxHeartbeats 4000000
namespace DQ
open PySem PySem.Spec PyProof.Rows L2
/-! ### errors of own classes as values -/
/-- C(e, ..): a new error at a, C's own __init__ keeping sp -/
def tErr (C : Addr) (sp : Sp) (dvs : List V) (ta : TA) : TE := fun σ H Q => ta σ H fun vs H1 => vs.length ≤ 1000 ∧ ∀ a, H1 a = none → sp (.ref a :: (vs ++ dvs)) (upd H1 a (exo a C none)) (fun v H2 => v = .non ∧ Q (.ref a) H2) (fun _ _ _ => False)
section
variable {X : Cx} {x : Str} {C fI : Addr} {k : Nat} {fd : FuncData} {ps : List Str} {sp : Sp} {ds : List Value} {dvs : List V} {CX : CXT} {e : Expr} {es : List Expr} {ta : TA} {p pos : Pos}
theorem run_err {pins : List (Addr × Obj)} {σ : L2.St} {H1 : Hp} {s1 : Shared} {Q : VK} {us : List Value} {vs : List V} (T : OexC X.K C) (iC : PySem.W.findIn X.K (.ref C) "__init__" = some (some (.ref fI))) (tI : PySem.W.typeIn X.K (.ref fI) = some (.type "function"))
    (F1 : FnOk X.prog X.w X.K X.mg X.base CX k fI fd ps sp) (hr : Room (k + 1) X.A) (hb : Binds X.K fd ps ds) (hd : Vals dvs ds) (hx : Passes CX X (fun _ _ _ => False)) (I1 : Inv X pins σ H1 s1) (r1 : Vals vs us) (hz : vs.length ≤ 1000)
    (q1 : ∀ a, H1 a = none → sp (.ref a :: (vs ++ dvs)) (upd H1 a (exo a C none)) (fun v H2 => v = .non ∧ Q (.ref a) H2) (fun _ _ _ => False)) :
    wpAny (model X.prog X.w) X.A (call (.ref C) us) (EP X pins σ Q) X.xe s1 := by
  obtain ⟨nm, q, N, bs, bm, sn, sub, ab, col, dd, k0, k1, k2, k3, k5, hC, hbm⟩ := T.cls
  obtain ⟨hp, g, dr, tk, os⟩ := s1
  have room : hp.objs.size ≤ hp.objs.size + 1 := Nat.le_succ _
  have hq := q1 (hp.objs.size + 1) (I1.hok.fresh room)
  let h2 := (hp.push (PySem.W.kdv_tup us)).push (PySem.HandSPX.excO C hp.objs.size)
  have at2 : h2.get? (hp.objs.size + 1) = some (PySem.HandSPX.excO C hp.objs.size) := by heap_get
  have I2 : Inv X pins σ (upd H1 (hp.objs.size + 1) (exo (hp.objs.size + 1) C none)) ⟨h2, g, dr, tk, os⟩ :=
    Inv.laid (t' := tk) (a := hp.objs.size + 1) (o := exo (hp.objs.size + 1) C none) (h' := h2) I1 (fun b o z => Heap.get?_push_of_some _ (Heap.get?_push_of_some _ z)) room (exo_ok at2)
  have r2 : Vals (V.ref (hp.objs.size + 1) :: (vs ++ dvs)) (Value.ref (hp.objs.size + 1) :: (us ++ ds)) := .cons rfl (r1.append hd)
  have many : (Value.ref (hp.objs.size + 1) :: us ++ ds).length = ps.length := (r2.length.symm.trans (F1.len _ _ _ _ hq))
  have small : us.length ≤ sizeLine := by
    rw [← Paired.length r1, sizeLine_eq]
    omega
  have run := F1.run _ X.stack _ _ ⟨Value.ref (hp.objs.size + 1) :: us, []⟩ _ _ _ (fun _ _ _ => False) (hr.make C us []) (I2.env0.make C us []) (hb _ (Value.ref (hp.objs.size + 1) :: us) I2.kIn many) r2 hq
  refine wpAny_call (PySem.HandSPX.call_own F.excBase_ValueError (fun Y => PySem.HandSPX.refsVE_contains Y bm hbm) (I1.kIn _ _ hC) (PySem.W.looks_findIn I1.kIn iC) (fun self => PySem.W.bind_fn I1.kIn self tI) small (codeAny_mono run fun r s' z => ?_))
  match r, z with
  | .error er, z => exact hx pins σ _ _ er s' I2 z
  | .ok (.ret u), z =>
    obtain ⟨v, H', I3, rv, ev, q3⟩ := I2.after z
    subst ev
    exact ⟨rv, V.ref (hp.objs.size + 1), H', I3, rfl, q3⟩
  | .ok .next, z => exact False.elim z
  | .ok .brk, z => exact False.elim z
  | .ok .cont, z => exact False.elim z
theorem pe_err (T : OexC X.K C) (iC : PySem.W.findIn X.K (.ref C) "__init__" = some (some (.ref fI))) (tI : PySem.W.typeIn X.K (.ref fI) = some (.type "function"))
    (F1 : FnOk X.prog X.w X.K X.mg X.base CX k fI fd ps sp) (hr : Room (k + 1) X.A) (hb : Binds X.K fd ps ds) (hd : Vals dvs ds) (hx : Passes CX X (fun _ _ _ => False)) (hg : Gl X x) (hm : X.mg x = some (.ref C)) (ha : PA X (e :: es) ta)
    (hdb : (x == ("__debug__" : Str)) = false := by decide) (he : starEach (e :: es) X.env = (false, eval e X.env) :: starEach es X.env := by rfl) (hpl : (backTo pos (starEach es X.env)).any (·.1) = false := by rfl) :
    PE X (.Call (.Name x p) (e :: es) [] pos) (tErr C sp dvs ta) := ⟨fun pins s σ H Q I h => by
  refine wpAny_Call_Name_kw (ld_glob I hg hm (PySem.W.callWith_K (h₀ := X.base) I.ok.mod.kin T.kC (thn (ha.run pos pins s σ H _ I h) fun us s1 h1 => ?_) he hpl) hdb)
  obtain ⟨vs, H1, I1, r1, hz, q1⟩ := h1
  exact ⟨I1.kIn, run_err T iC tI F1 hr hb hd hx I1 r1 hz q1⟩⟩
theorem pe_err0 (T : OexC X.K C) (iC : PySem.W.findIn X.K (.ref C) "__init__" = some (some (.ref fI))) (tI : PySem.W.typeIn X.K (.ref fI) = some (.type "function"))
    (F1 : FnOk X.prog X.w X.K X.mg X.base CX k fI fd ps sp) (hr : Room (k + 1) X.A) (hb : Binds X.K fd ps ds) (hd : Vals dvs ds) (hx : Passes CX X (fun _ _ _ => False)) (hg : Gl X x) (hm : X.mg x = some (.ref C))
    (hdb : (x == ("__debug__" : Str)) = false := by decide) : PE X (.Call (.Name x p) [] [] pos) (tErr C sp dvs tNil) := ⟨fun pins s σ H Q I h =>
  wpAny_Call_Name_kw (ld_glob I hg hm (PySem.W.callWith_K0 I.kIn T.kC (run_err (us := []) T iC tI F1 hr hb hd hx I .nil h.1 h.2)) hdb)⟩
/-- e.n of an error that was made -/
def tErrFld (K : PySem.W.Frag) (n : Str) (te : TE) : TE := fun σ H Q => te σ H fun x H1 => ∃ (a C d : Addr) (fs : List (Str × V)) (v : V), x = .ref a ∧ H1 a = some (exo a C (some d)) ∧ H1 d = some (exd d fs) ∧ XfC K C ∧ PySem.W.findIn K (.ref C) n = some none ∧ fs.lookup n = some v ∧ Q v H1
theorem err_inst {P : Program} {w : World} {H : Hp} {h : Heap} {a C : Addr} {d : Option Addr} (ok : HOk P w H h) (ea : H a = some (exo a C d)) (ed : ∀ dx, d = some dx → ∃ fs, H dx = some (exd dx fs)) : ∃ ox od, PySem.W.InstAt h a ox C od := by
  obtain ⟨t1, ho⟩ := exo_at ok ea
  cases d with
  | none => exact ⟨_, none, ho, rfl, rfl, trivial⟩
  | some dx =>
    obtain ⟨fs, e⟩ := ed dx rfl
    obtain ⟨mA, ⟨od, es, ep, hd, hr⟩, _⟩ := exd_at ok e
    exact ⟨_, some od, ho, rfl, rfl, hd⟩
theorem pe_errFld {te : TE} {n : Str} (he : PE X e te) (hb : attributeBase e n X.env (eval e X.env) = eval e X.env := by rfl) : PE X (.Attribute e n pos) (tErrFld X.K n te) := ⟨fun pins s σ H Q I h => by
  refine attr_of hb (thn (he.run pins s σ H _ I h) fun u s1 h1 => ?_)
  obtain ⟨x, H1, I1, rx, a, C, d, fs, v, rfl, ea, ed, T, hno, l, q⟩ := h1
  obtain rfl : u = Value.ref a := rx
  obtain ⟨t1, ho⟩ := exo_at I1.hok ea
  obtain ⟨mA, hns, hr⟩ := exd_at I1.hok ed
  obtain ⟨od, hod, hl⟩ := lookIn_ns hns
  obtain ⟨u, hu, ru⟩ := RelO.some_of (v := v) (o := mA n) (by rw [← l]; exact hr n)
  exact HandSPX.exc_get I1.kIn ⟨ho, rfl, rfl, hod⟩ T.ga T.gg T.exC (PySem.W.findObj_own T.hdC hno rfl (by rw [hl, hu])) (handed_of ru) ⟨v, H1, I1.tok _, ru, q⟩⟩
/-- what isinstance asks of the class of an error -/
structure ErrC (K : PySem.W.Frag) (C : Addr) : Prop where
  cls : (PySem.W.clsIn K C).isSome = true
  ga : PySem.W.findIn K (.ref C) "__getattribute__" = some (some (.builtin "BaseException.__getattribute__"))
  gg : PySem.W.findIn K (.ref C) "__getattr__" = some none
  sub : PySem.W.subIn K (.ref C) (.type "BaseException") = some true
  ca : PySem.W.findIn K (.ref C) "__class__" = some (some (.builtin "object.__class__"))
  cg : PySem.W.specialIn K (.builtin "object.__class__") "__get__" = some (some (.builtin "getset_descriptor.__get__"))
  ct : PySem.W.takesIn K (.builtin "object.__class__") = some true
  mo : PySem.W.mroIn K C (.type "object") = some true
def rErrIs (K : PySem.W.Frag) : List V → Hp → VK → Prop := fun xs H Q => ∃ (a C : Addr) (d : Option Addr) (c : V) (u : Value) (b : Bool), xs = [.ref a, c] ∧ H a = some (exo a C d) ∧ (∀ dx, d = some dx → ∃ fs, H dx = some (exd dx fs)) ∧ ErrC K C ∧ ClsV c u ∧ PySem.W.kitOne K (.ref C) u = some b ∧ Q (.bl b) H
theorem call_errIs : CallR X (.builtin "isinstance") (rErrIs X.K) := by
  intro pins s σ H xs us Q I r h
  obtain ⟨a, C, d, c, u, b, rfl, ea, ed, T, k, e, q⟩ := h
  obtain ⟨u1, u2, rfl, r1, r2⟩ := vals2 r
  obtain rfl : u1 = Value.ref a := r1
  obtain rfl := k.eq r2
  obtain ⟨ox, od, J⟩ := err_inst I.hok ea ed
  exact PySem.W.kia_one (PySem.W.kitx_exc T.cls T.ga T.gg T.sub T.ca T.cg T.ct T.mo) I.kIn J e (fun z => nomatch z) fun tk => ⟨.bl b, H, I.tok tk, rfl, q⟩
/-! two errors of one class without an __eq__ of its own are unequal unless they are one -/
theorem err_apart {prog : Program} {w : World} {A : Around} {E : Value → Shared → Prop} {s : Shared} {K : PySem.W.Frag} {a b D : Addr} {oa ob : Obj} {da db : Option Obj} {Q : Value → Shared → Prop} (hu : A.units < cLine) (hK : K.In s.heap) (I : PySem.W.InstAt s.heap a oa D da) (J : PySem.W.InstAt s.heap b ob D db)
    (mo : PySem.W.mroIn K D (.type "object") = some true) (eq : PySem.W.findIn K (.ref D) "__eq__" = some (some (.builtin "object.__eq__"))) (ne : a ≠ b) (h : Q (.bool false) s) : wpAny (model prog w) A (compareOp .Eq (.ref a) (.ref b)) Q E s := by
  have nt : ∀ {o : Obj} {c : Addr} {dd : Option Obj}, PySem.W.InstAt s.heap c o D dd → o.cls ≠ .type "tuple" := fun z e => by
    rw [z.2] at e
    cases e
  have half : ∀ {c c' : Addr} {o o' : Obj} {d d' : Option Obj}, PySem.W.InstAt s.heap c o D d → PySem.W.InstAt s.heap c' o' D d' → c ≠ c' → wpAny (model prog w) A (tryCompare (.ref c) "__eq__" (.ref c')) (fun r s' => r = none ∧ s' = s) E s := fun z z' n => by
    unfold tryCompare
    refine wpAny_bind (HN.ifBound_objEq hK z eq (wpAny_call (codeAny_call_builtin F.cmp_object.eq.plain F.cmpEntry_eq (PySem.W.check_slot F.cmpKind_eq F.cmpSplit_eq (z.type.andThen (PySem.W.looks_mroIn hK mo)) (F.cmpArgs_eq _ _) (objEq_entry_other n z.1 z'.1 (nt z) ?_)))))
    exact wpAny_pure ⟨rfl, rfl⟩
  show wpAny _ _ (richCompare .Eq _ _) _ _ _
  simp only [richCompare, cmpInfo_Eq, oneThing_ref]
  refine wpAny_holding (wpAny_bind (wpAny_cRoomFor hu ?_))
  refine wpAny_bind (I.type.here (wpAny_bind (J.type.here ?_)))
  rw [if_neg (by simp)]
  refine wpAny_bind (wpAny_pure ?_)
  simp only [Bool.false_eq_true, if_false, Bool.not_false, if_true]
  refine wpAny_bind (m := tryCompare (.ref a) _ (.ref b)) (wpAny_mono (half I J ne) (fun r s1 z => ?_) fun _ _ e => e)
  obtain ⟨rfl, rfl⟩ := z
  refine wpAny_bind (m := tryCompare (.ref b) _ (.ref a)) (wpAny_mono (half J I ne.symm) (fun r s2 z => ?_) fun _ _ e => e)
  obtain ⟨rfl, rfl⟩ := z
  exact wpAny_bind (wpAny_rule (wpAny_bind (wpAny_isSame_ref_other ne I.1 J.1 (nt I) (wpAny_pure h))))
def rErrEq (K : PySem.W.Frag) : R2 := fun x y H Q => ∃ (a b D : Addr) (d d' : Option Addr), x = .ref a ∧ y = .ref b ∧ a ≠ b ∧ H a = some (exo a D d) ∧ H b = some (exo b D d') ∧ (∀ dx, d = some dx → ∃ fs, H dx = some (exd dx fs)) ∧ (∀ dx, d' = some dx → ∃ fs, H dx = some (exd dx fs)) ∧
  PySem.W.mroIn K D (.type "object") = some true ∧ PySem.W.findIn K (.ref D) "__eq__" = some (some (.builtin "object.__eq__")) ∧ Q (.bl false) H
theorem op_errEq (hu : X.A.units < cLine) : OpR X (compareOp .Eq) (rErrEq X.K) := by
  intro pins s σ H x y v u Q I rx ry h
  obtain ⟨a, b, D, d, d', rfl, rfl, ne, ea, eb, ed, ed', mo, eq, q⟩ := h
  obtain rfl : v = Value.ref a := rx
  obtain rfl : u = Value.ref b := ry
  obtain ⟨oa, da, Ia⟩ := err_inst I.hok ea ed
  obtain ⟨ob, db, Ib⟩ := err_inst I.hok eb ed'
  exact err_apart hu I.kIn Ia Ib mo eq ne ⟨.bl false, H, I, rfl, q⟩
/-- C() of a class without an __init__ of its own -/
theorem pe_errB (T : OexC X.K C) (iC : PySem.W.findIn X.K (.ref C) "__init__" = some (some (.builtin "ValueError.__init__"))) (hg : Gl X x) (hm : X.mg x = some (.ref C)) (hdb : (x == ("__debug__" : Str)) = false := by decide) :
    PE X (.Call (.Name x p) [] [] pos) (fun σ H Q => ∀ a, H a = none → Q (.ref a) (upd H a (exo a C none))) := ⟨fun pins s σ H Q I h => by
  refine wpAny_Call_Name_kw (ld_glob I hg hm (PySem.W.callWith_K0 I.kIn T.kC ?_) hdb)
  obtain ⟨nm, q, N, bs, bm, sn, sub, ab, col, dd, k0, k1, k2, k3, k5, hC, hbm⟩ := T.cls
  obtain ⟨hp, g, dr, tk, os⟩ := s
  refine PySem.W.call_B F.excBase_ValueError (fun Y => PySem.HandSPX.refsVE_contains Y bm hbm) (I.kIn _ _ hC) (PySem.W.looks_findIn I.kIn iC) (Nat.zero_le _) fun h' k e1 e2 => ?_
  exact ⟨.ref (hp.objs.size + 1), _, Inv.laid (t' := tk) (o := exo (hp.objs.size + 1) C none) I k (Nat.le_succ _) (exo_ok e1), rfl, h _ (I.hok.fresh (Nat.le_succ _))⟩⟩
/-- C(k = v, ..): keywords alone -/
def tErrK (C : Addr) (m : Nat) (sp : Sp) (gV : List V → List V → List V) (tk : TA) : TE := fun σ H Q => tk σ H fun zs H1 => zs.length = m ∧ ∀ a, H1 a = none → sp (gV [.ref a] zs) (upd H1 a (exo a C none)) (fun v H2 => v = .non ∧ Q (.ref a) H2) (fun _ _ _ => False)
theorem pe_errK {ks : List Str} {kws : List Keyword} {tk : TA} {g : List Value → List Value → List Value} {gV : List V → List V → List V} (T : OexC X.K C) (iC : PySem.W.findIn X.K (.ref C) "__init__" = some (some (.ref fI))) (tI : PySem.W.typeIn X.K (.ref fI) = some (.type "function"))
    (F1 : FnOk X.prog X.w X.K X.mg X.base CX k fI fd ps sp) (hr : Room (k + 1) X.A) (hb : KBn X.K fd ps 1 ks g gV) (hx : Passes CX X (fun _ _ _ => False)) (hg : Gl X x) (hm : X.mg x = some (.ref C)) (hkw : PK X kws tk)
    (hall : (backToKw pos (keywordEach kws X.env)).all (·.1.isSome) = true := by rfl) (hks : (backToKw pos (keywordEach kws X.env)).filterMap (·.1) = ks := by rfl) (hdb : (x == ("__debug__" : Str)) = false := by decide)
    (hpl : ((backTo pos (starEach [] X.env)).any (·.1) || (backToKw pos (keywordEach kws X.env)).any (·.1.isNone)) = false := by rfl) :
    PE X (.Call (.Name x p) [] kws pos) (tErrK C ks.length sp gV tk) := ⟨fun pins s σ H Q I h => by
  refine wpAny_Call_Name_kw (ld_glob I hg hm (PySem.W.callWith_KW0 (h₀ := X.base) I.ok.mod.kin T.kC hall (thn (hkw.run pos pins s σ H _ I h) fun ws s1 h1 => ?_) hpl) hdb)
  obtain ⟨zs, H1, I1, rz, lz, q1⟩ := h1
  refine ⟨I1.kIn, ?_⟩
  rw [hks]
  obtain ⟨nm, q, N, bs, bm, sn, sub, ab, col, dd, k0, k1, k2, k3, k5, hC, hbm⟩ := T.cls
  obtain ⟨hp, gg, dr, tk, os⟩ := s1
  have room : hp.objs.size ≤ hp.objs.size + 1 := Nat.le_succ _
  have hq := q1 (hp.objs.size + 1) (I1.hok.fresh room)
  let h2 := (hp.push (PySem.W.kdv_tup [])).push (PySem.HandSPX.excO C hp.objs.size)
  have at2 : h2.get? (hp.objs.size + 1) = some (PySem.HandSPX.excO C hp.objs.size) := by heap_get
  have I2 : Inv X pins σ (upd H1 (hp.objs.size + 1) (exo (hp.objs.size + 1) C none)) ⟨h2, gg, dr, tk, os⟩ :=
    Inv.laid (t' := tk) (a := hp.objs.size + 1) (o := exo (hp.objs.size + 1) C none) (h' := h2) I1 (fun b o z => Heap.get?_push_of_some _ (Heap.get?_push_of_some _ z)) room (exo_ok at2)
  have r2 := hb.rel (vs := [V.ref (hp.objs.size + 1)]) (us := [Value.ref (hp.objs.size + 1)]) (.cons rfl .nil) rz
  have e2 : ws.length = ks.length := rz.length.symm.trans lz
  have run := F1.run _ X.stack _ _ ⟨[Value.ref (hp.objs.size + 1)], ks.zip ws⟩ _ _ _ (fun _ _ _ => False) (hr.make C [] (ks.zip ws)) (I2.env0.make C [] (ks.zip ws)) (hb.to _ [Value.ref (hp.objs.size + 1)] ws I2.kIn rfl e2) r2 hq
  show wpAny _ _ (call (.ref C) [] (ks.zip ws)) _ _ _
  refine wpAny_call (PySem.ErrKw.kw_call F.excBase_ValueError (fun Y => PySem.HandSPX.refsVE_contains Y bm hbm) (I1.kIn _ _ hC) (PySem.W.looks_findIn I1.kIn iC) (fun self => PySem.W.bind_fn I1.kIn self tI) (Nat.zero_le _) (codeAny_mono run fun r s' z => ?_))
  match r, z with
  | .error er, z => exact hx pins σ _ _ er s' I2 z
  | .ok (.ret u), z =>
    obtain ⟨v, H', I3, rv, ev, q3⟩ := I2.after z
    subst ev
    exact ⟨rv, V.ref (hp.objs.size + 1), H', I3, rfl, q3⟩
  | .ok .next, z => exact False.elim z
  | .ok .brk, z => exact False.elim z
  | .ok .cont, z => exact False.elim z⟩
end
end DQ

set_option Elab.async false
set_option linter.all false
set_option maxRecDepth 100000
set_option maxHeartbeats 1000000
namespace DQ
open PySem PySem.Spec PyProof.Rows L2
/-- the sorted facts -/
def sortF (fs : List Fact) : List Fact := fs.mergeSort (PySem.W.dataLe false Fact.d)
theorem sortF_len (fs : List Fact) : (sortF fs).length = fs.length := List.length_mergeSort _
theorem sort_map (zs : List (V × Fact)) : (zs.mergeSort (PySem.W.dataLe false fun z => z.2.d)).map (·.2) = sortF (zs.map (·.2)) :=
  List.map_mergeSort fun _ _ _ _ => rfl
def Fact.nums : Fact → List Int
  | .mark _ i => [i]
  | .link _ a b => [a, b]
theorem nil_read {σ : L2.St} {H : Hp} {Q : List V → Hp → Prop} (h : Q [] H) : tNil σ H Q := h
/-- len of a list or a tuple, its relation by name (for use inside a comprehension) -/
def rLenS (K : PySem.W.Frag) : List V → Hp → VK → Prop := fun xs H Q => ∃ p ys, xs = [V.ref p] ∧ (SqL K H p ys ∨ SqT K H p ys) ∧ Q (V.int (ys.length : Nat)) H
theorem stoAt_same {H H' : Hp} {v : V} {S : Store} (s : Same H H') (A : StoAt H v S) : StoAt H' v S := by
  obtain ⟨t, m, c, i, f, rs, e, h1, h2, h3, h4, h5, tp⟩ := A
  exact ⟨t, m, c, i, f, rs, e, s _ _ h1, s _ _ h2, s _ _ h3, s _ _ h4, s _ _ h5, tp.keep (tk_same s)⟩
theorem paired_mono {α β : Type} {R R' : α → β → Prop} (m : ∀ a b, R a b → R' a b) : ∀ {xs : List α} {ys : List β}, Paired R xs ys → Paired R' xs ys
  | _, _, .nil => .nil
  | _, _, .cons h t => .cons (m _ _ h) (paired_mono m t)
theorem paired_at {α β : Type} {R : α → β → Prop} : ∀ {xs : List α} {ys : List β}, Paired R xs ys → ∀ {i : Nat} {x : α}, xs[i]? = some x → ∃ y, ys[i]? = some y ∧ R x y
  | _, _, .nil, i, x, h => by simp at h
  | _, _, .cons r _, 0, x, h => by cases h; exact ⟨_, rfl, r⟩
  | _, _, .cons _ t, i + 1, x, h => paired_at t (by simpa using h)
/-- a comprehension whose items are told ahead -/
theorem lc_vals {J : It} {n : Nat} {G : Hp → Prop} {Y : Nat → Hp → V → Hp → Prop} (w : Walk J n G Y) {g : TG} {te : TE} {vs : List Nat} {σ : L2.St} {H1 : Hp} {D : Addr} {Qd : Hp → Prop} (bs : List V) (hn : bs.length = n) (few : n < sizeLine) (nD : H1 D = none)
    (hG : ∀ H, Same H1 H → G H) (hY : ∀ i H x H', Y i H x H' → Same H H')
    (hs : ∀ i x H H' b, i < n → bs[i]? = some b → Same H1 H → Y i H x H' → ∀ R : V → Hp → Prop, (∀ H4, Same H' H4 → R b H4) → g x (wipe σ vs) H' fun σ2 H2 => wipe σ2 vs = wipe σ vs ∧ te σ2 H2 R)
    (hd : ∀ H, Same H1 H → H D = some (.lst bs) → Qd H) (gm : ∀ x σ H (Q Q' : L2.St → Hp → Prop), (∀ σ H, Q σ H → Q' σ H) → g x σ H Q → g x σ H Q') :
    ∃ W : Nat → Nat → Hp → Prop, (∃ m, W 0 m (upd H1 D (.lst []))) ∧ ∀ i m H, W i m H →
      (J.stop i H ∧ Qd H) ∨ (J.go i H ∧ ∃ Nx : Hp → Prop, (∀ H', Nx H' → ∃ m', m' < m ∧ W (i + 1) m' H') ∧ ∀ x H', J.yld i H x H' → g x (wipe σ vs) H' fun σ2 H2 => wipe σ2 vs = wipe σ vs ∧ tYes σ2 H2 fun b H3 =>
        if b = true then te σ2 H3 fun y H4 => ∃ acc, H4 D = some (.lst acc) ∧ acc.length < sizeLine ∧ Nx (upd H4 D (.lst (acc ++ [y]))) else Nx H3) := by
  refine lc_it w (fun i H => H D = some (.lst (bs.take i)) ∧ Same H1 H) ⟨upd_same, same_new nD⟩ (fun i H _ p => hG H p.2) (fun i x H H' hi p y => ?_) fun H p => hd H p.2 (by rw [← hn, List.take_length] at p; exact p.1)
  obtain ⟨e, s⟩ := p
  have hb : bs[i]? = some bs[i] := List.getElem?_eq_getElem (by omega)
  refine (fun z => gm x _ _ _ _ (fun σ2 H2 z => ⟨z.1, z.2⟩) z) (hs i x H H' _ hi hb s y (fun y H4 => ∃ acc, H4 D = some (.lst acc) ∧ acc.length < sizeLine ∧ upd H4 D (.lst (acc ++ [y])) D = some (.lst (bs.take (i + 1))) ∧ Same H1 (upd H4 D (.lst (acc ++ [y])))) fun H4 s4 => ?_)
  have e4 := s4 _ _ (hY _ _ _ _ y _ _ e)
  refine ⟨_, e4, ?_, ?_, ?_⟩
  · rw [List.length_take]
    omega
  · rw [take_next hb]
    exact upd_same
  · exact same_upd ((s.trans (hY _ _ _ _ y)).trans s4) nD
/-- what a pair's turn asks, however it goes on -/
theorem gpair_mono {K : PySem.W.Frag} {i j : Nat} (v : V) (σ : L2.St) (H : Hp) (R R' : L2.St → Hp → Prop) (m : ∀ σ H, R σ H → R' σ H) (h : gTup K 2 (gCons (gName i) (gCons (gName j) gNil)) v σ H R) : gTup K 2 (gCons (gName i) (gCons (gName j) gNil)) v σ H R' := by
  obtain ⟨T, ys, e1, e2, e3, z1, r1, e4, z2, r2, e5, e6, h⟩ := h
  exact ⟨T, ys, e1, e2, e3, z1, r1, e4, z2, r2, e5, e6, m _ _ h⟩
def Fact.kind : Fact → Str
  | .mark _ _ => "mark"
  | .link _ _ _ => "link"
theorem fact_v (x : Fact) : x.v = .str x.kind :: .str x.word :: x.nums.map V.int := by cases x <;> rfl
theorem fact_cut (x : Fact) : cutV x.v none (some 2) = [.str x.kind, .str x.word] ∧ cutV x.v (some 2) none = x.nums.map V.int := by cases x <;> exact ⟨rfl, rfl⟩
theorem fact_len (x : Fact) : x.v.length = 3 ∨ x.v.length = 4 := by cases x <;> simp [Fact.v]
theorem nums_len (x : Fact) : x.nums.length ≤ 2 := by cases x <;> simp [Fact.nums]
theorem nums_in {S : Store} {x : Fact} (h : x.of S) : ∀ i ∈ x.nums, i ∈ S.items := fun i hi => by
  cases x with
  | mark m j => simp only [Fact.nums, List.mem_cons, List.not_mem_nil, or_false] at hi; rw [hi]; exact h.2
  | link c a b =>
    simp only [Fact.nums, List.mem_cons, List.not_mem_nil, or_false] at hi
    rcases hi with rfl | rfl
    · exact h.2.1
    · exact h.2.2
theorem pa_starK {X : Cx} {K : PySem.W.Frag} {e : Expr} {es : List Expr} {p : Pos} {te : TE} {t : TA} (hk : X.K = K) (he : PE X e te) (hr : PA X es t) (hs : starEach (.Starred e p :: es) X.env = (true, eval e X.env) :: starEach es X.env := by rfl) : PA X (.Starred e p :: es) (StX.tStar K te t) := by
  subst hk
  exact StX.pa_star he hr hs
theorem pi_tupK {X : Cx} {K : PySem.W.Frag} {tg l : Expr} {tl : TE} (hk : X.K = K) (h : PE X l tl) : PI X tg l (iTup K tl) := by
  subst hk
  exact pi_tup h
/-- a new store: neither it nor its parts were there -/
def NewSto (H H' : Hp) (v : V) (S : Store) : Prop := ∃ (a m c i f : Addr) (rs : List V), v = .ref a ∧ H' a = some (.tup [.str "store", .ref m, .ref c, .ref i, .ref f]) ∧ H' m = some (.lst (S.marks.map V.str)) ∧ H' c = some (.lst (S.columns.map V.str)) ∧ H' i = some (.lst (S.items.map V.int)) ∧ H' f = some (.lst rs) ∧ Tups H' rs (S.facts.map Fact.v) ∧
  H a = none ∧ H m = none ∧ H c = none ∧ H i = none ∧ H f = none ∧ m ≠ c ∧ m ≠ i ∧ m ≠ f ∧ c ≠ i ∧ c ≠ f ∧ i ≠ f
theorem NewSto.at {H H' : Hp} {v : V} {S : Store} (N : NewSto H H' v S) : StoAt H' v S := by
  obtain ⟨a, m, c, i, f, rs, e, h1, h2, h3, h4, h5, tp, _⟩ := N
  exact ⟨a, m, c, i, f, rs, e, h1, h2, h3, h4, h5, tp⟩
theorem NewSto.up {H H1 H' : Hp} {v : V} {S : Store} (s : Same H H1) (N : NewSto H1 H' v S) : NewSto H H' v S := by
  obtain ⟨a, m, c, i, f, rs, e, h1, h2, h3, h4, h5, tp, n1, n2, n3, n4, n5, ne⟩ := N
  exact ⟨a, m, c, i, f, rs, e, h1, h2, h3, h4, h5, tp, s.free n1, s.free n2, s.free n3, s.free n4, s.free n5, ne⟩
theorem keep_del {g : Addr} {H H' : Hp} (k : Keep g H H') : Same (del H g) (del H' g) := fun b o h => by
  by_cases e : b = g
  · rw [e] at h; simp [del] at h
  · rw [del_ne e] at h ⊢
    exact k b o e h
theorem keep_del2 {g D : Addr} {H H' : Hp} (k : ∀ b o, b ≠ g → b ≠ D → H b = some o → H' b = some o) : Same (del (del H g) D) (del (del H' g) D) := fun b o h => by
  by_cases e : b = D
  · rw [e] at h; simp [del] at h
  · rw [del_ne e] at h ⊢
    by_cases e2 : b = g
    · rw [e2] at h; simp [del] at h
    · rw [del_ne e2] at h ⊢
      exact k b o e2 e h
theorem del_le {D : Addr} {H : Hp} : Same (del H D) H := fun b o h => by
  by_cases e : b = D
  · rw [e] at h; simp [del] at h
  · rwa [del_ne e] at h
theorem paired_snoc {α β : Type} {R : α → β → Prop} {a : α} {b : β} (h : R a b) : ∀ {xs : List α} {ys : List β}, Paired R xs ys → Paired R (xs ++ [a]) (ys ++ [b])
  | _, _, .nil => .cons h .nil
  | _, _, .cons r t => .cons r (paired_snoc h t)
theorem small1000' {n : Nat} (h : n ≤ 1000) : n ≤ sizeLine := Nat.le_trans h (by decide)
theorem seq_new {K : PySem.W.Frag} {H H1 H2 : Hp} {a g : Addr} {xs : List V} (h : SqL K H a xs) (s : Same H H1) (n : H g = none) (k : Keep g H1 H2) : SqL K H2 a xs := by
  rcases h with (h | ⟨o, h⟩) | h
  · exact .inl (.inl (k _ _ (ne_of_none h n) (s _ _ h)))
  · exact .inl (.inr ⟨o, k _ _ (ne_of_none h n) (s _ _ h)⟩)
  · exact .inr h
theorem del_same' {g : Addr} {H : Hp} : del H g g = none := by simp [del]
end DQ

set_option Elab.async false
set_option linter.all false
set_option maxRecDepth 100000
set_option maxHeartbeats 1000000
namespace DQ
open PySem PySem.Spec PyProof.Rows L2
theorem iteT' {b : Bool} {T1 T2 : Prop} (h : b = true) (t : T1) : if b = true then T1 else T2 := by rw [h]; exact t
theorem iteF' {b : Bool} {T1 T2 : Prop} (h : b = false) (t : T2) : if b = true then T1 else T2 := by rw [h]; exact t
/-- a comprehension with a test; what each turn gives, if it gives anything, is told ahead -/
theorem lc_opts {J : It} {n : Nat} {G : Hp → Prop} {Y : Nat → Hp → V → Hp → Prop} (w : Walk J n G Y) {g : TG} {tt : TT} {te : TE} {vs : List Nat} {σ : L2.St} {H1 : Hp} {D : Addr} {Qd : Hp → Prop} (os : List (Option V)) (hn : os.length = n) (few : n < sizeLine) (nD : H1 D = none)
    (hG : ∀ H, Same H1 H → G H) (hY : ∀ i H x H', Y i H x H' → Same H H')
    (hs : ∀ i x H H' o, i < n → os[i]? = some o → Same H1 H → Y i H x H' → ∀ (R : V → Hp → Prop) (N : Hp → Prop), (∀ v H4, o = some v → Same H' H4 → R v H4) → (o = none → ∀ H4, Same H' H4 → N H4) →
      g x (wipe σ vs) H' fun σ2 H2 => wipe σ2 vs = wipe σ vs ∧ tt σ2 H2 fun b H3 => if b = true then te σ2 H3 R else N H3)
    (hd : ∀ H, Same H1 H → H D = some (.lst (os.filterMap id)) → Qd H) :
    ∃ W : Nat → Nat → Hp → Prop, (∃ m, W 0 m (upd H1 D (.lst []))) ∧ ∀ i m H, W i m H →
      (J.stop i H ∧ Qd H) ∨ (J.go i H ∧ ∃ Nx : Hp → Prop, (∀ H', Nx H' → ∃ m', m' < m ∧ W (i + 1) m' H') ∧ ∀ x H', J.yld i H x H' → g x (wipe σ vs) H' fun σ2 H2 => wipe σ2 vs = wipe σ vs ∧ tt σ2 H2 fun b H3 =>
        if b = true then te σ2 H3 fun y H4 => ∃ acc, H4 D = some (.lst acc) ∧ acc.length < sizeLine ∧ Nx (upd H4 D (.lst (acc ++ [y]))) else Nx H3) := by
  refine lc_it w (fun i H => H D = some (.lst ((os.take i).filterMap id)) ∧ Same H1 H) ⟨upd_same, same_new nD⟩ (fun i H _ p => hG H p.2) (fun i x H H' hi p y => ?_) fun H p => hd H p.2 (by rw [← hn, List.take_length] at p; exact p.1)
  obtain ⟨e, s⟩ := p
  have ho : os[i]? = some os[i] := List.getElem?_eq_getElem (by omega)
  have tn : (os.take (i + 1)).filterMap id = (os.take i).filterMap id ++ (match os[i] with | some v => [v] | none => []) := by
    rw [take_next ho, List.filterMap_append, List.filterMap_cons]
    cases os[i] <;> rfl
  refine hs i x H H' _ hi ho s y _ _ (fun v H4 ev s4 => ?_) fun en H4 s4 => ?_
  · have e4 := s4 _ _ (hY _ _ _ _ y _ _ e)
    refine ⟨_, e4, ?_, ?_, same_upd ((s.trans (hY _ _ _ _ y)).trans s4) nD⟩
    · have := List.length_filterMap_le id (os.take i)
      have := List.length_take_le i os
      omega
    · rw [tn, ev]
      exact upd_same
  · refine ⟨?_, (s.trans (hY _ _ _ _ y)).trans s4⟩
    rw [tn, en, List.append_nil]
    exact s4 _ _ (hY _ _ _ _ y _ _ e)
end DQ

set_option Elab.async false
set_option linter.all false
set_option maxRecDepth 100000
set_option maxHeartbeats 2000000
namespace DQ
open PySem PySem.Spec PyProof.Rows L2
/-! ### sum of lists: they are put together, one behind the other -/
def catTo (ls : Nat → Array Value) : Nat → Array Value
  | 0 => #[]
  | i + 1 => catTo ls i ++ ls i
section
variable {prog : Program} {w : World} {A : Around} {R : Result → Shared → Prop}
theorem sumL_loop (hh : A.in1.handled = none) {I l S : Addr} {vs : Array Value} (hIl : l ≠ I) (hSI : S ≠ I) (hSl : S ≠ l) (b : Nat → Addr) (look : ∀ i, i < vs.size → vs[i]? = some (.ref (b i))) (ls : Nat → Array Value) (cs : Nat → Nat) (apart : ∀ i, i < vs.size → b i ≠ I ∧ b i ≠ S) (bound : ∀ i, i ≤ vs.size → (catTo ls i).size ≤ sizeLine) :
    ∀ (k i : Nat) (u : Shared) (t : Addr) (c m : Nat), vs.size - i = k → i ≤ vs.size → u.heap.IsListIter I l i → u.heap.IsList l vs → u.heap.get? S = some { cls := .type "list", dict := none, data := .seq #[.ref t] c, slots := #[] } → IsL u.heap t (catTo ls i) m → t ≠ I → t ≠ S →
    (∀ j, j < vs.size → IsL u.heap (b j) (ls j) (cs j)) →
    (∀ h' tk t' m', (∀ a o, a ≠ I → a ≠ S → u.heap.get? a = some o → h'.get? a = some o) → IsL h' t' (catTo ls vs.size) m' → (t' = t ∨ u.heap.get? t' = none) → R (.ok (.ret (.ref t'))) { u with heap := h', toks := tk }) →
    codeAny (model prog w) A (.builtin "sum.loop" ⟨[.ref I, .ref S, rawInt 2, rawInt 0], []⟩) R u := by
  have W := Walks.list (prog := prog) (w := w) hh I l hIl vs
  intro k
  induction k with
  | zero =>
    intro i u t c m hk hi it isl hS tot tI tS parts fin
    obtain rfl : i = vs.size := by omega
    apply codeAny_builtin F.entry_sum_loop; rw [Around.under_plainId F.plain_sum_loop _]; show wpAny _ A.in1 (seqItems? (.ref S) >>= _) _ _ u
    apply wpAny_bind; apply wpAny_seqItems hS rfl; show wpAny _ A.in1 (tryCatch (pyNext (.ref I)) _ >>= _) _ _ u
    refine wpAny_bind (wpAny_tryCatch (W.done u _ _ ⟨it, isl⟩ fun h1 tk keep => ?_))
    have keep1 : ∀ a o, a ≠ I → u.heap.get? a = some o → h1.get? a = some o := fun a o na => keep a o (by simpa using na)
    exact wpAny_pure (fin h1 tk t m (fun a o na _ e => keep1 a o na e) (keep1 t _ tI tot) (.inl rfl))
  | succ k ih =>
    intro i u t c m hk hi it isl hS tot tI tS parts fin
    have lt : i < vs.size := by omega
    apply codeAny_builtin F.entry_sum_loop; rw [Around.under_plainId F.plain_sum_loop _]; show wpAny _ A.in1 (seqItems? (.ref S) >>= _) _ _ u
    apply wpAny_bind; apply wpAny_seqItems hS rfl; show wpAny _ A.in1 (tryCatch (pyNext (.ref I)) _ >>= _) _ _ u
    refine wpAny_bind (wpAny_tryCatch (W.item i u _ _ lt ⟨it, isl⟩ fun v h1 tk hv st1 keep => ?_))
    rw [look i lt] at hv
    injection hv with hv
    subst hv
    have keep1 : ∀ a o, a ≠ I → u.heap.get? a = some o → h1.get? a = some o := fun a o na => keep a o (by simpa using na)
    obtain ⟨it1, isl1⟩ := st1
    have hS1 := keep1 S _ hSI hS
    have tot1 : IsL h1 t (catTo ls i) m := keep1 t _ tI tot
    have parts1 : ∀ j, j < vs.size → IsL h1 (b j) (ls j) (cs j) := fun j hj => keep1 _ _ (apart j hj).1 (parts j hj)
    show wpAny _ A.in1 ((holding [Value.ref (b i)] (binaryOp .Add (Value.ref t) (Value.ref (b i)))).attempt >>= _) _ _ _
    have room : (catTo ls i).size + (ls i).size ≤ sizeLine := by
      have := bound (i + 1) lt
      rw [catTo, Array.size_append] at this
      exact this
    refine wpAny_bind (wpAny_attempt (wpAny_holding (PySem.P.add_list (s := { u with heap := h1, toks := tk }) tot1 (parts1 i lt) ?_ room)))
    have lost : ∀ {z : Addr} {o : Obj}, h1.get? z = some o → z ≠ h1.objs.size := fun e => Nat.ne_of_lt (Heap.lt_size e)
    obtain ⟨oI, eI, _⟩ := id it1
    have nI := lost eI
    have nS := lost hS1
    let h2 := h1.push { cls := .type "list", data := .seq (catTo ls i ++ ls i) }
    have old : ∀ a o, h1.get? a = some o → h2.get? a = some o := fun a o e => Heap.get?_push_of_some _ e
    have tot2 : IsL h2 h1.objs.size (catTo ls (i + 1)) 0 := Heap.get?_push_size _ rfl
    show wpAny _ A.in1 (updateSeq S (fun _ => #[.ref h1.objs.size]) >>= _) _ _ _
    apply wpAny_bind; apply wpAny_updateSeq (s := { u with heap := h2, toks := tk }) (old _ _ hS1) rfl
    apply wpAny_bind; apply wpAny_letGo
    have hS2 := Heap.get?_update_self (Obj.mapSeq fun _ => #[Value.ref h1.objs.size]) (old _ _ hS1) rfl
    have kp2 : ∀ a o, a ≠ S → h2.get? a = some o → (h2.update S (Obj.mapSeq fun _ => #[Value.ref h1.objs.size])).get? a = some o := fun a o na e => (Heap.get?_update_other _ _ (fun q => na q.symm)).trans e
    apply wpAny_bind; apply wpAny_updateSeq hS2 rfl
    have hS3 := Heap.get?_update_self (Obj.mapSeq fun _ => #[Value.ref h1.objs.size]) hS2 rfl
    have kp3 : ∀ a o, a ≠ S → h2.get? a = some o → ((h2.update S (Obj.mapSeq fun _ => #[Value.ref h1.objs.size])).update S (Obj.mapSeq fun _ => #[Value.ref h1.objs.size])).get? a = some o := fun a o na e => (Heap.get?_update_other _ _ (fun q => na q.symm)).trans (kp2 a o na e)
    refine wpAny_pure ⟨plainId_quiet F.plain_sum_loop _, ih (i + 1) _ h1.objs.size _ 0 (by omega) lt (it1.at fun o e => kp3 I o hSI.symm (old _ _ e)) (isl1.at fun o e => kp3 l o hSl.symm (old _ _ e)) hS3 (kp3 _ _ nS.symm tot2) nI.symm nS.symm (fun j hj => kp3 _ _ (apart j hj).2 (old _ _ (parts1 j hj))) fun h' tk' t' m' kp e new => ?_⟩
    have gone : ∀ {z : Addr}, ((h2.update S (Obj.mapSeq fun _ => #[Value.ref h1.objs.size])).update S (Obj.mapSeq fun _ => #[Value.ref h1.objs.size])).get? z = none ∨ z = h1.objs.size → u.heap.get? z = none := fun {z} q => by
      cases g : u.heap.get? z with
      | none => rfl
      | some o =>
        exfalso
        rcases q with q | q
        · by_cases zI : z = I
          · rw [zI, kp3 I oI hSI.symm (old _ _ eI)] at q
            cases q
          · by_cases zS : z = S
            · rw [zS, hS3] at q
              cases q
            · rw [kp3 z o zS (old _ _ (keep1 z o zI g))] at q
              cases q
        · by_cases zI : z = I
          · exact nI (zI.symm.trans q)
          · exact lost (keep1 z o zI g) q
    exact fin h' tk' t' m' (fun a o na ns e => kp a o na ns (kp3 a o ns (old _ _ (keep1 a o na e)))) e (.inr (gone (new.elim .inr .inl)))
end
theorem args_sum2 (a b : Value) : argsOk "sum" ⟨[a, b], []⟩ := by unfold argsOk; kernel_rfl
section
variable {prog : Program} {w : World} {A : Around} {E : Value → Shared → Prop} {u : Shared}
theorem call_sumL (hh : A.in1.in1.handled = none) (hh1 : A.in1.handled = none) {l t : Addr} {vs : Array Value} {m : Nat} (isl : u.heap.IsList l vs) (tot : IsL u.heap t #[] m) (b : Nat → Addr) (look : ∀ i, i < vs.size → vs[i]? = some (.ref (b i))) (ls : Nat → Array Value) (cs : Nat → Nat) (bound : ∀ i, i ≤ vs.size → (catTo ls i).size ≤ sizeLine) (parts : ∀ j, j < vs.size → IsL u.heap (b j) (ls j) (cs j)) {Q : Value → Shared → Prop}
    (fin : ∀ h' tk t' m', (∀ a o, u.heap.get? a = some o → h'.get? a = some o) → IsL h' t' (catTo ls vs.size) m' → (t' = t ∨ u.heap.get? t' = none) → Q (.ref t') { u with heap := h', toks := tk }) : wpAny (model prog w) A (call (.builtin "sum") [.ref l, .ref t]) Q E u := by
  apply call_function_tree F.kind_sum F.plain_sum F.entry_sum (args_sum2 _ _)
  unfold Builtin.«sum»
  simp only [List.length_cons, List.length_nil]
  rw [if_neg (by decide)]
  apply wpAny_bind; apply wpAny_of_eq (show Builtin.Builtins.bindParams "sum" ["start"] 0 ⟨[.ref t], []⟩ = pure [some (.ref t)] from rfl)
  apply wpAny_bind; apply wpAny_pyIter_list isl
  apply wpAny_bind; apply wpAny_pure
  simp only [List.forIn_cons, List.forIn_nil]
  have lt := Heap.lt_size tot
  have ll : l < u.heap.objs.size := by obtain ⟨o, e, _⟩ := isl; exact Heap.lt_size e
  have tot1 : IsL (u.heap.push { cls := .type "list_iterator", data := .fields #[.ref l, .int 0 0] }) t #[] m := Heap.get?_push_of_some _ tot
  have ty : ({ u with heap := u.heap.push { cls := .type "list_iterator", data := .fields #[.ref l, .int 0 0] } } : Shared).TypeIs (.ref t) "list" := ⟨_, tot1, rfl⟩
  apply wpAny_bind; apply wpAny_bind; apply wpAny_bind; apply wpAny_isInstance (T := "list") (b := false) ty (by rw [isSubtype_type]; kernel_rfl)
  simp only [Bool.false_eq_true, if_false]
  apply wpAny_pure; apply wpAny_bind; apply wpAny_bind; apply wpAny_isInstance (T := "list") (b := false) ty (by rw [isSubtype_type]; kernel_rfl)
  simp only [Bool.false_eq_true, if_false]
  apply wpAny_pure; apply wpAny_bind; apply wpAny_bind; apply wpAny_isInstance (T := "list") (b := false) ty (by rw [isSubtype_type]; kernel_rfl)
  simp only [Bool.false_eq_true, if_false]
  apply wpAny_pure; apply wpAny_pure
  apply wpAny_bind; refine wpAny_newObj_type ?_
  let g1 := u.heap.push { cls := .type "list_iterator", data := .fields #[.ref l, .int 0 0] }
  let g2 := g1.push { cls := .type "list", data := .seq #[.ref t] }
  have kp1 : ∀ a o, u.heap.get? a = some o → g1.get? a = some o := fun a o e => Heap.get?_push_of_some _ e
  have kp2 : ∀ a o, g1.get? a = some o → g2.get? a = some o := fun a o e => Heap.get?_push_of_some _ e
  have it : g2.IsListIter u.heap.objs.size l 0 := ⟨_, kp2 _ _ (Heap.get?_push_size _ rfl), rfl, rfl⟩
  have sz : g1.objs.size = u.heap.objs.size + 1 := Heap.size_push ..
  have neSI : g1.objs.size ≠ u.heap.objs.size := by rw [sz]; exact Nat.succ_ne_self _
  have ltg : ∀ {a : Addr}, a < u.heap.objs.size → a ≠ u.heap.objs.size ∧ a ≠ g1.objs.size := fun h => ⟨Nat.ne_of_lt h, by rw [sz]; exact Nat.ne_of_lt (Nat.lt_succ_of_lt h)⟩
  refine wpAny_pure ⟨plainId_quiet F.plain_sum_loop _, sumL_loop hh1 (ltg ll).1 neSI (ltg ll).2.symm b look ls cs (fun i hi => ltg (Heap.lt_size (parts i hi))) bound _ 0 { u with heap := g2 } t 0 m rfl (Nat.zero_le _) it (isl.at fun o e => kp2 _ _ (kp1 _ _ e)) (Heap.get?_push_size _ rfl) (kp2 _ _ (kp1 _ _ tot)) (ltg lt).1 (ltg lt).2 (fun j hj => kp2 _ _ (kp1 _ _ (parts j hj))) fun h' tk t' m' kp e new => ?_⟩
  refine fin h' tk t' m' (fun a o h => kp a o (ltg (Heap.lt_size h)).1 (ltg (Heap.lt_size h)).2 (kp2 _ _ (kp1 _ _ h))) e (new.imp id fun z => ?_)
  cases q : u.heap.get? t' with
  | none => rfl
  | some o => rw [show g2.get? t' = some o from kp2 _ _ (kp1 _ _ q)] at z; cases z
end
section
variable {X : Cx}
/-- sum(lists, []) : a list of all their items -/
def rSumL (K : PySem.W.Frag) : List V → Hp → VK → Prop := fun xs H Q => ∃ (l t : Addr) (bs : List Addr) (ys : List (List V)), xs = [.ref l, .ref t] ∧ SqL K H l (bs.map V.ref) ∧ H t = some (.lst []) ∧ ys.length = bs.length ∧ (∀ (i : Nat) (b : Addr) (y : List V), bs[i]? = some b → ys[i]? = some y → H b = some (.lst y)) ∧ ys.flatten.length ≤ sizeLine ∧
  ∀ (p : Addr) (H' : Hp), Same H H' → H' p = some (.lst ys.flatten) → Q (.ref p) H'
theorem vals_refs' : ∀ {bs : List Addr} {us : List Value}, Vals (bs.map V.ref) us → us = bs.map Value.ref
  | [], _, .nil => rfl
  | b :: bs, u :: us, .cons r t => by
    rw [List.map_cons, ← vals_refs' t]
    cases (show u = Value.ref b from r)
    rfl
theorem flat_take_len {α : Type} : ∀ (ys : List (List α)) (i : Nat), (ys.take i).flatten.length ≤ ys.flatten.length
  | [], i => by simp
  | y :: ys, 0 => by simp
  | y :: ys, i + 1 => by
    rw [List.take_succ_cons, List.flatten_cons, List.flatten_cons, List.length_append, List.length_append]
    have := flat_take_len ys i
    omega
theorem cr_sumL (hc : X.calm = true) : CallR X (.builtin "sum") (rSumL X.K) := fun pins u σ H xs us Q I rel ask => by
  obtain ⟨l, t, bs, ys, rfl, sq, et, len, parts, bound, go⟩ := ask
  obtain ⟨v1, v2, rfl, r1, r2⟩ := vals2 rel
  cases (show v1 = Value.ref l from r1)
  cases (show v2 = Value.ref t from r2)
  obtain ⟨its, rv, pl, _⟩ := I.list sq
  obtain rfl := vals_refs' rv
  obtain ⟨_, it0, m, r0, len0, e0⟩ := I.lstM et
  have it00 : it0 = [] := List.eq_nil_of_length_eq_zero len0.symm
  subst it00
  have each : ∀ i, i < bs.length → ∃ (z : List Value) (n : Nat), Vals ((ys[i]?).getD []) z ∧ IsL u.heap ((bs[i]?).getD 0) z.toArray n := fun i hi => by
    obtain ⟨_, z, n, r, _, e⟩ := I.lstM (parts i bs[i] ys[i] (List.getElem?_eq_getElem hi) (List.getElem?_eq_getElem (by omega)))
    rw [List.getElem?_eq_getElem hi, List.getElem?_eq_getElem (show i < ys.length by omega)]
    exact ⟨z, n, r, e⟩
  let pick : Nat → List Value := fun i => if h : i < bs.length then Classical.choose (each i h) else []
  have pick_ok : ∀ i, i < bs.length → ∃ n, Vals ((ys[i]?).getD []) (pick i) ∧ IsL u.heap ((bs[i]?).getD 0) (pick i).toArray n := fun i hi => by
    have z := Classical.choose_spec (each i hi)
    have e : pick i = Classical.choose (each i hi) := dif_pos hi
    rw [e]
    exact z
  let cnt : Nat → Nat := fun i => if h : i < bs.length then Classical.choose (pick_ok i h) else 0
  have cnt_ok : ∀ i, i < bs.length → IsL u.heap ((bs[i]?).getD 0) (pick i).toArray (cnt i) := fun i hi => by
    have z := (Classical.choose_spec (pick_ok i hi)).2
    have e : cnt i = Classical.choose (pick_ok i hi) := dif_pos hi
    rw [e]
    exact z
  have vals : ∀ i, i ≤ bs.length → Vals (ys.take i).flatten (catTo (fun j => (pick j).toArray) i).toList := fun i => by
    induction i with
    | zero => exact fun _ => .nil
    | succ i ih =>
      intro hi
      obtain ⟨_, r, _⟩ := pick_ok i hi
      have hy : ys[i]? = some ys[i] := List.getElem?_eq_getElem (by omega)
      rw [take_next hy, List.flatten_append, catTo, Array.toList_append]
      rw [hy] at r
      exact (ih (by omega)).append (by simpa using r)
  have sz : (bs.map Value.ref).toArray.size = bs.length := by simp
  have cap : ∀ i, i ≤ bs.length → (catTo (fun j => (pick j).toArray) i).size ≤ sizeLine := fun i hi => by
    have := (vals i hi).length
    have := flat_take_len ys i
    rw [← Array.length_toList]
    omega
  refine call_sumL (I.ok.hd hc) (I.ok.hd hc) pl.isList e0 (fun i => (bs[i]?).getD 0) (fun i hi => ?_) (fun j => (pick j).toArray) cnt (fun i hi => cap i (by rwa [sz] at hi)) (fun j hj => cnt_ok j (by rwa [sz] at hj)) fun h' tk t' m' kp e new => ?_
  · rw [sz] at hi
    simp [hi]
  · rw [sz] at e
    have vz := vals bs.length (Nat.le_refl _)
    rw [List.take_of_length_le (by omega)] at vz
    rcases new with rfl | new
    · have I1 := I.kept (t' := tk) kp
      have z : ys.flatten = [] := by
        have q := (kp _ _ e0).symm.trans e
        injection q with q
        injection q with _ _ q _
        injection q with q _
        rw [← q] at vz
        exact List.eq_nil_of_length_eq_zero vz.length
      exact ⟨.ref t', H, I1, rfl, go t' H (fun _ _ h => h) (by rw [et, z])⟩
    · have hn : H t' = none := I.hok.gone new
      exact ⟨.ref t', _, I.laidN (t' := tk) (o := .lst ys.flatten) kp new hn ⟨bound, _, m', vz, e⟩, rfl, go t' _ (same_new hn) upd_same⟩
end
end DQ

set_option Elab.async false
set_option linter.all false
set_option maxRecDepth 100000
set_option maxHeartbeats 1000000
namespace DQ
open PySem PySem.Spec PyProof.Rows L2
/-! ### data of whole numbers and tuples, of one shape -/
inductive Shp where
  | int
  | row (s : Shp)
  | two (a b : Shp)
  | three (a b c : Shp)
def Like : Shp → PyData → Prop
  | .int, d => ∃ n, d = .int n
  | .row s, d => ∃ ds, d = .tuple ds ∧ ∀ e ∈ ds, Like s e
  | .two a b, d => ∃ x y, d = .tuple [x, y] ∧ Like a x ∧ Like b y
  | .three a b c, d => ∃ x y z, d = .tuple [x, y, z] ∧ Like a x ∧ Like b y ∧ Like c z
def Shp.dep : Shp → Nat
  | .int => 0
  | .row s => s.dep + 1
  | .two a b => max a.dep b.dep + 1
  | .three a b c => max a.dep (max b.dep c.dep) + 1
theorem alike_all {s : Shp} (h : ∀ d e, Like s d → Like s e → PySem.W.alike d e = true) : ∀ xs ys : List PyData, (∀ e ∈ xs, Like s e) → (∀ e ∈ ys, Like s e) → PySem.W.alikeAll xs ys = true
  | [], _, _, _ => by simp only [PySem.W.alikeAll]
  | _ :: _, [], _, _ => by simp only [PySem.W.alikeAll]
  | x :: xs, y :: ys, hx, hy => by
    simp only [PySem.W.alikeAll, Bool.and_eq_true]
    exact ⟨h x y (hx x (List.mem_cons_self ..)) (hy y (List.mem_cons_self ..)), alike_all h xs ys (fun e he => hx e (List.mem_cons_of_mem _ he)) fun e he => hy e (List.mem_cons_of_mem _ he)⟩
theorem like_alike : ∀ (s : Shp) (d e : PyData), Like s d → Like s e → PySem.W.alike d e = true
  | .int, _, _, ⟨n, hd⟩, ⟨m, he⟩ => by rw [hd, he]; simp only [PySem.W.alike]
  | .row s, _, _, ⟨ds, hd, h1⟩, ⟨es, he, h2⟩ => by
    rw [hd, he]
    simp only [PySem.W.alike]
    exact alike_all (like_alike s) ds es h1 h2
  | .two a b, _, _, ⟨x, y, hd, h1, h2⟩, ⟨x', y', he, k1, k2⟩ => by
    rw [hd, he]
    simp only [PySem.W.alike, PySem.W.alikeAll, like_alike a _ _ h1 k1, like_alike b _ _ h2 k2, Bool.and_self]
  | .three a b c, _, _, ⟨x, y, z, hd, h1, h2, h3⟩, ⟨x', y', z', he, k1, k2, k3⟩ => by
    rw [hd, he]
    simp only [PySem.W.alike, PySem.W.alikeAll, like_alike a _ _ h1 k1, like_alike b _ _ h2 k2, like_alike c _ _ h3 k3, Bool.and_self]
theorem eqv_all {s : Shp} (h : ∀ d e, Like s d → Like s e → PyData.eqv d e = true → d = e) : ∀ xs ys : List PyData, (∀ e ∈ xs, Like s e) → (∀ e ∈ ys, Like s e) → PyData.eqvAll xs ys = true → xs = ys
  | [], [], _, _, _ => rfl
  | [], _ :: _, _, _, q => by simp [PyData.eqvAll] at q
  | _ :: _, [], _, _, q => by simp [PyData.eqvAll] at q
  | x :: xs, y :: ys, hx, hy, q => by
    rw [PySem.W.eqv_all_cons, Bool.and_eq_true] at q
    rw [h x y (hx x (List.mem_cons_self ..)) (hy y (List.mem_cons_self ..)) q.1, eqv_all h xs ys (fun e he => hx e (List.mem_cons_of_mem _ he)) (fun e he => hy e (List.mem_cons_of_mem _ he)) q.2]
theorem like_eqv : ∀ (s : Shp) (d e : PyData), Like s d → Like s e → PyData.eqv d e = true → d = e
  | .int, _, _, ⟨n, hd⟩, ⟨m, he⟩, q => by
    rw [hd, he] at q ⊢
    have : n = m := by simpa [PyData.eqv] using q
    rw [this]
  | .row s, _, _, ⟨ds, hd, h1⟩, ⟨es, he, h2⟩, q => by
    rw [hd, he] at q ⊢
    simp only [PyData.eqv] at q
    rw [eqv_all (like_eqv s) ds es h1 h2 q]
  | .two a b, _, _, ⟨x, y, hd, h1, h2⟩, ⟨x', y', he, k1, k2⟩, q => by
    rw [hd, he] at q ⊢
    simp only [PyData.eqv, PySem.W.eqv_all_cons, Bool.and_eq_true] at q
    rw [like_eqv a _ _ h1 k1 q.1, like_eqv b _ _ h2 k2 q.2.1]
  | .three a b c, _, _, ⟨x, y, z, hd, h1, h2, h3⟩, ⟨x', y', z', he, k1, k2, k3⟩, q => by
    rw [hd, he] at q ⊢
    simp only [PyData.eqv, PySem.W.eqv_all_cons, Bool.and_eq_true] at q
    rw [like_eqv a _ _ h1 k1 q.1, like_eqv b _ _ h2 k2 q.2.1, like_eqv c _ _ h3 k3 q.2.2.1]
theorem lay_all {n : Nat} : ∀ xs : List PyData, (∀ e ∈ xs, e.canLay0 = true ∧ e.depth ≤ n) → PyData.canLayAll0 xs = true ∧ PyData.depthAll xs ≤ n
  | [], _ => ⟨rfl, Nat.zero_le _⟩
  | x :: xs, h => by
    obtain ⟨a, b⟩ := lay_all xs fun e he => h e (List.mem_cons_of_mem _ he)
    obtain ⟨c, d⟩ := h x (List.mem_cons_self ..)
    simp only [PyData.canLayAll0, PyData.depthAll, a, c, Bool.and_self, true_and]
    exact Nat.max_le.mpr ⟨d, b⟩
theorem like_lay : ∀ (s : Shp) (d : PyData), Like s d → d.canLay0 = true ∧ d.depth ≤ s.dep
  | .int, _, ⟨n, hd⟩ => by rw [hd]; exact ⟨rfl, Nat.le_refl _⟩
  | .row s, _, ⟨ds, hd, h⟩ => by
    obtain ⟨a, b⟩ := lay_all ds fun e he => like_lay s e (h e he)
    rw [hd]
    simp only [PyData.canLay0, PyData.depth, Shp.dep]
    exact ⟨a, by omega⟩
  | .two a b, _, ⟨x, y, hd, h1, h2⟩ => by
    obtain ⟨p1, q1⟩ := like_lay a x h1
    obtain ⟨p2, q2⟩ := like_lay b y h2
    rw [hd]
    simp only [PyData.canLay0, PyData.canLayAll0, PyData.depth, PyData.depthAll, Shp.dep, p1, p2, Bool.and_self, true_and]
    omega
  | .three a b c, _, ⟨x, y, z, hd, h1, h2, h3⟩ => by
    obtain ⟨p1, q1⟩ := like_lay a x h1
    obtain ⟨p2, q2⟩ := like_lay b y h2
    obtain ⟨p3, q3⟩ := like_lay c z h3
    rw [hd]
    simp only [PyData.canLay0, PyData.canLayAll0, PyData.depth, PyData.depthAll, Shp.dep, p1, p2, p3, Bool.and_self, true_and]
    omega
theorem like_shaped {s : Shp} {d : PyData} (h : Like s d) (hs : s.dep ≤ 64) : SeqAt.shaped d = true := by
  obtain ⟨a, b⟩ := like_lay s d h
  show (PyData.canLay0 d && decide (PyData.depth d ≤ 64)) = true
  rw [a, decide_eq_true (Nat.le_trans b hs)]
  rfl
theorem like_refl {s : Shp} {d : PyData} (h : Like s d) (hs : s.dep ≤ 64) : PyData.eqv d d = true := SeqAt.eqv_refl d (SeqAt.canLay_of_shaped (like_shaped h hs))
/-! the order of such data -/
theorem toks_same {s : Shp} {d e : PyData} (h1 : Like s d) (h2 : Like s e) (h : PySem.W.keyToks d = PySem.W.keyToks e) : d = e := by
  refine like_eqv s d e h1 h2 ?_
  cases q : PyData.eqv d e with
  | true => rfl
  | false =>
    have z := (PySem.W.toks_eqv d e (like_alike s d e h1 h2)).2 q [.inl 0] [.inl 1]
    rw [h, PySem.W.lex_pre, lex_irrefl] at z
    exact absurd z (by decide)
def sortD (ds : List PyData) : List PyData := ds.mergeSort (PySem.W.dataLe false id)
theorem sortD_perm (ds : List PyData) : (sortD ds).Perm ds := List.mergeSort_perm _ _
theorem sorted_one {s : Shp} {l m : List PyData} (p : l.Perm m) (hm : ∀ d ∈ m, Like s d) (h1 : l.Pairwise fun a b => PySem.W.dataLt b a = false) (h2 : m.Pairwise fun a b => PySem.W.dataLt b a = false) : l = m :=
  List.Perm.eq_of_pairwise (le := fun a b : PyData => PySem.W.dataLt b a = false) (fun a b ha hb q1 q2 => toks_same (hm a (p.mem_iff.mp ha)) (hm b hb) (lex_total _ _ q2 q1)) h1 h2 p
theorem sortD_pw (ds : List PyData) : (sortD ds).Pairwise fun a b => PySem.W.dataLt b a = false :=
  (PySem.W.sort_pairwise (PySem.W.sortLe_total (listOrd itemOrd) false fun z : PyData => PySem.W.keyToks z) ds).imp fun {a b} h => by
    have z : (!PySem.W.dataLt b a) = true := h
    simpa using z
theorem sortD_same {s : Shp} {l m : List PyData} (p : l.Perm m) (hm : ∀ d ∈ m, Like s d) : sortD l = sortD m :=
  sorted_one ((sortD_perm l).trans (p.trans (sortD_perm m).symm)) (fun d hd => hm d ((sortD_perm m).mem_iff.mp hd)) (sortD_pw l) (sortD_pw m)
/-- what sorted leaves of values with their data -/
theorem sort_snd {s : Shp} {zs : List (V × PyData)} (h : ∀ z ∈ zs, Like s z.2) : (zs.mergeSort (PySem.W.dataLe false fun z => z.2)).map (·.2) = sortD (zs.map (·.2)) := by
  have pz := List.mergeSort_perm zs (PySem.W.dataLe false fun z => z.2)
  refine sorted_one (s := s) ((pz.map (·.2)).trans (sortD_perm _).symm) (fun d hd => ?_) ?_ (sortD_pw _)
  · obtain ⟨z, hz, rfl⟩ := List.mem_map.mp ((sortD_perm _).mem_iff.mp hd)
    exact h z hz
  · refine List.pairwise_map.mpr ?_
    refine (PySem.W.sort_pairwise (PySem.W.sortLe_total (listOrd itemOrd) false fun z : V × PyData => PySem.W.keyToks z.2) zs).imp fun {a b} h => ?_
    have z : (!PySem.W.dataLt b.2 a.2) = true := h
    simpa using z
end DQ

set_option Elab.async false
set_option linter.all false
set_option maxRecDepth 100000
set_option maxHeartbeats 1000000
namespace DQ
open PySem PySem.Spec PyProof.Rows L2
/-! ### kinds, as data -/
structure Tab where
  items : List Int
  bits : Int → List Int
  ends : Int → List Int
def rowI (ns : List Int) : PyData := .tuple (ns.map PyData.int)
def placesI (row : List Int) (e : Int) : List Int := ((List.range row.length).filter fun k => decide (row[k]? = some e)).map fun k : Nat => (k : Int)
def firstI (row : List Int) (i : Int) : Int := ((row.idxOf i : Nat) : Int)
def Tab.fwd (T : Tab) (c : Nat) (i : Int) : Int := ((T.ends i)[2 * c]?).getD (-1)
def atomsD (T : Tab) (cols : Nat) (row : List Int) : PyData := .tuple [rowI (row.map (firstI row)), .tuple (row.map fun i => rowI (T.bits i)), .tuple ((List.range cols).map fun c => .tuple (row.map fun i => rowI (placesI row (T.fwd c i))))]
def keepAt (ds : List PyData) (k : Nat) : Bool := decide (k = 0) || !(PyData.eqv ((ds[k]?).getD .none) ((ds[k - 1]?).getD .none))
def unlikes (ds : List PyData) : List PyData := (List.range ds.length).filterMap fun k => if keepAt ds k then ds[k]? else none
def kindD (T : Tab) (cols : Nat) : Nat → List Int → PyData
  | 0, row => .tuple [atomsD T cols row, .tuple []]
  | n + 1, row => .tuple [atomsD T cols row, .tuple (unlikes (sortD (T.items.map fun i => kindD T cols n (row ++ [i]))))]
def atomsS : Shp := .three (.row .int) (.row (.row .int)) (.row (.row (.row .int)))
def kindS : Nat → Shp
  | 0 => .two atomsS (.row .int)
  | n + 1 => .two atomsS (.row (kindS n))
theorem like_rowI (ns : List Int) : Like (.row .int) (rowI ns) := ⟨_, rfl, fun e he => by
  obtain ⟨n, _, rfl⟩ := List.mem_map.mp he
  exact ⟨n, rfl⟩⟩
theorem like_map {s : Shp} {α : Type} (l : List α) {f : α → PyData} (h : ∀ x ∈ l, Like s (f x)) : Like (.row s) (.tuple (l.map f)) := ⟨_, rfl, fun e he => by
  obtain ⟨n, hn, rfl⟩ := List.mem_map.mp he
  exact h n hn⟩
theorem like_atoms (T : Tab) (cols : Nat) (row : List Int) : Like atomsS (atomsD T cols row) :=
  ⟨_, _, _, rfl, like_rowI _, like_map row fun i _ => like_rowI _, like_map _ fun c _ => like_map row fun i _ => like_rowI _⟩
theorem unlikes_mem {ds : List PyData} {d : PyData} (h : d ∈ unlikes ds) : d ∈ ds := by
  obtain ⟨k, _, hk⟩ := List.mem_filterMap.mp h
  split at hk
  · exact List.mem_of_getElem? hk
  · cases hk
theorem like_kind (T : Tab) (cols : Nat) : ∀ (n : Nat) (row : List Int), Like (kindS n) (kindD T cols n row)
  | 0, row => ⟨_, _, rfl, like_atoms T cols row, [], rfl, fun e he => by cases he⟩
  | n + 1, row => ⟨_, _, rfl, like_atoms T cols row, _, rfl, fun e he => by
    have h := (sortD_perm _).mem_iff.mp (unlikes_mem he)
    obtain ⟨i, _, rfl⟩ := List.mem_map.mp h
    exact like_kind T cols n _⟩
theorem dep_atoms : atomsS.dep = 4 := rfl
theorem dep_kind : ∀ n, (kindS n).dep ≤ 2 * n + 5
  | 0 => by decide
  | n + 1 => by
    have := dep_kind n
    show max atomsS.dep ((kindS n).dep + 1) + 1 ≤ _
    rw [dep_atoms]
    omega
/-! renamed -/
def hat (f : Int → Int) (e : Int) : Int := if e = -1 then -1 else f e
structure Renames (f : Int → Int) (T T' : Tab) : Prop where
  perm : T'.items.Perm (T.items.map f)
  inj : ∀ x ∈ T.items, ∀ y ∈ T.items, f x = f y → x = y
  pos : ∀ x ∈ T.items, f x ≠ -1
  neg : (-1 : Int) ∉ T.items
  bits : ∀ x ∈ T.items, T'.bits (f x) = T.bits x
  ends : ∀ x ∈ T.items, T'.ends (f x) = (T.ends x).map (hat f)
  endsIn : ∀ x ∈ T.items, ∀ e ∈ T.ends x, e = -1 ∨ e ∈ T.items
section
variable {f : Int → Int} {T T' : Tab}
theorem idx_map {xs : List Int} (inj : ∀ x ∈ xs, ∀ y ∈ xs, f x = f y → x = y) {i : Int} (hi : i ∈ xs) : ∀ {row : List Int}, (∀ x ∈ row, x ∈ xs) → (row.map f).idxOf (f i) = row.idxOf i
  | [], _ => rfl
  | x :: r, h => by
    have ih := idx_map inj hi (row := r) fun y hy => h y (List.mem_cons_of_mem _ hy)
    rw [List.map_cons, List.idxOf_cons, List.idxOf_cons, ih]
    by_cases e : x = i
    · rw [e]
      simp
    · have ne : ¬ f x = f i := fun q => e (inj x (h x (List.mem_cons_self ..)) i hi q)
      rw [beq_false_of_ne e, beq_false_of_ne ne]
theorem Renames.fwd (R : Renames f T T') {c : Nat} {x : Int} (hx : x ∈ T.items) : T'.fwd c (f x) = hat f (T.fwd c x) := by
  unfold Tab.fwd
  rw [R.ends x hx, List.getElem?_map]
  cases (T.ends x)[2 * c]? with
  | none => rfl
  | some e => rfl
theorem Renames.fwdIn (R : Renames f T T') {c : Nat} {x : Int} (hx : x ∈ T.items) : T.fwd c x = -1 ∨ T.fwd c x ∈ T.items := by
  unfold Tab.fwd
  cases e : (T.ends x)[2 * c]? with
  | none => exact .inl rfl
  | some y => exact R.endsIn x hx y (List.mem_of_getElem? e)
theorem Renames.places (R : Renames f T T') {row : List Int} (h : ∀ x ∈ row, x ∈ T.items) {e : Int} (he : e = -1 ∨ e ∈ T.items) : placesI (row.map f) (hat f e) = placesI row e := by
  unfold placesI
  rw [List.length_map]
  refine congrArg (List.map _) (List.filter_congr fun k hk => ?_)
  rw [List.getElem?_map]
  have hk := List.mem_range.mp hk
  rw [List.getElem?_eq_getElem hk]
  have hm := h _ (List.getElem_mem hk)
  refine decide_eq_decide.mpr ⟨fun q => ?_, fun q => ?_⟩
  · injection q with q
    rcases he with rfl | he
    · exact absurd q (R.pos _ hm)
    · have ne : e ≠ -1 := fun z => R.neg (by rw [← z]; exact he)
      unfold hat at q
      rw [if_neg ne] at q
      rw [R.inj _ hm _ he q]
  · injection q with q
    rcases he with rfl | he
    · exact absurd (by rw [← q]; exact hm) R.neg
    · have ne : e ≠ -1 := fun z => R.neg (by rw [← z]; exact he)
      unfold hat
      rw [if_neg ne, q]
      rfl
theorem Renames.atoms (R : Renames f T T') (cols : Nat) {row : List Int} (h : ∀ x ∈ row, x ∈ T.items) : atomsD T' cols (row.map f) = atomsD T cols row := by
  have e1 : (row.map f).map (firstI (row.map f)) = row.map (firstI row) := by
    rw [List.map_map]
    refine List.map_congr_left fun i hi => ?_
    show (((row.map f).idxOf (f i) : Nat) : Int) = ((row.idxOf i : Nat) : Int)
    rw [idx_map R.inj (h i hi) h]
  have e2 : (row.map f).map (fun i => rowI (T'.bits i)) = row.map fun i => rowI (T.bits i) := by
    rw [List.map_map]
    refine List.map_congr_left fun i hi => ?_
    show rowI (T'.bits (f i)) = rowI (T.bits i)
    rw [R.bits i (h i hi)]
  have e3 : ∀ c : Nat, (row.map f).map (fun i => rowI (placesI (row.map f) (T'.fwd c i))) = row.map fun i => rowI (placesI row (T.fwd c i)) := fun c => by
    rw [List.map_map]
    refine List.map_congr_left fun i hi => ?_
    show rowI (placesI (row.map f) (T'.fwd c (f i))) = rowI (placesI row (T.fwd c i))
    rw [R.fwd (h i hi), R.places h (R.fwdIn (h i hi))]
  unfold atomsD
  rw [e1, e2]
  simp only [e3]
theorem Renames.kind (R : Renames f T T') (cols : Nat) : ∀ (n : Nat) {row : List Int}, (∀ x ∈ row, x ∈ T.items) → kindD T' cols n (row.map f) = kindD T cols n row
  | 0, row, h => by
    simp only [kindD]
    rw [R.atoms cols h]
  | n + 1, row, h => by
    simp only [kindD]
    rw [R.atoms cols h]
    have e : sortD (T'.items.map fun i => kindD T' cols n (row.map f ++ [i])) = sortD (T.items.map fun i => kindD T cols n (row ++ [i])) := by
      have p := R.perm.map fun i => kindD T' cols n (row.map f ++ [i])
      rw [List.map_map] at p
      have q : (T.items.map ((fun i => kindD T' cols n (row.map f ++ [i])) ∘ f)) = T.items.map fun i => kindD T cols n (row ++ [i]) := List.map_congr_left fun i hi => by
        show kindD T' cols n (row.map f ++ [f i]) = _
        have z := R.kind cols n (row := row ++ [i]) fun x hx => by
          rcases List.mem_append.mp hx with hx | hx
          · exact h x hx
          · rw [List.mem_singleton.mp hx]; exact hi
        rw [List.map_append] at z
        exact z
      rw [q] at p
      exact sortD_same (s := kindS n) p fun d hd => by
        obtain ⟨i, _, rfl⟩ := List.mem_map.mp hd
        exact like_kind T cols n _
    rw [e]
end
/-! kinds part where atoms part -/
theorem kind_parts {T T' : Tab} {cols cols' : Nat} : ∀ {n : Nat} {row row' : List Int}, atomsD T cols row ≠ atomsD T' cols' row' → kindD T cols n row ≠ kindD T' cols' n row'
  | 0, _, _, h, e => by
    simp only [kindD, PyData.tuple.injEq, List.cons.injEq] at e
    exact h e.1
  | _ + 1, _, _, h, e => by
    simp only [kindD, PyData.tuple.injEq, List.cons.injEq] at e
    exact h e.1
end DQ

set_option Elab.async false
set_option linter.all false
set_option maxRecDepth 100000
set_option maxHeartbeats 1000000
namespace DQ
open PySem PySem.Spec PyProof.Rows L2
/-! ### edits -/
/-- two facts are one or not -/
def sameFact : (x y : Fact) → Decidable (x = y)
  | .mark m i, .mark n j => decidable_of_iff (m = n ∧ i = j) ⟨fun h => by rw [h.1, h.2], fun h => by injection h with a b; exact ⟨a, b⟩⟩
  | .link c a b, .link d e f => decidable_of_iff (c = d ∧ a = e ∧ b = f) ⟨fun h => by rw [h.1, h.2.1, h.2.2], fun h => by injection h with p q r; exact ⟨p, q, r⟩⟩
  | .mark _ _, .link _ _ _ => .isFalse fun h => by cases h
  | .link _ _ _, .mark _ _ => .isFalse fun h => by cases h
instance : DecidableEq Fact := sameFact
inductive Edit where
  | put (x : Fact)
  | take (x : Fact)
  | add (i : Int)
  | drop (i : Int)
def Edit.word : Edit → Str
  | .put _ => "put"
  | .take _ => "take"
  | .add _ => "add"
  | .drop _ => "drop"
def Edit.back : Edit → Edit
  | .put x => .take x
  | .take x => .put x
  | .add i => .drop i
  | .drop i => .add i
def sortI (ns : List Int) : List Int := ns.mergeSort fun a b => decide (a ≤ b)
def ofB (S : Store) : Fact → Bool
  | .mark m i => decide (m ∈ S.marks) && decide (i ∈ S.items)
  | .link c a b => decide (c ∈ S.columns) && (decide (a ∈ S.items) && decide (b ∈ S.items))
def leads (x y : Fact) : Bool := match x, y with
  | .link c a b, .link c' a' b' => decide (c' = c) && (decide (a' = a) || decide (b' = b))
  | _, _ => false
def ledB (fs : List Fact) (x : Fact) : Bool := fs.any fun y => leads x y
def hasI (fs : List Fact) (i : Int) : Bool := fs.any fun y => decide (i ∈ y.nums)
/-- the store behind an edit, if it can be made -/
def step (S : Store) : Edit → Option Store
  | .put x => if (ofB S x && !decide (x ∈ S.facts) && !ledB S.facts x) = true then some { S with facts := sortF (S.facts ++ [x]) } else none
  | .take x => if x ∈ S.facts then some { S with facts := S.facts.filter fun y => decide (y ≠ x) } else none
  | .add i => if i ∈ S.items then none else some { S with items := sortI (S.items ++ [i]) }
  | .drop i => if (decide (i ∈ S.items) && !hasI S.facts i) = true then some { S with items := S.items.filter fun y => decide (y ≠ i) } else none
theorem ofB_iff {S : Store} {x : Fact} : ofB S x = true ↔ x.of S := by
  cases x <;> simp [ofB, Fact.of]
/-! sorted lists -/
theorem dlt_asym {x y : PyData} (h : PySem.W.dataLt x y = true) : PySem.W.dataLt y x = false := by
  cases q : PySem.W.dataLt y x with
  | false => rfl
  | true => exact absurd (lex_trans _ _ _ h q) (by rw [lex_irrefl]; decide)
theorem rise_eq {l m : List Fact} (p : l.Perm m) (hl : l.Pairwise fun x y => PySem.W.dataLt x.d y.d = true) (hm : m.Pairwise fun x y => PySem.W.dataLt x.d y.d = true) : l = m :=
  List.Perm.eq_of_pairwise (le := fun x y : Fact => PySem.W.dataLt x.d y.d = true) (fun a b _ _ h1 h2 => absurd h2 (by rw [dlt_asym h1]; decide)) hl hm p
theorem rise_nodup {l : List Fact} (hl : l.Pairwise fun x y => PySem.W.dataLt x.d y.d = true) : l.Nodup := hl.imp fun {a b} h e => by
  rw [e] at h
  exact absurd h (by rw [dlt_asym h]; decide)
theorem sortF_perm (fs : List Fact) : (sortF fs).Perm fs := List.mergeSort_perm _ _
theorem sortF_rise {fs : List Fact} (nd : fs.Nodup) : (sortF fs).Pairwise fun x y => PySem.W.dataLt x.d y.d = true := by
  have e : ((fs.map fun f => (V.non, f)).map (·.2)) = fs := by rw [List.map_map]; exact List.map_id _
  have z := sorted_rise (zs := fs.map fun f => (V.non, f)) (by rw [e]; exact nd)
  rwa [sort_map, e] at z
theorem sortF_id {fs : List Fact} (h : fs.Pairwise fun x y => PySem.W.dataLt x.d y.d = true) : sortF fs = fs := rise_eq (sortF_perm fs) (sortF_rise (rise_nodup h)) h
theorem sortI_perm (ns : List Int) : (sortI ns).Perm ns := List.mergeSort_perm _ _
theorem sortI_le (ns : List Int) : (sortI ns).Pairwise (· ≤ ·) :=
  (List.pairwise_mergeSort (le := fun a b : Int => decide (a ≤ b)) (fun a b c h1 h2 => decide_eq_true (Int.le_trans (of_decide_eq_true h1) (of_decide_eq_true h2))) (fun a b => by
    rcases Int.le_total a b with h | h
    · rw [decide_eq_true h]; rfl
    · rw [decide_eq_true h, Bool.or_true]) ns).imp fun h => of_decide_eq_true h
theorem sortI_of {ns ms : List Int} (p : ms.Perm ns) (h : ms.Pairwise (· ≤ ·)) : ms = sortI ns :=
  List.Perm.eq_of_pairwise (le := fun x y : Int => x ≤ y) (fun _ _ _ _ h1 h2 => Int.le_antisymm h1 h2) h (sortI_le ns) (p.trans (sortI_perm ns).symm)
theorem sortI_id {ns : List Int} (h : ns.Pairwise (· < ·)) : sortI ns = ns := (sortI_of (List.Perm.refl _) (h.imp fun h => Int.le_of_lt h)).symm
theorem sortI_lt {ns : List Int} (nd : ns.Nodup) : (sortI ns).Pairwise (· < ·) :=
  (List.pairwise_and_iff.mpr ⟨sortI_le ns, (sortI_perm ns).nodup_iff.mpr nd⟩).imp fun {a b} h => by have h1 := h.1; have h2 := h.2; omega
theorem lt_eq {l m : List Int} (p : l.Perm m) (hl : l.Pairwise (· < ·)) (hm : m.Pairwise (· < ·)) : l = m :=
  List.Perm.eq_of_pairwise (le := fun x y : Int => x < y) (fun a b _ _ h1 h2 => absurd h2 (by omega)) hl hm p
/-! few facts -/
def Fact.key : Fact → Str × Int
  | .mark m i => (m, i)
  | .link c a _ => (c, a)
theorem no_both {m : Nat} {S : Store} (D : Drawn m S) {x : Str} (h1 : x ∈ S.marks) (h2 : x ∈ S.columns) : False := by
  obtain ⟨b, k, hb, _, ek⟩ := D.marks
  obtain ⟨j, _, _, ej⟩ := D.columns
  rw [ek] at h1
  rw [ej] at h2
  have h1 := List.mem_of_mem_take h1
  have h2 := List.mem_of_mem_take h2
  simp only [markLists, List.mem_cons, List.not_mem_nil, or_false] at hb h2
  rcases hb with rfl | rfl
  · simp only [List.mem_cons, List.not_mem_nil, or_false] at h1
    rcases h1 with rfl | rfl | rfl <;> rcases h2 with h | h <;> revert h <;> decide +kernel
  · simp only [List.mem_cons, List.not_mem_nil, or_false] at h1
    rcases h1 with rfl | rfl <;> rcases h2 with h | h <;> revert h <;> decide +kernel
/-- a drawn store, whatever its number of facts -/
structure Drawn0 (m : Nat) (S : Store) : Prop where
  marks : ∃ b k, b ∈ markLists ∧ k ≤ 3 ∧ S.marks = List.take k b
  columns : ∃ k, 1 ≤ k ∧ k ≤ 2 ∧ S.columns = (["next", "below"] : List Str).take k
  items : Rising S.items
  few : S.items.length ≤ m
  rise : S.facts.Pairwise fun x y => PySem.W.dataLt x.d y.d = true
  facts : ∀ x ∈ S.facts, x.of S
  links : ∀ c, OneToOne S.items (linksOf c S.facts)
theorem no_both0 {m : Nat} {S : Store} (D : Drawn0 m S) {x : Str} (h1 : x ∈ S.marks) (h2 : x ∈ S.columns) : False := by
  obtain ⟨b, k, hb, _, ek⟩ := D.marks
  obtain ⟨j, _, _, ej⟩ := D.columns
  rw [ek] at h1
  rw [ej] at h2
  have h1 := List.mem_of_mem_take h1
  have h2 := List.mem_of_mem_take h2
  simp only [markLists, List.mem_cons, List.not_mem_nil, or_false] at hb h2
  rcases hb with rfl | rfl
  · simp only [List.mem_cons, List.not_mem_nil, or_false] at h1
    rcases h1 with rfl | rfl | rfl <;> rcases h2 with h | h <;> revert h <;> decide +kernel
  · simp only [List.mem_cons, List.not_mem_nil, or_false] at h1
    rcases h1 with rfl | rfl <;> rcases h2 with h | h <;> revert h <;> decide +kernel
theorem Drawn0.fewFacts {m : Nat} {S : Store} (D : Drawn0 m S) : S.facts.length ≤ 5 * m := by
  have lm : S.marks.length ≤ 3 := by
    obtain ⟨b, k, hb, hk, ek⟩ := D.marks
    rw [ek, List.length_take]
    omega
  have lc : S.columns.length ≤ 2 := by
    obtain ⟨k, _, _, ek⟩ := D.columns
    rw [ek, List.length_take]
    exact Nat.min_le_right _ _
  have nd : (S.facts.map Fact.key).Nodup := by
    refine List.pairwise_map.mpr ((List.pairwise_and_iff.mpr ⟨rise_nodup D.rise, List.pairwise_of_forall_mem_list fun a ha b hb => (⟨ha, hb⟩ : a ∈ S.facts ∧ b ∈ S.facts)⟩).imp fun {x y} h e => ?_)
    obtain ⟨ne, hx, hy⟩ := h
    have ox := D.facts x hx
    have oy := D.facts y hy
    cases x with
    | mark p i =>
      cases y with
      | mark q j =>
        injection e with e1 e2
        exact ne (by rw [e1, e2])
      | link c a b =>
        injection e with e1 e2
        rw [← e1] at oy
        exact no_both0 D ox.1 oy.1
    | link c a b =>
      cases y with
      | mark q j =>
        injection e with e1 e2
        rw [e1] at ox
        exact no_both0 D oy.1 ox.1
      | link c' a' b' =>
        injection e with e1 e2
        subst e1 e2
        exact ne (by rw [one_place (D.links c).1 (mem_links hx) (mem_links hy)])
  have sub : ∀ k ∈ S.facts.map Fact.key, k ∈ (S.marks ++ S.columns).flatMap fun w => S.items.map fun i => (w, i) := fun k hk => by
    obtain ⟨x, hx, rfl⟩ := List.mem_map.mp hk
    have ox := D.facts x hx
    refine List.mem_flatMap.mpr ?_
    cases x with
    | mark p i => exact ⟨p, List.mem_append_left _ ox.1, List.mem_map.mpr ⟨i, ox.2, rfl⟩⟩
    | link c a b => exact ⟨c, List.mem_append_right _ ox.1, List.mem_map.mpr ⟨a, ox.2.1, rfl⟩⟩
  have l := nd.length_le_of_subset sub
  rw [List.length_map, List.length_flatMap] at l
  have e : ((S.marks ++ S.columns).map fun w => (S.items.map fun i => (w, i)).length).sum = (S.marks ++ S.columns).length * S.items.length := by
    generalize S.marks ++ S.columns = ws
    induction ws with
    | nil => simp
    | cons w r ih => rw [List.map_cons, List.sum_cons, ih, List.length_map, List.length_cons, Nat.add_mul, Nat.one_mul, Nat.add_comm]
  rw [e, List.length_append] at l
  have := Nat.mul_le_mul (show S.marks.length + S.columns.length ≤ 5 by omega) D.few
  omega
theorem Drawn0.full {m : Nat} {S : Store} (D : Drawn0 m S) (hm : m ≤ 200) : Drawn m S := ⟨D.marks, D.columns, D.items, D.few, by have := D.fewFacts; omega, D.rise, D.facts, D.links⟩
theorem Drawn.zero {m : Nat} {S : Store} (D : Drawn m S) : Drawn0 m S := ⟨D.marks, D.columns, D.items, D.few, D.rise, D.facts, D.links⟩
end DQ

set_option Elab.async false
set_option linter.all false
set_option maxRecDepth 100000
set_option maxHeartbeats 1000000
namespace DQ
open PySem PySem.Spec PyProof.Rows L2
theorem mem_links_inv {c : Str} {fs : List Fact} {a b : Int} (h : (a, b) ∈ linksOf c fs) : Fact.link c a b ∈ fs := by
  obtain ⟨x, hx, e⟩ := List.mem_filterMap.mp h
  cases x with
  | mark m i => cases e
  | link c' p q =>
    by_cases ec : c' = c
    · rw [show Fact.on c (.link c' p q) = some (p, q) from if_pos ec] at e
      cases e
      rw [← ec]
      exact hx
    · rw [show Fact.on c (.link c' p q) = none from if_neg ec] at e
      cases e
theorem led_no {fs : List Fact} {x : Fact} (h : ledB fs x = false) : ∀ y ∈ fs, leads x y = false := fun y hy => by
  cases e : leads x y with
  | false => rfl
  | true => exact absurd (List.any_eq_true.mpr ⟨y, hy, e⟩) (by rw [show fs.any (fun y => leads x y) = false from h]; decide)
theorem led_of {fs : List Fact} {x : Fact} (h : ∀ y ∈ fs, leads x y = false) : ledB fs x = false := by
  cases e : ledB fs x with
  | false => rfl
  | true =>
    obtain ⟨y, hy, z⟩ := List.any_eq_true.mp (show fs.any (fun y => leads x y) = true from e)
    rw [h y hy] at z
    cases z
theorem links_one {c : Str} {x : Fact} : linksOf c [x] = match Fact.on c x with | some p => [p] | none => [] := by
  unfold linksOf
  rw [List.filterMap_cons]
  cases Fact.on c x <;> rfl
theorem oneToOne_put {S : Store} {x : Fact} (ox : x.of S) (nl : ∀ y ∈ S.facts, leads x y = false) (oo : ∀ c, OneToOne S.items (linksOf c S.facts)) : ∀ c, OneToOne S.items (linksOf c (S.facts ++ [x])) := fun c => by
  rw [links_append, links_one]
  cases x with
  | mark m i => rw [show Fact.on c (.mark m i) = none from rfl, List.append_nil]; exact oo c
  | link c' a b =>
    by_cases ec : c' = c
    · subst ec
      rw [show Fact.on c' (.link c' a b) = some (a, b) from if_pos rfl]
      have n : ∀ p ∈ linksOf c' S.facts, p.1 ≠ a ∧ p.2 ≠ b := fun p hp => by
        have z := nl _ (mem_links_inv (a := p.1) (b := p.2) hp)
        simp only [leads, decide_true, Bool.true_and, Bool.or_eq_false_iff, decide_eq_false_iff_not] at z
        exact z
      refine ⟨?_, ?_, fun p hp => ?_⟩
      · rw [List.map_append]
        refine List.nodup_append.mpr ⟨(oo c').1, (by simp), fun y hy z hz e => ?_⟩
        obtain ⟨p, hp, rfl⟩ := List.mem_map.mp hy
        simp only [List.map_cons, List.map_nil, List.mem_singleton] at hz
        exact (n p hp).1 (e.trans hz)
      · rw [List.map_append]
        refine List.nodup_append.mpr ⟨(oo c').2.1, (by simp), fun y hy z hz e => ?_⟩
        obtain ⟨p, hp, rfl⟩ := List.mem_map.mp hy
        simp only [List.map_cons, List.map_nil, List.mem_singleton] at hz
        exact (n p hp).2 (e.trans hz)
      · rcases List.mem_append.mp hp with h | h
        · exact (oo c').2.2 p h
        · rw [List.mem_singleton] at h
          rw [h]
          exact ox.2
    · rw [show Fact.on c (.link c' a b) = none from if_neg ec, List.append_nil]
      exact oo c
/-- the same facts of other items -/
theorem of_items {S : Store} {ns : List Int} {fs : List Fact} {x : Fact} (h : x.of S) (hn : ∀ i ∈ x.nums, i ∈ ns) : x.of ⟨S.marks, S.columns, ns, fs⟩ := by
  cases x with
  | mark m i => exact ⟨h.1, hn i (by simp [Fact.nums])⟩
  | link c a b => exact ⟨h.1, hn a (by simp [Fact.nums]), hn b (by simp [Fact.nums])⟩
theorem oneToOne_items {ns ms : List Int} {ps : List (Int × Int)} (h : OneToOne ns ps) (hn : ∀ p ∈ ps, p.1 ∈ ms ∧ p.2 ∈ ms) : OneToOne ms ps := ⟨h.1, h.2.1, hn⟩
theorem put_iff {S S' : Store} {x : Fact} (h : step S (.put x) = some S') : x.of S ∧ x ∉ S.facts ∧ (∀ y ∈ S.facts, leads x y = false) ∧ S' = { S with facts := sortF (S.facts ++ [x]) } := by
  simp only [step] at h
  split at h
  case isTrue c =>
    simp only [Bool.and_eq_true, Bool.not_eq_true', decide_eq_false_iff_not] at c
    exact ⟨ofB_iff.mp c.1.1, c.1.2, led_no c.2, (Option.some.inj h).symm⟩
  case isFalse => cases h
theorem hasI_no {fs : List Fact} {i : Int} (h : hasI fs i = false) : ∀ y ∈ fs, i ∉ y.nums := fun y hy hi => by
  have z : hasI fs i = true := List.any_eq_true.mpr ⟨y, hy, decide_eq_true hi⟩
  rw [z] at h
  cases h
theorem step_drawn {m : Nat} (hm : m ≤ 150) {S S' : Store} (D : Drawn m S) {e : Edit} (h : step S e = some S') (ha : ∀ i, e = .add i → 0 ≤ i ∧ i ≤ 1000000000) : Drawn (m + 1) S' := by
  have few := D.few
  refine Drawn0.full (m := m + 1) ?_ (by omega)
  cases e with
  | put x =>
    obtain ⟨ox, nx, nl, rfl⟩ := put_iff h
    have nd : (S.facts ++ [x]).Nodup := List.nodup_append.mpr ⟨rise_nodup D.rise, (by simp), fun y hy z hz e => by
      rw [List.mem_singleton] at hz
      exact nx (by rw [← hz, ← e]; exact hy)⟩
    refine ⟨D.marks, D.columns, D.items, by show S.items.length ≤ m + 1; omega, sortF_rise nd, fun y hy => ?_, fun c => (oneToOne_put ox nl D.links c).perm (links_perm (sortF_perm _))⟩
    have z := (sortF_perm _).subset hy
    rcases List.mem_append.mp z with z | z
    · exact of_items (D.facts y z) (nums_in (D.facts y z))
    · rw [List.mem_singleton] at z
      rw [z]
      exact of_items ox (nums_in ox)
  | take x =>
    simp only [step] at h
    split at h
    case isTrue c =>
      cases h
      refine ⟨D.marks, D.columns, D.items, by show S.items.length ≤ m + 1; omega, D.rise.sublist List.filter_sublist, fun y hy => ?_, fun c => (D.links c).sub (List.Sublist.filterMap _ List.filter_sublist)⟩
      have z := (List.mem_filter.mp hy).1
      exact of_items (D.facts y z) (nums_in (D.facts y z))
    case isFalse => cases h
  | add i =>
    simp only [step] at h
    split at h
    case isTrue => cases h
    case isFalse c =>
      cases h
      have bd := ha i rfl
      have nd : (S.items ++ [i]).Nodup := List.nodup_append.mpr ⟨D.items.nodup, (by simp), fun y hy z hz e => by
        rw [List.mem_singleton] at hz
        exact c (by rw [← hz, ← e]; exact hy)⟩
      have sub : ∀ y ∈ S.items, y ∈ sortI (S.items ++ [i]) := fun y hy => (sortI_perm _).symm.subset (List.mem_append_left _ hy)
      refine ⟨D.marks, D.columns, ⟨sortI_lt nd, fun y hy => ?_⟩, ?_, D.rise, fun y hy => of_items (D.facts y hy) fun j hj => sub j (nums_in (D.facts y hy) j hj), fun c => oneToOne_items (D.links c) fun p hp => ⟨sub _ ((D.links c).2.2 p hp).1, sub _ ((D.links c).2.2 p hp).2⟩⟩
      · rcases List.mem_append.mp ((sortI_perm _).subset hy) with z | z
        · exact D.items.2 y z
        · rw [List.mem_singleton] at z
          rw [z]
          exact bd
      · show (sortI _).length ≤ m + 1
        rw [(sortI_perm _).length_eq, List.length_append, List.length_singleton]
        omega
  | drop i =>
    simp only [step] at h
    split at h
    case isTrue c =>
      cases h
      simp only [Bool.and_eq_true, decide_eq_true_eq, Bool.not_eq_true'] at c
      have no := hasI_no c.2
      have sub : ∀ y ∈ S.facts, ∀ j ∈ y.nums, j ∈ S.items.filter fun z => decide (z ≠ i) := fun y hy j hj => List.mem_filter.mpr ⟨nums_in (D.facts y hy) j hj, decide_eq_true fun e => no y hy (by rw [← e]; exact hj)⟩
      refine ⟨D.marks, D.columns, ⟨D.items.1.sublist List.filter_sublist, fun y hy => D.items.2 y (List.mem_filter.mp hy).1⟩, Nat.le_trans (List.length_filter_le _ _) (by omega), D.rise, fun y hy => of_items (D.facts y hy) (sub y hy), fun c => oneToOne_items (D.links c) fun p hp => ?_⟩
      have z := mem_links_inv (a := p.1) (b := p.2) hp
      exact ⟨sub _ z p.1 (by simp [Fact.nums]), sub _ z p.2 (by simp [Fact.nums])⟩
    case isFalse => cases h
theorem filter_all {α : Type} {p : α → Bool} {l : List α} (h : ∀ x ∈ l, p x = true) : l.filter p = l := List.filter_eq_self.mpr h
theorem leads_eq {ns : List Int} {fs : List Fact} (oo : ∀ c, OneToOne ns (linksOf c fs)) {x y : Fact} (hx : x ∈ fs) (hy : y ∈ fs) (h : leads x y = true) : y = x := by
  cases x with
  | mark p i => cases y <;> cases h
  | link c a b =>
    cases y with
    | mark p i => cases h
    | link c' a' b' =>
      simp only [leads, Bool.and_eq_true, decide_eq_true_eq, Bool.or_eq_true] at h
      obtain ⟨rfl, q⟩ := h
      rcases q with rfl | rfl
      · rw [one_place (oo c').1 (mem_links hy) (mem_links hx)]
      · rw [one_place2 (oo c').2.1 (mem_links hy) (mem_links hx)]
theorem step_back {m : Nat} {S S' : Store} (D : Drawn m S) {e : Edit} (h : step S e = some S') : step S' e.back = some S := by
  cases e with
  | put x =>
    obtain ⟨ox, nx, nl, rfl⟩ := put_iff h
    have nd : (S.facts ++ [x]).Nodup := List.nodup_append.mpr ⟨rise_nodup D.rise, (by simp), fun y hy z hz e => by
      rw [List.mem_singleton] at hz
      exact nx (by rw [← hz, ← e]; exact hy)⟩
    show (if x ∈ sortF (S.facts ++ [x]) then some { S with facts := (sortF (S.facts ++ [x])).filter fun y => decide (y ≠ x) } else none) = some S
    rw [if_pos ((sortF_perm _).symm.subset (List.mem_append_right _ (List.mem_singleton.mpr rfl)))]
    have e : (sortF (S.facts ++ [x])).filter (fun y => decide (y ≠ x)) = S.facts := by
      refine rise_eq ?_ ((sortF_rise nd).sublist List.filter_sublist) D.rise
      refine ((sortF_perm _).filter _).trans ?_
      have fa : S.facts.filter (fun y => decide (y ≠ x)) = S.facts := filter_all fun y hy => decide_eq_true fun e => nx (by rw [← e]; exact hy)
      rw [List.filter_append, fa]
      simp
    rw [e]
  | take x =>
    simp only [step] at h
    split at h
    case isTrue c =>
      cases h
      show (if (ofB _ x && !decide (x ∈ _) && !ledB _ x) = true then some _ else none) = some S
      have ox := D.facts x c
      have o2 : ofB { S with facts := S.facts.filter fun y => decide (y ≠ x) } x = true := ofB_iff.mpr (of_items ox (nums_in ox))
      have n2 : decide (x ∈ S.facts.filter fun y => decide (y ≠ x)) = false := decide_eq_false fun z => absurd (List.mem_filter.mp z).2 (by simp)
      have nc := noClash_of D.links
      have l2 : ledB (S.facts.filter fun y => decide (y ≠ x)) x = false := led_of fun y hy => by
        obtain ⟨y1, y2⟩ := List.mem_filter.mp hy
        have ne : y ≠ x := of_decide_eq_true y2
        cases q : leads x y with
        | false => rfl
        | true => exact absurd (leads_eq D.links c y1 q) ne
      rw [o2, n2, l2]
      show some { S with facts := sortF (S.facts.filter (fun y => decide (y ≠ x)) ++ [x]) } = some S
      have nd := rise_nodup D.rise
      have pm : (S.facts.filter (fun y => decide (y ≠ x)) ++ [x]).Perm S.facts := by
        refine (List.perm_append_comm).trans ?_
        refine ((List.perm_ext_iff_of_nodup ?_ nd).mpr fun y => ?_)
        · refine List.nodup_cons.mpr ⟨fun z => absurd (List.mem_filter.mp z).2 (by simp), nd.sublist List.filter_sublist⟩
        · rw [List.singleton_append, List.mem_cons, List.mem_filter]
          constructor
          · rintro (rfl | h)
            · exact c
            · exact h.1
          · intro hy
            by_cases e : y = x
            · exact .inl e
            · exact .inr ⟨hy, decide_eq_true e⟩
      rw [rise_eq ((sortF_perm _).trans pm) (sortF_rise (pm.symm.nodup_iff.mp nd)) D.rise]
    case isFalse => cases h
  | add i =>
    simp only [step] at h
    split at h
    case isTrue => cases h
    case isFalse c =>
      cases h
      have nd : (S.items ++ [i]).Nodup := List.nodup_append.mpr ⟨D.items.nodup, (by simp), fun y hy z hz e => by
        rw [List.mem_singleton] at hz
        exact c (by rw [← hz, ← e]; exact hy)⟩
      show (if (decide (i ∈ sortI (S.items ++ [i])) && !hasI S.facts i) = true then some { S with items := (sortI (S.items ++ [i])).filter fun y => decide (y ≠ i) } else none) = some S
      have h1 : decide (i ∈ sortI (S.items ++ [i])) = true := decide_eq_true ((sortI_perm _).symm.subset (List.mem_append_right _ (List.mem_singleton.mpr rfl)))
      have h2 : hasI S.facts i = false := by
        cases q : hasI S.facts i with
        | false => rfl
        | true =>
          obtain ⟨y, hy, z⟩ := List.any_eq_true.mp (show S.facts.any (fun y => decide (i ∈ y.nums)) = true from q)
          exact absurd (nums_in (D.facts y hy) i (of_decide_eq_true z)) c
      rw [h1, h2]
      have e : (sortI (S.items ++ [i])).filter (fun y => decide (y ≠ i)) = S.items := by
        refine lt_eq ?_ ((sortI_lt nd).sublist List.filter_sublist) D.items.1
        refine ((sortI_perm _).filter _).trans ?_
        have fa : S.items.filter (fun y => decide (y ≠ i)) = S.items := filter_all fun y hy => decide_eq_true fun e => c (by rw [← e]; exact hy)
        rw [List.filter_append, fa]
        simp
      show some { S with items := (sortI (S.items ++ [i])).filter fun y => decide (y ≠ i) } = some S
      rw [e]
  | drop i =>
    simp only [step] at h
    split at h
    case isTrue c =>
      cases h
      simp only [Bool.and_eq_true, decide_eq_true_eq, Bool.not_eq_true'] at c
      show (if i ∈ S.items.filter (fun y => decide (y ≠ i)) then none else some { S with items := sortI (S.items.filter (fun y => decide (y ≠ i)) ++ [i]) }) = some S
      rw [if_neg (fun z => absurd (List.mem_filter.mp z).2 (by simp))]
      have nd := D.items.nodup
      have pm : (S.items.filter (fun y => decide (y ≠ i)) ++ [i]).Perm S.items := by
        refine (List.perm_append_comm).trans ?_
        refine ((List.perm_ext_iff_of_nodup ?_ nd).mpr fun y => ?_)
        · refine List.nodup_cons.mpr ⟨fun z => absurd (List.mem_filter.mp z).2 (by simp), nd.sublist List.filter_sublist⟩
        · rw [List.singleton_append, List.mem_cons, List.mem_filter]
          constructor
          · rintro (rfl | h)
            · exact c.1
            · exact h.1
          · intro hy
            by_cases e : y = i
            · exact .inl e
            · exact .inr ⟨hy, decide_eq_true e⟩
      rw [lt_eq ((sortI_perm _).trans pm) (sortI_lt (pm.symm.nodup_iff.mp nd)) D.items.1]
    case isFalse => cases h
end DQ

set_option Elab.async false
set_option linter.all false
set_option maxRecDepth 100000
set_option maxHeartbeats 1000000
namespace DQ
open PySem PySem.Spec PyProof.Rows L2
/-! ### the table of a store -/
def markB (fs : List Fact) (m : Str) (i : Int) : Int := if Fact.mark m i ∈ fs then 1 else 0
def fwdOf (fs : List Fact) (c : Str) (i : Int) : Int := ((linksOf c fs).lookup i).getD (-1)
def bwdOf (fs : List Fact) (c : Str) (i : Int) : Int := (((linksOf c fs).map fun p => (p.2, p.1)).lookup i).getD (-1)
def bitsOf (ms : List Str) (fs : List Fact) (i : Int) : List Int := ms.map fun m => markB fs m i
def endsOf (cs : List Str) (fs : List Fact) (i : Int) : List Int := cs.flatMap fun c => [fwdOf fs c i, bwdOf fs c i]
def tabOf (S : Store) : Tab := ⟨S.items, bitsOf S.marks S.facts, endsOf S.columns S.facts⟩
theorem lookup_of {l : List (Int × Int)} (nd : (l.map (·.1)).Nodup) {a b : Int} (h : (a, b) ∈ l) : l.lookup a = some b := by
  induction l with
  | nil => cases h
  | cons p r ih =>
    obtain ⟨x, y⟩ := p
    rw [List.map_cons, List.nodup_cons] at nd
    rw [List.lookup_cons]
    by_cases e : a = x
    · subst e
      rcases List.mem_cons.mp h with h | h
      · injection h with _ h
        rw [h]
        simp
      · exact absurd (List.mem_map.mpr ⟨_, h, rfl⟩) nd.1
    · rw [beq_false_of_ne e]
      rcases List.mem_cons.mp h with h | h
      · injection h with h
        exact absurd h e
      · exact ih nd.2 h
theorem lookup_no {l : List (Int × Int)} {a : Int} (h : ∀ b, (a, b) ∉ l) : l.lookup a = none := by
  induction l with
  | nil => rfl
  | cons p r ih =>
    obtain ⟨x, y⟩ := p
    rw [List.lookup_cons]
    by_cases e : a = x
    · subst e
      exact absurd (List.mem_cons_self ..) (h y)
    · rw [beq_false_of_ne e]
      exact ih fun b hb => h b (List.mem_cons_of_mem _ hb)
section
variable {ns : List Int} {fs : List Fact} {c : Str} {a b : Int}
theorem fwd_some (o : OneToOne ns (linksOf c fs)) (h : Fact.link c a b ∈ fs) : fwdOf fs c a = b := by
  unfold fwdOf
  rw [lookup_of o.1 (mem_links h)]
  rfl
theorem fwd_none (h : ∀ b, Fact.link c a b ∉ fs) : fwdOf fs c a = -1 := by
  unfold fwdOf
  rw [lookup_no fun b hb => h b (mem_links_inv hb)]
  rfl
theorem bwd_some (o : OneToOne ns (linksOf c fs)) (h : Fact.link c a b ∈ fs) : bwdOf fs c b = a := by
  unfold bwdOf
  rw [lookup_of (by rw [List.map_map]; exact o.2.1) (List.mem_map.mpr ⟨_, mem_links h, rfl⟩)]
  rfl
theorem bwd_none (h : ∀ a, Fact.link c a b ∉ fs) : bwdOf fs c b = -1 := by
  unfold bwdOf
  rw [lookup_no fun a ha => by
    obtain ⟨p, hp, e⟩ := List.mem_map.mp ha
    obtain ⟨x, y⟩ := p
    injection e with e1 e2
    subst e1 e2
    exact h _ (mem_links_inv hp)]
  rfl
end
theorem fwd_cases {fs : List Fact} {c : Str} {a : Int} : (∃ b, Fact.link c a b ∈ fs) ∨ ∀ b, Fact.link c a b ∉ fs := by
  by_cases h : ∃ b, Fact.link c a b ∈ fs
  · exact .inl h
  · exact .inr fun b hb => h ⟨b, hb⟩
theorem bwd_cases {fs : List Fact} {c : Str} {b : Int} : (∃ a, Fact.link c a b ∈ fs) ∨ ∀ a, Fact.link c a b ∉ fs := by
  by_cases h : ∃ a, Fact.link c a b ∈ fs
  · exact .inl h
  · exact .inr fun a ha => h ⟨a, ha⟩
theorem ends_get {α : Type} {cs : List α} {g h : α → Int} : ∀ {k : Nat} {c : α}, cs[k]? = some c → (cs.flatMap fun c => [g c, h c])[2 * k]? = some (g c) ∧ (cs.flatMap fun c => [g c, h c])[2 * k + 1]? = some (h c) := by
  induction cs with
  | nil => intro k c e; simp at e
  | cons x r ih =>
    intro k c e
    rw [List.flatMap_cons]
    cases k with
    | zero =>
      simp only [List.getElem?_cons_zero, Option.some.injEq] at e
      subst e
      exact ⟨rfl, rfl⟩
    | succ k =>
      obtain ⟨h1, h2⟩ := ih (k := k) (c := c) (by simpa using e)
      exact ⟨by show (g x :: h x :: _)[2 * (k + 1)]? = _; rw [show 2 * (k + 1) = 2 * k + 1 + 1 by omega]; simpa using h1, by show (g x :: h x :: _)[2 * (k + 1) + 1]? = _; rw [show 2 * (k + 1) + 1 = 2 * k + 1 + 1 + 1 by omega]; simpa using h2⟩
theorem ends_len {α : Type} (cs : List α) (g h : α → Int) : (cs.flatMap fun c => [g c, h c]).length = 2 * cs.length := by
  induction cs with
  | nil => rfl
  | cons x r ih => rw [List.flatMap_cons, List.length_append, ih, List.length_cons]; simp; omega
theorem tab_fwd {S : Store} {k : Nat} {c : Str} (h : S.columns[k]? = some c) (i : Int) : (tabOf S).fwd k i = fwdOf S.facts c i := by
  unfold Tab.fwd
  show ((S.columns.flatMap fun c => [fwdOf S.facts c i, bwdOf S.facts c i])[2 * k]?).getD (-1) = _
  rw [(ends_get h).1]
  rfl
theorem flat_congr {α β : Type} {g h : α → List β} : ∀ {l : List α}, (∀ x ∈ l, g x = h x) → l.flatMap g = l.flatMap h
  | [], _ => rfl
  | x :: r, e => by rw [List.flatMap_cons, List.flatMap_cons, e x (List.mem_cons_self ..), flat_congr fun y hy => e y (List.mem_cons_of_mem _ hy)]
/-! renamed stores -/
def Fact.ren (f : Int → Int) : Fact → Fact
  | .mark m i => .mark m (f i)
  | .link c a b => .link c (f a) (f b)
def Store.ren (f : Int → Int) (S : Store) : Store := ⟨S.marks, S.columns, sortI (S.items.map f), sortF (S.facts.map (Fact.ren f))⟩
section
variable {f : Int → Int} {m : Nat} {S : Store}
theorem ren_inj (D : Drawn m S) (inj : ∀ x ∈ S.items, ∀ y ∈ S.items, f x = f y → x = y) {x y : Fact} (hx : x ∈ S.facts) (hy : y.of S) (e : x.ren f = y.ren f) : x = y := by
  have ox := D.facts x hx
  cases x with
  | mark m i =>
    cases y with
    | mark n j =>
      injection e with e1 e2
      rw [e1, inj i ox.2 j hy.2 e2]
    | link c a b => cases e
  | link c a b =>
    cases y with
    | mark n j => cases e
    | link c' a' b' =>
      injection e with e1 e2 e3
      rw [e1, inj a ox.2.1 a' hy.2.1 e2, inj b ox.2.2 b' hy.2.2 e3]
theorem ren_mem (D : Drawn m S) (inj : ∀ x ∈ S.items, ∀ y ∈ S.items, f x = f y → x = y) {y : Fact} (hy : y.of S) : y.ren f ∈ (S.ren f).facts ↔ y ∈ S.facts := by
  show y.ren f ∈ sortF (S.facts.map (Fact.ren f)) ↔ _
  rw [(sortF_perm _).mem_iff]
  constructor
  · intro h
    obtain ⟨x, hx, e⟩ := List.mem_map.mp h
    rw [← ren_inj D inj hx hy e]
    exact hx
  · intro h
    exact List.mem_map.mpr ⟨y, h, rfl⟩
theorem links_ren (c : Str) : ∀ fs : List Fact, linksOf c (fs.map (Fact.ren f)) = (linksOf c fs).map fun p => (f p.1, f p.2)
  | [] => rfl
  | x :: r => by
    have ih := links_ren c r
    unfold linksOf at ih ⊢
    rw [List.map_cons, List.filterMap_cons, List.filterMap_cons, ih]
    cases x with
    | mark m i => rfl
    | link d a b =>
      by_cases e : d = c
      · have e1 : Fact.on c (Fact.ren f (.link d a b)) = some (f a, f b) := if_pos e
        have e2 : Fact.on c (.link d a b) = some (a, b) := if_pos e
        rw [e1, e2]
        rfl
      · have e1 : Fact.on c (Fact.ren f (.link d a b)) = none := if_neg e
        have e2 : Fact.on c (.link d a b) = none := if_neg e
        rw [e1, e2]
theorem nodup_inj {α β : Type} {g : α → β} : ∀ {l : List α}, (∀ x ∈ l, ∀ y ∈ l, g x = g y → x = y) → l.Nodup → (l.map g).Nodup
  | [], _, _ => List.nodup_nil
  | x :: r, h, nd => by
    rw [List.map_cons, List.nodup_cons]
    rw [List.nodup_cons] at nd
    refine ⟨fun hm => ?_, nodup_inj (fun a ha b hb => h a (List.mem_cons_of_mem _ ha) b (List.mem_cons_of_mem _ hb)) nd.2⟩
    obtain ⟨y, hy, e⟩ := List.mem_map.mp hm
    rw [h y (List.mem_cons_of_mem _ hy) x (List.mem_cons_self ..) e] at hy
    exact nd.1 hy
theorem ren_items {x : Int} (hx : x ∈ S.items) : f x ∈ (S.ren f).items := (sortI_perm _).mem_iff.mpr (List.mem_map.mpr ⟨x, hx, rfl⟩)
theorem ren_drawn (D : Drawn m S) (inj : ∀ x ∈ S.items, ∀ y ∈ S.items, f x = f y → x = y) (bd : ∀ x ∈ S.items, 0 ≤ f x ∧ f x ≤ 1000000000) : Drawn m (S.ren f) := by
  have ndI := nodup_inj inj D.items.nodup
  have ndF : (S.facts.map (Fact.ren f)).Nodup := nodup_inj (fun x hx y hy e => ren_inj D inj hx (D.facts y hy) e) (rise_nodup D.rise)
  refine ⟨D.marks, D.columns, ⟨sortI_lt ndI, fun y hy => ?_⟩, ?_, ?_, sortF_rise ndF, fun y hy => ?_, fun c => ?_⟩
  · obtain ⟨x, hx, rfl⟩ := List.mem_map.mp ((sortI_perm _).mem_iff.mp hy)
    exact bd x hx
  · show (sortI (S.items.map f)).length ≤ m
    rw [(sortI_perm _).length_eq, List.length_map]
    exact D.few
  · show (sortF (S.facts.map (Fact.ren f))).length ≤ 10000
    rw [(sortF_perm _).length_eq, List.length_map]
    exact D.short
  · obtain ⟨x, hx, rfl⟩ := List.mem_map.mp ((sortF_perm _).mem_iff.mp hy)
    have ox := D.facts x hx
    cases x with
    | mark m i => exact ⟨ox.1, ren_items ox.2⟩
    | link c a b => exact ⟨ox.1, ren_items ox.2.1, ren_items ox.2.2⟩
  · have o := D.links c
    have z : OneToOne (S.ren f).items (linksOf c (S.facts.map (Fact.ren f))) := by
      rw [links_ren]
      refine ⟨?_, ?_, fun p hp => ?_⟩
      · have e : ((linksOf c S.facts).map fun p => (f p.1, f p.2)).map (·.1) = ((linksOf c S.facts).map (·.1)).map f := by rw [List.map_map, List.map_map]; rfl
        rw [e]
        refine nodup_inj (fun x hx y hy => ?_) o.1
        obtain ⟨p, hp, rfl⟩ := List.mem_map.mp hx
        obtain ⟨q, hq, rfl⟩ := List.mem_map.mp hy
        exact inj _ (o.2.2 p hp).1 _ (o.2.2 q hq).1
      · have e : ((linksOf c S.facts).map fun p => (f p.1, f p.2)).map (·.2) = ((linksOf c S.facts).map (·.2)).map f := by rw [List.map_map, List.map_map]; rfl
        rw [e]
        refine nodup_inj (fun x hx y hy => ?_) o.2.1
        obtain ⟨p, hp, rfl⟩ := List.mem_map.mp hx
        obtain ⟨q, hq, rfl⟩ := List.mem_map.mp hy
        exact inj _ (o.2.2 p hp).2 _ (o.2.2 q hq).2
      · obtain ⟨q, hq, rfl⟩ := List.mem_map.mp hp
        exact ⟨ren_items (o.2.2 q hq).1, ren_items (o.2.2 q hq).2⟩
    exact z.perm (links_perm (sortF_perm _))
theorem ren_tab (D : Drawn m S) (inj : ∀ x ∈ S.items, ∀ y ∈ S.items, f x = f y → x = y) (bd : ∀ x ∈ S.items, 0 ≤ f x ∧ f x ≤ 1000000000) : Renames f (tabOf S) (tabOf (S.ren f)) := by
  have D' := ren_drawn D inj bd
  have pos : ∀ x ∈ S.items, f x ≠ -1 := fun x hx => by have := bd x hx; omega
  have neg : (-1 : Int) ∉ S.items := fun h => by have := D.items.2 _ h; omega
  have hatI : ∀ x ∈ S.items, hat f x = f x := fun x hx => if_neg fun e => neg (by rw [← e]; exact hx)
  have fw : ∀ c ∈ S.columns, ∀ x ∈ S.items, fwdOf (S.ren f).facts c (f x) = hat f (fwdOf S.facts c x) := fun c hc x hx => by
    rcases fwd_cases (fs := S.facts) (c := c) (a := x) with ⟨b, hb⟩ | no
    · have ob := D.facts _ hb
      rw [fwd_some (D.links c) hb, fwd_some (D'.links c) ((ren_mem D inj (y := .link c x b) ob).mpr hb), hatI b ob.2.2]
    · rw [fwd_none no, fwd_none fun b' hb' => ?_]
      · rfl
      · obtain ⟨y, hy, e⟩ := List.mem_map.mp ((sortF_perm _).mem_iff.mp hb')
        have oy := D.facts y hy
        cases y with
        | mark m i => cases e
        | link d a b =>
          injection e with e1 e2 e3
          subst e1
          have := inj a oy.2.1 x hx e2
          subst this
          exact no b hy
  have bw : ∀ c ∈ S.columns, ∀ x ∈ S.items, bwdOf (S.ren f).facts c (f x) = hat f (bwdOf S.facts c x) := fun c hc x hx => by
    rcases bwd_cases (fs := S.facts) (c := c) (b := x) with ⟨b, hb⟩ | no
    · have ob := D.facts _ hb
      rw [bwd_some (D.links c) hb, bwd_some (D'.links c) ((ren_mem D inj (y := .link c b x) ob).mpr hb), hatI b ob.2.1]
    · rw [bwd_none no, bwd_none fun b' hb' => ?_]
      · rfl
      · obtain ⟨y, hy, e⟩ := List.mem_map.mp ((sortF_perm _).mem_iff.mp hb')
        have oy := D.facts y hy
        cases y with
        | mark m i => cases e
        | link d a b =>
          injection e with e1 e2 e3
          subst e1
          have := inj b oy.2.2 x hx e3
          subst this
          exact no a hy
  refine ⟨sortI_perm _, inj, pos, neg, fun x hx => ?_, fun x hx => ?_, fun x hx e he => ?_⟩
  · refine List.map_congr_left fun m hm => ?_
    show (if Fact.mark m (f x) ∈ (S.ren f).facts then (1 : Int) else 0) = if Fact.mark m x ∈ S.facts then 1 else 0
    have z : Fact.mark m (f x) ∈ (S.ren f).facts ↔ Fact.mark m x ∈ S.facts := ren_mem (f := f) D inj (y := .mark m x) ⟨hm, hx⟩
    by_cases h : Fact.mark m x ∈ S.facts
    · rw [if_pos h, if_pos (z.mpr h)]
    · rw [if_neg h, if_neg fun q => h (z.mp q)]
  · show (S.columns.flatMap fun c => [fwdOf (S.ren f).facts c (f x), bwdOf (S.ren f).facts c (f x)]) = (S.columns.flatMap fun c => [fwdOf S.facts c x, bwdOf S.facts c x]).map (hat f)
    rw [List.map_flatMap]
    refine flat_congr fun c hc => ?_
    rw [fw c hc x hx, bw c hc x hx]
    rfl
  · obtain ⟨c, hc, he⟩ := List.mem_flatMap.mp he
    simp only [List.mem_cons, List.not_mem_nil, or_false] at he
    rcases he with rfl | rfl
    · rcases fwd_cases (fs := S.facts) (c := c) (a := x) with ⟨b, hb⟩ | no
      · rw [fwd_some (D.links c) hb]
        exact .inr (D.facts _ hb).2.2
      · exact .inl (fwd_none no)
    · rcases bwd_cases (fs := S.facts) (c := c) (b := x) with ⟨b, hb⟩ | no
      · rw [bwd_some (D.links c) hb]
        exact .inr (D.facts _ hb).2.1
      · exact .inl (bwd_none no)
end
end DQ

set_option Elab.async false
set_option linter.all false
set_option maxRecDepth 100000
set_option maxHeartbeats 1000000
namespace DQ
open PySem PySem.Spec PyProof.Rows L2
/-! ### a fact less -/
theorem drawn_sub {m : Nat} {S : Store} (D : Drawn m S) {fs : List Fact} (h : fs.Sublist S.facts) : Drawn m { S with facts := fs } :=
  ⟨D.marks, D.columns, D.items, D.few, Nat.le_trans h.length_le D.short, D.rise.sublist h, fun x hx => of_items (D.facts x (h.subset hx)) (nums_in (D.facts x (h.subset hx))), fun c => (D.links c).sub (List.Sublist.filterMap _ h)⟩
theorem erase_not {fs : List Fact} (nd : fs.Nodup) {k : Nat} {x : Fact} (h : fs[k]? = some x) : x ∉ fs.eraseIdx k := fun hx => by
  obtain ⟨hk, e⟩ := List.getElem?_eq_some_iff.mp h
  obtain ⟨j, hj⟩ := List.mem_eraseIdx_iff_getElem.mp hx
  obtain ⟨hl, ne, e2⟩ := hj
  have two : ∀ {i j : Nat} (hi : i < fs.length) (hj : j < fs.length), i < j → fs[i] ≠ fs[j] := fun hi hj l => (List.pairwise_iff_getElem.mp nd) _ _ hi hj l
  rcases Nat.lt_or_ge j k with z | z
  · exact two hl hk z (by rw [e2, e])
  · exact two hk hl (by omega) (by rw [e2, e])
theorem int_inj : ∀ {l m : List Int}, l.map PyData.int = m.map PyData.int → l = m
  | [], [], _ => rfl
  | [], _ :: _, h => by simp at h
  | _ :: _, [], h => by simp at h
  | x :: l, y :: m, h => by
    simp only [List.map_cons, List.cons.injEq, PyData.int.injEq] at h
    rw [h.1, int_inj h.2]
theorem less_parts {m : Nat} {S : Store} (D : Drawn m S) {k : Nat} {x : Fact} (h : S.facts[k]? = some x) : atomsD (tabOf { S with facts := S.facts.eraseIdx k }) S.columns.length x.nums ≠ atomsD (tabOf S) S.columns.length x.nums := by
  have hx : x ∈ S.facts := List.mem_of_getElem? h
  have nx := erase_not (rise_nodup D.rise) h
  have ox := D.facts x hx
  have sub := List.eraseIdx_sublist S.facts k
  have neg : (-1 : Int) ∉ S.items := fun h => by have := D.items.2 _ h; omega
  intro e
  simp only [atomsD, PyData.tuple.injEq, List.cons.injEq, and_true] at e
  obtain ⟨_, e2, e3⟩ := e
  cases x with
  | mark c i =>
    have e2 : [rowI (bitsOf S.marks (S.facts.eraseIdx k) i)] = [rowI (bitsOf S.marks S.facts i)] := e2
    rw [List.cons.injEq] at e2
    have e2 := e2.1
    simp only [rowI, PyData.tuple.injEq] at e2
    have inj : ∀ {l m : List Int}, l.map PyData.int = m.map PyData.int → l = m := fun {l m} q => by
      exact int_inj q
    have e2 := inj e2
    have z := List.map_inj_left.mp e2 c ox.1
    unfold markB at z
    rw [if_neg nx, if_pos hx] at z
    exact absurd z (by decide)
  | link c a b =>
    obtain ⟨n, hn, rfl⟩ := List.mem_iff_getElem.mp ox.1
    have hc : S.columns[n]? = some S.columns[n] := List.getElem?_eq_getElem hn
    have z := List.map_inj_left.mp e3 n (List.mem_range.mpr hn)
    have nums : Fact.nums (.link S.columns[n] a b) = [a, b] := rfl
    rw [nums] at z
    simp only [PyData.tuple.injEq, List.map_cons, List.map_nil, List.cons.injEq, and_true] at z
    have z := z.1
    rw [tab_fwd (S := { S with facts := S.facts.eraseIdx k }) hc, tab_fwd hc, fwd_some (D.links _) hx] at z
    have none : fwdOf (S.facts.eraseIdx k) S.columns[n] a = -1 := fwd_none fun b' hb' => by
      have hb2 := sub.subset hb'
      have : b' = b := one_place (D.links S.columns[n]).1 (mem_links hb2) (mem_links hx)
      rw [this] at hb'
      exact nx hb'
    have ea : a ≠ -1 := fun q => neg (by rw [← q]; exact ox.2.1)
    have eb : b ≠ -1 := fun q => neg (by rw [← q]; exact ox.2.2)
    rw [show ({ S with facts := S.facts.eraseIdx k } : Store).facts = S.facts.eraseIdx k from rfl, none] at z
    have l0 : placesI [a, b] (-1) = [] := by
      unfold placesI
      rw [List.map_eq_nil_iff, List.filter_eq_nil_iff]
      intro j hj
      have hj : j < 2 := List.mem_range.mp hj
      have c2 : j = 0 ∨ j = 1 := by omega
      rcases c2 with rfl | rfl
      · simp [ea]
      · simp [eb]
    have l1 : (1 : Int) ∈ placesI [a, b] b := by
      unfold placesI
      exact List.mem_map.mpr ⟨1, List.mem_filter.mpr ⟨List.mem_range.mpr (show 1 < 2 by decide), by simp⟩, rfl⟩
    rw [l0] at z
    simp only [rowI, PyData.tuple.injEq, List.map_nil] at z
    have z2 : placesI [a, b] b = [] := List.map_eq_nil_iff.mp z.symm
    rw [z2] at l1
    cases l1
/-- what the law asks, for the data -/
theorem less_renamed {f : Int → Int} {m : Nat} {S : Store} (D : Drawn m S) (inj : ∀ x ∈ S.items, ∀ y ∈ S.items, f x = f y → x = y) (bd : ∀ x ∈ S.items, 0 ≤ f x ∧ f x ≤ 1000000000) {k : Nat} {x : Fact} (h : S.facts[k]? = some x) (n : Nat) :
    kindD (tabOf { S with facts := S.facts.eraseIdx k }) S.columns.length n x.nums ≠ kindD (tabOf (S.ren f)) S.columns.length n (x.nums.map f) := by
  rw [(ren_tab D inj bd).kind S.columns.length n (nums_in (D.facts x (List.mem_of_getElem? h)))]
  exact kind_parts (less_parts D h)
theorem kind_apart {T T' : Tab} {c c' n : Nat} {row row' : List Int} (h : kindD T c n row ≠ kindD T' c' n row') : PyData.eqv (kindD T c n row) (kindD T' c' n row') = false := by
  cases e : PyData.eqv (kindD T c n row) (kindD T' c' n row') with
  | false => rfl
  | true => exact absurd (like_eqv (kindS n) _ _ (like_kind T c n row) (like_kind T' c' n row') e) h
end DQ

set_option Elab.async false
set_option linter.all false
set_option maxRecDepth 100000
set_option maxHeartbeats 1000000
namespace DQ
open PySem PySem.Spec PyProof.Rows L2
/-! ### a table, fact by fact -/
theorem flat_set1 {cs : List Str} {g g' h : Str → Int} {v : Int} : ∀ {j : Nat} {c : Str}, cs.Nodup → cs[j]? = some c → (∀ x ∈ cs, x ≠ c → g' x = g x) → g' c = v → (cs.flatMap fun c => [g c, h c]).set (2 * j) v = cs.flatMap fun c => [g' c, h c] := by
  induction cs with
  | nil => intro j c _ e; simp at e
  | cons x r ih =>
    intro j c nd e o n
    rw [List.nodup_cons] at nd
    rw [List.flatMap_cons, List.flatMap_cons]
    cases j with
    | zero =>
      simp only [List.getElem?_cons_zero, Option.some.injEq] at e
      subst e
      have z : (r.flatMap fun c => [g c, h c]) = r.flatMap fun c => [g' c, h c] := flat_congr fun y hy => by rw [o y (List.mem_cons_of_mem _ hy) (fun q => nd.1 (by rw [← q]; exact hy))]
      rw [z, n]
      rfl
    | succ j =>
      have e2 : r[j]? = some c := by simpa using e
      have ne : x ≠ c := fun q => nd.1 (by rw [q]; exact List.mem_of_getElem? e2)
      have w := ih nd.2 e2 (fun y hy => o y (List.mem_cons_of_mem _ hy)) n
      rw [o x (List.mem_cons_self ..) ne, ← w, show 2 * (j + 1) = 2 * j + 1 + 1 by omega]
      rfl
theorem flat_set2 {cs : List Str} {g h h' : Str → Int} {v : Int} : ∀ {j : Nat} {c : Str}, cs.Nodup → cs[j]? = some c → (∀ x ∈ cs, x ≠ c → h' x = h x) → h' c = v → (cs.flatMap fun c => [g c, h c]).set (2 * j + 1) v = cs.flatMap fun c => [g c, h' c] := by
  induction cs with
  | nil => intro j c _ e; simp at e
  | cons x r ih =>
    intro j c nd e o n
    rw [List.nodup_cons] at nd
    rw [List.flatMap_cons, List.flatMap_cons]
    cases j with
    | zero =>
      simp only [List.getElem?_cons_zero, Option.some.injEq] at e
      subst e
      have z : (r.flatMap fun c => [g c, h c]) = r.flatMap fun c => [g c, h' c] := flat_congr fun y hy => by rw [o y (List.mem_cons_of_mem _ hy) (fun q => nd.1 (by rw [← q]; exact hy))]
      rw [z, n]
      rfl
    | succ j =>
      have e2 : r[j]? = some c := by simpa using e
      have ne : x ≠ c := fun q => nd.1 (by rw [q]; exact List.mem_of_getElem? e2)
      have w := ih nd.2 e2 (fun y hy => o y (List.mem_cons_of_mem _ hy)) n
      rw [o x (List.mem_cons_self ..) ne, ← w, show 2 * (j + 1) + 1 = 2 * j + 1 + 1 + 1 by omega]
      rfl
theorem map_set {ms : List Str} {g g' : Str → Int} {v : Int} : ∀ {j : Nat} {m : Str}, ms.Nodup → ms[j]? = some m → (∀ x ∈ ms, x ≠ m → g' x = g x) → g' m = v → (ms.map g).set j v = ms.map g' := by
  induction ms with
  | nil => intro j c _ e; simp at e
  | cons x r ih =>
    intro j c nd e o n
    rw [List.nodup_cons] at nd
    rw [List.map_cons, List.map_cons]
    cases j with
    | zero =>
      simp only [List.getElem?_cons_zero, Option.some.injEq] at e
      subst e
      have z : r.map g = r.map g' := List.map_congr_left fun y hy => by rw [o y (List.mem_cons_of_mem _ hy) (fun q => nd.1 (by rw [← q]; exact hy))]
      rw [z, n]
      rfl
    | succ j =>
      have e2 : r[j]? = some c := by simpa using e
      have ne : x ≠ c := fun q => nd.1 (by rw [q]; exact List.mem_of_getElem? e2)
      rw [o x (List.mem_cons_self ..) ne, ← ih nd.2 e2 (fun y hy => o y (List.mem_cons_of_mem _ hy)) n]
      rfl
theorem lookup_app {l : List (Int × Int)} {a b i : Int} (h : l.lookup a = none) : (l ++ [(a, b)]).lookup i = if i = a then some b else l.lookup i := by
  induction l with
  | nil =>
    rw [List.nil_append, List.lookup_cons]
    by_cases e : i = a
    · rw [if_pos e, e]; simp
    · rw [if_neg e, beq_false_of_ne e]
  | cons p r ih =>
    obtain ⟨x, y⟩ := p
    rw [List.lookup_cons] at h
    have ne : a ≠ x := fun q => by rw [q] at h; simp at h
    rw [beq_false_of_ne ne] at h
    rw [List.cons_append, List.lookup_cons, List.lookup_cons, ih h]
    by_cases e : i = x
    · rw [e]
      have : ¬ x = a := fun q => ne q.symm
      simp [this]
    · rw [beq_false_of_ne e]
section
variable {fs : List Fact} {m c : Str} {i a b : Int}
theorem mark_step (m' : Str) (i' : Int) : markB (fs ++ [.mark m i]) m' i' = if m' = m ∧ i' = i then 1 else markB fs m' i' := by
  unfold markB
  by_cases h : m' = m ∧ i' = i
  · rw [if_pos h, if_pos (by rw [h.1, h.2]; exact List.mem_append_right _ (List.mem_singleton.mpr rfl))]
  · rw [if_neg h]
    have z : Fact.mark m' i' ∈ fs ++ [.mark m i] ↔ Fact.mark m' i' ∈ fs := ⟨fun q => by
      rcases List.mem_append.mp q with q | q
      · exact q
      · have q := List.mem_singleton.mp q
        injection q with q1 q2
        exact absurd ⟨q1, q2⟩ h, fun q => List.mem_append_left _ q⟩
    by_cases q : Fact.mark m' i' ∈ fs
    · rw [if_pos q, if_pos (z.mpr q)]
    · rw [if_neg q, if_neg fun y => q (z.mp y)]
theorem mark_link (m' : Str) (i' : Int) : markB (fs ++ [.link c a b]) m' i' = markB fs m' i' := by
  unfold markB
  have z : Fact.mark m' i' ∈ fs ++ [.link c a b] ↔ Fact.mark m' i' ∈ fs := ⟨fun q => by
    rcases List.mem_append.mp q with q | q
    · exact q
    · exact absurd (List.mem_singleton.mp q) (by intro q; cases q), fun q => List.mem_append_left _ q⟩
  by_cases q : Fact.mark m' i' ∈ fs
  · rw [if_pos q, if_pos (z.mpr q)]
  · rw [if_neg q, if_neg fun y => q (z.mp y)]
theorem links_mark (c' : Str) : linksOf c' (fs ++ [.mark m i]) = linksOf c' fs := by
  rw [links_append]
  show linksOf c' fs ++ [] = _
  rw [List.append_nil]
theorem links_link (c' : Str) : linksOf c' (fs ++ [.link c a b]) = if c = c' then linksOf c' fs ++ [(a, b)] else linksOf c' fs := by
  rw [links_append]
  by_cases e : c = c'
  · have e1 : Fact.on c' (.link c a b) = some (a, b) := if_pos e
    rw [if_pos e]
    unfold linksOf
    rw [List.filterMap_cons, e1]
    rfl
  · have e1 : Fact.on c' (.link c a b) = none := if_neg e
    rw [if_neg e]
    unfold linksOf
    rw [List.filterMap_cons, e1]
    exact List.append_nil _
theorem fwd_step (no : ∀ b', Fact.link c a b' ∉ fs) (c' : Str) (i : Int) : fwdOf (fs ++ [.link c a b]) c' i = if c' = c ∧ i = a then b else fwdOf fs c' i := by
  unfold fwdOf
  rw [links_link]
  by_cases e : c = c'
  · subst e
    rw [if_pos rfl, lookup_app (lookup_no fun b hb => no b (mem_links_inv hb))]
    by_cases q : i = a
    · rw [if_pos q, if_pos ⟨rfl, q⟩]; rfl
    · rw [if_neg q, if_neg fun z => q z.2]
  · rw [if_neg e, if_neg fun z => e z.1.symm]
theorem bwd_step (no : ∀ a', Fact.link c a' b ∉ fs) (c' : Str) (i : Int) : bwdOf (fs ++ [.link c a b]) c' i = if c' = c ∧ i = b then a else bwdOf fs c' i := by
  unfold bwdOf
  rw [links_link]
  by_cases e : c = c'
  · subst e
    rw [if_pos rfl, List.map_append]
    show ((List.map _ _ ++ [(b, a)]).lookup i).getD (-1) = _
    rw [lookup_app (lookup_no fun x hx => by
      obtain ⟨p, hp, z⟩ := List.mem_map.mp hx
      obtain ⟨u, v⟩ := p
      injection z with z1 z2
      subst z1 z2
      exact no _ (mem_links_inv hp))]
    by_cases q : i = b
    · rw [if_pos q, if_pos ⟨rfl, q⟩]; rfl
    · rw [if_neg q, if_neg fun z => q z.2]
  · rw [if_neg e, if_neg fun z => e z.1.symm]
end
/-! what a row of the table becomes -/
section
variable {fs : List Fact} {ms cs : List Str} {m c : Str} {i a b : Int} {j : Nat}
theorem bits_mark (nd : ms.Nodup) (hj : ms[j]? = some m) (i' : Int) : bitsOf ms (fs ++ [.mark m i]) i' = if i' = i then (bitsOf ms fs i').set j 1 else bitsOf ms fs i' := by
  by_cases e : i' = i
  · rw [if_pos e]
    unfold bitsOf
    rw [map_set (g' := fun x => markB (fs ++ [.mark m i]) x i') (v := 1) nd hj (fun x _ ne => by rw [mark_step, if_neg fun z => ne z.1]) (by rw [mark_step, if_pos ⟨rfl, e⟩])]
  · rw [if_neg e]
    exact List.map_congr_left fun x _ => by rw [mark_step, if_neg fun z => e z.2]
theorem bits_link (i' : Int) : bitsOf ms (fs ++ [.link c a b]) i' = bitsOf ms fs i' := List.map_congr_left fun x _ => mark_link x i'
theorem ends_mark (i' : Int) : endsOf cs (fs ++ [.mark m i]) i' = endsOf cs fs i' := flat_congr fun x _ => by
  unfold fwdOf bwdOf
  rw [links_mark]
/-- behind the first store, behind both -/
theorem ends_link (nd : cs.Nodup) (hj : cs[j]? = some c) (no1 : ∀ b', Fact.link c a b' ∉ fs) (no2 : ∀ a', Fact.link c a' b ∉ fs) (i' : Int) :
    endsOf cs (fs ++ [.link c a b]) i' = let l := if i' = a then (endsOf cs fs i').set (2 * j) b else endsOf cs fs i'; if i' = b then l.set (2 * j + 1) a else l := by
  have s1 : (if i' = a then (endsOf cs fs i').set (2 * j) b else endsOf cs fs i') = cs.flatMap fun x => [fwdOf (fs ++ [.link c a b]) x i', bwdOf fs x i'] := by
    by_cases e : i' = a
    · rw [if_pos e]
      unfold endsOf
      exact flat_set1 nd hj (fun x _ ne => by rw [fwd_step no1, if_neg fun z => ne z.1]) (by rw [fwd_step no1, if_pos ⟨rfl, e⟩])
    · rw [if_neg e]
      exact flat_congr fun x _ => by rw [fwd_step no1, if_neg fun z => e z.2]
  simp only
  rw [s1]
  by_cases e : i' = b
  · rw [if_pos e]
    exact (flat_set2 nd hj (fun x _ ne => by rw [bwd_step no2, if_neg fun z => ne z.1]) (by rw [bwd_step no2, if_pos ⟨rfl, e⟩])).symm
  · rw [if_neg e]
    exact flat_congr fun x _ => by rw [bwd_step no2, if_neg fun z => e z.2]
theorem bits_none (i' : Int) : bitsOf ms [] i' = ms.map fun _ => (0 : Int) := List.map_congr_left fun x _ => by
  unfold markB
  rw [if_neg (by simp)]
theorem ends_none (i' : Int) : endsOf cs [] i' = (cs ++ cs).map fun _ => (-1 : Int) := by
  show (cs.flatMap fun c => [(-1 : Int), -1]) = _
  induction cs with
  | nil => rfl
  | cons x r ih =>
    have k : ∀ l : List Str, (l.map fun _ => (-1 : Int)) = List.replicate l.length (-1) := fun l => List.map_const' ..
    rw [List.flatMap_cons, ih, k, k, List.length_append, List.length_append, List.length_cons]
    show -1 :: -1 :: List.replicate (r.length + r.length) (-1) = _
    rw [show r.length + 1 + (r.length + 1) = r.length + r.length + 1 + 1 by omega, List.replicate_succ, List.replicate_succ]
end
end DQ

set_option Elab.async false
set_option linter.all false
set_option maxRecDepth 100000
namespace DQ
open PySem PySem.Spec PyProof.Rows L2
variable {X : Cx}
/-- what the parts of a block of one walk answer, bundled -/
structure DcParts (X : Cx) (kx vx tg : Expr) (ifs : List Expr) (scope : Scope) (g : TG) (tt : TT) (tk tv : TE) : Prop where
  goes : ∀ s H C cl fp, PG (X.blk s H scope (compEnvC scope cl C X.env) fp) tg g
  tests : ∀ s H C cl fp, PTs (X.blk s H scope (compEnvC scope cl C X.env) fp) ifs tt
  key : ∀ s H C cl fp, PE (X.blk s H scope (compEnvC scope cl C X.env) fp) kx tk
  val : ∀ s H C cl fp, PE (X.blk s H scope (compEnvC scope cl C X.env) fp) vx tv
/-- a dict comprehension that a plain local of the def takes on one line -/
theorem ps_setDc {i : Nat} {y : Str} {py pos spos : Pos} {kx vx tg iter : Expr} {ifs : List Expr} {scope : Scope} {own : List (Str × Nat)} {wi : TI} {g : TG} {tt : TT} {tk tv : TE}
    (calm : X.calm = true) (nd : X.N.Nodup) (at_ : X.N[i]? = some y) (loc : X.env.scope.names.lookup y = some .local)
    (used : swapsWith (.DictComp kx vx [⟨tg, iter, ifs, 0⟩] scope pos) (some (.Name y py)) spos.line X.env = pure true)
    (walk : PI X tg iter wi) (ok : BlkOk X.N X.env.scope scope own) (B : DcParts X kx vx tg ifs scope g tt tk tv)
    (fold : ∀ x, foldedSetIterable iter X.env x = pure x := by intro _; rfl) :
    PS X (.Assign [.Name y py] (.DictComp kx vx [⟨tg, iter, ifs, 0⟩] scope pos) spos) (tAsg (tDc wi g tt tk tv (own.map (·.2))) (gName i)) := by
  constructor
  intro pins s σ H D I ask
  have ask : tDc wi g tt tk tv (own.map (·.2)) σ H (fun x H1 => gName i x σ H1 D.nx) := ask
  rw [exec_Assign_Name_used _ _ _ _ used]
  apply wpAny_bind
  apply wpAny_standAt
  apply wpAny_bind
  have main := dc_core (use := some (assign (.Name y py) X.env)) (Qf := fun _ t => SP X pins D .next t) (pos := pos) (pos' := firstIterPos [⟨tg, iter, ifs, 0⟩] pos)
    calm nd I walk ok B.goes B.tests B.key B.val fold ask (by
      intro L C t m G J post ns fp
      show wpAny _ _ (assign (.Name y py) X.env (.ref L)) _ _ _
      apply wpAny_assign_Name
      refine store_ok2 (v := V.ref L) J nd at_ (.inl loc) rfl ?_ (.inr loc)
      rintro t2 J2 ⟨a, sb, who⟩
      obtain ⟨p0, p1, p2, p3, p4, p5⟩ := fp
      have far : C ≠ a := by
        rcases who with e | e
        · subst e
          exact p1
        · intro e2
          exact p4 y a e e2.symm
      refine ⟨m, ns.sameBut sb far, ?_⟩
      intro h3 sb3
      refine ⟨_, G, ?_, post⟩
      exact J2.turned (t' := t2.toks) (fun b o hb e => (sb3.2 b hb).trans e) p0 p1 p3 p4 p5)
  apply wpAny_bind
  apply thn main
  intro _ t q
  exact wpAny_pure (wpAny_pure q)
theorem dc_used {kx vx : Expr} {gs : List Comprehension} {scope : Scope} {pos py : Pos} {y : Str} {l : Nat} {env : Env} (fn : env.scope.kind = .function) (lo : env.scope.names.lookup y = some .local) (ln : (py.line == pos.line) = true)
    (no : (scope.names.any fun (n, k) => n == y && (k == .local || k == .cell)) = false) : swapsWith (.DictComp kx vx gs scope pos) (some (.Name y py)) l env = pure true := by
  have e1 : env.kindOf y = some .local := lo
  have e2 : env.blockKind = .function := by
    unfold Env.blockKind
    rw [fn]
    rfl
  unfold swapsWith
  simp only [e2, e1, no, Expr.pos, ln]
  rfl
end DQ

set_option Elab.async false
set_option linter.all false
set_option maxRecDepth 100000
set_option maxHeartbeats 2000000
namespace DQ
open PySem PySem.Spec PyProof.Rows L2
/-! ### a dict comprehension over whole numbers, one entry a turn -/
theorem dc_ints {K : PySem.W.Frag} {a D : Addr} {ns : List Int} {g : TG} {tt : TT} {tk tv : TE} {vs : List Nat} {σ : L2.St} {H1 : Hp} {Qd : Hp → Prop} (In : Nat → List (Key × V) → Hp → Prop) (src : SqL K H1 a (ns.map V.int)) (few : ns.length ≤ 10000) (nD : H1 D = none)
    (start : In 0 [] (upd H1 D (.dK []))) (size : ∀ k kvs H, In k kvs H → kvs.length ≤ k)
    (turn : ∀ k n kvs H, ns[k]? = some n → Same H1 H → H D = some (.dK kvs) → In k kvs H → ∀ N : Hp → Prop, (∀ z H5, Same H H5 → In (k + 1) (putK kvs (.inl n) z) (upd H5 D (.dK (putK kvs (.inl n) z))) → N (upd H5 D (.dK (putK kvs (.inl n) z)))) →
      g (.int n) (wipe σ vs) H fun σ2 H2 => wipe σ2 vs = wipe σ vs ∧ tt σ2 H2 fun b H3 => if b = true then tk σ2 H3 fun y H4 => tv σ2 H4 fun z H5 => ∃ kvs k, y = kV k ∧ H5 D = some (.dK kvs) ∧ kvs.length < sizeLine ∧ N (upd H5 D (.dK (putK kvs k z))) else N H3)
    (after : ∀ kvs H, Same H1 H → H D = some (.dK kvs) → In ns.length kvs H → Qd H) :
    ∃ W : Nat → Nat → Hp → Prop, (∃ m, W 0 m (upd H1 D (.dK []))) ∧ ∀ i m H, W i m H →
      ((Itl K a).stop i H ∧ Qd H) ∨ ((Itl K a).go i H ∧ ∃ Nx : Hp → Prop, (∀ H', Nx H' → ∃ m', m' < m ∧ W (i + 1) m' H') ∧ ∀ x H', (Itl K a).yld i H x H' → g x (wipe σ vs) H' fun σ2 H2 => wipe σ2 vs = wipe σ vs ∧ tt σ2 H2 fun b H3 =>
        if b = true then tk σ2 H3 fun y H4 => tv σ2 H4 fun z H5 => ∃ kvs k, y = kV k ∧ H5 D = some (.dK kvs) ∧ kvs.length < sizeLine ∧ Nx (upd H5 D (.dK (putK kvs k z))) else Nx H3) := by
  refine ⟨fun i m H => m = ns.length - i ∧ i ≤ ns.length ∧ Same H1 H ∧ ∃ kvs, H D = some (.dK kvs) ∧ In i kvs H, ⟨ns.length, by simp, Nat.zero_le _, same_new nD, [], upd_same, start⟩, ?_⟩
  rintro i m H ⟨rfl, hi, sm, kvs, eD, p⟩
  have there := L2.Same.seq sm src
  by_cases lt : i < ns.length
  · refine .inr ⟨⟨_, _, there, by rw [List.getElem?_eq_getElem (by rw [List.length_map]; exact lt)]⟩, fun H' => i + 1 ≤ ns.length ∧ Same H1 H' ∧ ∃ kvs, H' D = some (.dK kvs) ∧ In (i + 1) kvs H', fun H' h => ⟨ns.length - (i + 1), by omega, rfl, h⟩, fun x H' y => ?_⟩
    obtain ⟨e, y⟩ := y
    subst e
    obtain ⟨n, hn, rfl⟩ := at_map (y _ there)
    exact turn i n kvs _ hn sm eD p _ fun z H5 s5 q => ⟨by omega, same_upd (sm.trans s5) nD, _, upd_same, q⟩
  · obtain rfl : i = ns.length := by omega
    exact .inl ⟨⟨_, there, by rw [List.length_map]; exact Nat.le_refl _⟩, after kvs H sm eD p⟩
/-- rows of a dict: each item its list -/
structure LstRows (H0 H : Hp) (ns : List Int) (kvs : List (Key × V)) (f : Int → Addr) (val : Int → List Int) : Prop where
  eq : kvs = ns.map fun i => (Sum.inl i, V.ref (f i))
  at_ : ∀ i ∈ ns, H (f i) = some (.lst ((val i).map V.int))
  new : ∀ i ∈ ns, H0 (f i) = none
  inj : ∀ i ∈ ns, ∀ j ∈ ns, f i = f j → i = j
theorem rows_get {ns : List Int} {f : Int → Addr} {i : Int} (h : i ∈ ns) : valV (ns.map fun i => ((Sum.inl i : Key), V.ref (f i))) (.inl i) = some (.ref (f i)) := by
  induction ns with
  | nil => cases h
  | cons x r ih =>
    rw [List.map_cons]
    by_cases e : x = i
    · subst e
      simp [valV]
    · rcases List.mem_cons.mp h with z | z
      · exact absurd z.symm e
      · have := ih z
        simp only [valV] at this ⊢
        simpa [e] using this
theorem rows_none {ns : List Int} {f : Int → Addr} {i : Int} (h : i ∉ ns) : valV (ns.map fun i => ((Sum.inl i : Key), V.ref (f i))) (.inl i) = none := by
  induction ns with
  | nil => rfl
  | cons x r ih =>
    rw [List.map_cons]
    have e : x ≠ i := fun q => h (by rw [q]; exact List.mem_cons_self ..)
    have := ih fun z => h (List.mem_cons_of_mem _ z)
    simp only [valV] at this ⊢
    simpa [e] using this
/-- a list that is made in a turn -/
theorem rows_put {H0 H H5 : Hp} {D L : Addr} {ns : List Int} {k : Nat} {n : Int} {kvs : List (Key × V)} {f : Int → Addr} {val : Int → List Int} (nd : ns.Nodup) (hn : ns[k]? = some n) (R : LstRows H0 H (ns.take k) kvs f val) (s : Same H H5) (h0 : Same H0 H) (nL : H L = none) (hL : H5 L = some (.lst ((val n).map V.int))) (hD : H5 D = some (.dK kvs)) :
    LstRows H0 (upd H5 D (.dK (putK kvs (.inl n) (.ref L)))) (ns.take (k + 1)) (putK kvs (.inl n) (.ref L)) (fun i => if i = n then L else f i) val := by
  have nin : n ∉ ns.take k := fun h => by
    obtain ⟨j, hj⟩ := List.getElem?_of_mem h
    rw [List.getElem?_take] at hj
    split at hj
    case isTrue lt =>
      have l1 := (List.getElem?_eq_some_iff.mp hj).1
      have l2 := (List.getElem?_eq_some_iff.mp hn).1
      exact (List.pairwise_iff_getElem.mp nd) j k l1 l2 lt (by rw [(List.getElem?_eq_some_iff.mp hj).2, (List.getElem?_eq_some_iff.mp hn).2])
    case isFalse => cases hj
  have old : ∀ i ∈ ns.take k, i ≠ n := fun i hi e => nin (by rw [← e]; exact hi)
  have neD : ∀ {b : Addr} {xs : List V}, H5 b = some (.lst xs) → b ≠ D := fun e q => by rw [q, hD] at e; cases e
  rw [take_next hn]
  refine ⟨?_, fun i hi => ?_, fun i hi => ?_, fun i hi j hj e => ?_⟩
  · rw [putK_new _ (by rw [R.eq]; exact rows_none nin), R.eq, List.map_append]
    have z : (ns.take k).map (fun i => ((Sum.inl i : Key), V.ref (f i))) = (ns.take k).map fun i => (Sum.inl i, V.ref (if i = n then L else f i)) := List.map_congr_left fun i hi => by rw [if_neg (old i hi)]
    rw [z]
    simp
  · rcases List.mem_append.mp hi with hi | hi
    · simp only [if_neg (old i hi)]
      have := s _ _ (R.at_ i hi)
      rw [upd_ne (neD this)]
      exact this
    · rw [List.mem_singleton.mp hi]
      simp only [if_true]
      rw [upd_ne (neD hL)]
      exact hL
  · rcases List.mem_append.mp hi with hi | hi
    · simp only [if_neg (old i hi)]
      exact R.new i hi
    · rw [List.mem_singleton.mp hi]
      simp only [if_true]
      cases q : H0 L with
      | none => rfl
      | some o => rw [h0 _ _ q] at nL; cases nL
  · have live : ∀ i ∈ ns.take k, f i ≠ L := fun i hi q => by rw [← q, R.at_ i hi] at nL; cases nL
    rcases List.mem_append.mp hi with hi | hi <;> rcases List.mem_append.mp hj with hj | hj
    · simp only [if_neg (old i hi), if_neg (old j hj)] at e
      exact R.inj i hi j hj e
    · rw [List.mem_singleton.mp hj] at e ⊢
      simp only [if_neg (old i hi), if_true] at e
      exact absurd e (live i hi)
    · rw [List.mem_singleton.mp hi] at e ⊢
      simp only [if_neg (old j hj), if_true] at e
      exact absurd e.symm (live j hj)
    · rw [List.mem_singleton.mp hi, List.mem_singleton.mp hj]
theorem LstRows.len {H0 H : Hp} {ns : List Int} {kvs : List (Key × V)} {f : Int → Addr} {val : Int → List Int} (R : LstRows H0 H ns kvs f val) : kvs.length = ns.length := by rw [R.eq, List.length_map]
theorem LstRows.nil {H0 H : Hp} {f : Int → Addr} {val : Int → List Int} : LstRows H0 H [] [] f val := ⟨rfl, (fun i h => by cases h), (fun i h => by cases h), (fun i h => by cases h)⟩
theorem LstRows.same {H0 H H' : Hp} {ns : List Int} {kvs : List (Key × V)} {f : Int → Addr} {val : Int → List Int} (R : LstRows H0 H ns kvs f val) (s : Same H H') : LstRows H0 H' ns kvs f val := ⟨R.eq, fun i h => s _ _ (R.at_ i h), R.new, R.inj⟩
/-- the table stands: each item its tuple -/
structure TabAt (H : Hp) (T : Tab) (kvs : List (Key × V)) (f b : Int → Addr) : Prop where
  eq : kvs = T.items.map fun i => (Sum.inl i, V.ref (f i))
  at_ : ∀ i ∈ T.items, H (f i) = some (.tup (.ref (b i) :: (T.ends i).map V.int))
  bit : ∀ i ∈ T.items, H (b i) = some (.tup ((T.bits i).map V.int))
theorem TabAt.same {H H' : Hp} {T : Tab} {kvs : List (Key × V)} {f b : Int → Addr} (R : TabAt H T kvs f b) (s : Same H H') : TabAt H' T kvs f b := ⟨R.eq, fun i h => s _ _ (R.at_ i h), fun i h => s _ _ (R.bit i h)⟩
end DQ

set_option Elab.async false
set_option linter.all false
set_option maxRecDepth 100000
set_option maxHeartbeats 4000000
namespace DQ
open PySem PySem.Spec PyProof.Rows L2
/-! ### table_of -/
abbrev sTable : Stmt := topS 32
abbrev NTb : List Str := ["store", "_", "marks", "columns", "items", "facts", "item", "bits", "ends", "fact", "at"]
theorem scTable : FnScope NTb ["store"] (defScope sTable) := ⟨rfl, rfl, rfl, by decide +kernel, rfl, by decide +kernel, by decide +kernel⟩
/-- the scopes of the two rows' blocks -/
abbrev scB : Scope := { kind := .function, names := [(".0", .local), ("item", .local), ("marks", .cell)], isGenerator := false, isCoroutine := false }
abbrev scE : Scope := { kind := .function, names := [(".0", .local), ("item", .local), ("columns", .cell)], isGenerator := false, isCoroutine := false }
theorem strs_at {ms : List Str} (nd : ms.Nodup) {m : Str} (h : m ∈ ms) : ∃ j, ms[j]? = some m ∧ (ms.map V.str)[j]? = some (.str m) ∧ ∀ (j' : Nat) (z' : V), j' < j → (ms.map V.str)[j']? = some z' → eqV z' (.str m) = false := by
  obtain ⟨j, hj, e⟩ := List.mem_iff_getElem.mp h
  refine ⟨j, by rw [List.getElem?_eq_getElem hj, e], by rw [List.getElem?_map, List.getElem?_eq_getElem hj, e]; rfl, fun j' z' lt hz => ?_⟩
  obtain ⟨x, hx, rfl⟩ := at_map hz
  obtain ⟨h', e'⟩ := List.getElem?_eq_some_iff.mp hx
  have ne : x ≠ m := fun q => (List.pairwise_iff_getElem.mp nd) j' j h' hj lt (by rw [e', e, q])
  show (x == m) = false
  exact beq_false_of_ne ne
theorem take_nodup {α : Type} {l : List α} {k : Nat} {x : α} (nd : l.Nodup) (h : l[k]? = some x) : x ∉ l.take k := fun hx => by
  obtain ⟨j, hj⟩ := List.getElem?_of_mem hx
  rw [List.getElem?_take] at hj
  split at hj
  case isTrue lt =>
    obtain ⟨h1, e1⟩ := List.getElem?_eq_some_iff.mp hj
    obtain ⟨h2, e2⟩ := List.getElem?_eq_some_iff.mp h
    exact (List.pairwise_iff_getElem.mp nd) j k h1 h2 lt (by rw [e1, e2])
  case isFalse => cases hj
theorem flat_strV (ms : List Str) : (ms.map V.str).all flatV = true := List.all_eq_true.mpr fun x hx => by
  obtain ⟨z, _, rfl⟩ := List.mem_map.mp hx
  rfl
theorem drawn_nd {m : Nat} {S : Store} (D : Drawn m S) : S.marks.Nodup ∧ S.columns.Nodup := by
  obtain ⟨b, k, hb, _, ek⟩ := D.marks
  obtain ⟨j, _, _, ej⟩ := D.columns
  rw [ek, ej]
  refine ⟨(List.take_sublist _ _).nodup ?_, (List.take_sublist _ _).nodup (by decide)⟩
  simp only [markLists, List.mem_cons, List.not_mem_nil, or_false] at hb
  rcases hb with rfl | rfl <;> decide
/-- where the table's making stands after some facts -/
structure Going (H H' : Hp) (S : Store) (fs : List Fact) (D1 D2 : Addr) (k1 k2 : List (Key × V)) (bA eA : Int → Addr) : Prop where
  same : Same H H'
  d1 : H' D1 = some (.dK k1)
  d2 : H' D2 = some (.dK k2)
  b : ∀ i ∈ S.items, H' (bA i) = some (.lst ((bitsOf S.marks fs i).map V.int))
  e : ∀ i ∈ S.items, H' (eA i) = some (.lst ((endsOf S.columns fs i).map V.int))
theorem ixN_nat {n j : Nat} {k : Int} (e : k = (j : Int)) (h : j < n) : ixN n k = some j := by
  subst e
  unfold ixN
  rw [if_pos (by omega), if_pos (by omega)]
  simp
theorem map_set_int {l : List Int} {j : Nat} {v : Int} : (l.map V.int).set j (.int v) = (l.set j v).map V.int := by rw [List.map_set]
section
variable {H H' : Hp} {m : Nat} {S : Store} {fs : List Fact} {D1 D2 : Addr} {k1 k2 : List (Key × V)} {bA eA : Int → Addr}
/-- a list of the first rows is stored into -/
theorem Going.mark (G : Going H H' S fs D1 D2 k1 k2 bA eA) (inj : ∀ i ∈ S.items, ∀ j ∈ S.items, bA i = bA j → i = j) (apart : ∀ i ∈ S.items, ∀ j ∈ S.items, bA i ≠ eA j) (new : ∀ i ∈ S.items, H (bA i) = none) (nd : S.marks.Nodup) {w : Str} {i : Int} {j : Nat} (hi : i ∈ S.items) (hj : S.marks[j]? = some w) :
    Going H (upd H' (bA i) (.lst (((bitsOf S.marks fs i).map V.int).set j (.int 1)))) S (fs ++ [.mark w i]) D1 D2 k1 k2 bA eA := by
  have at0 := G.b i hi
  have neD : ∀ {D : Addr} {k : List (Key × V)}, H' D = some (.dK k) → D ≠ bA i := fun e q => by rw [q, at0] at e; cases e
  refine ⟨same_upd G.same (new i hi), by rw [upd_ne (neD G.d1)]; exact G.d1, by rw [upd_ne (neD G.d2)]; exact G.d2, fun i' hi' => ?_, fun i' hi' => ?_⟩
  · rw [bits_mark nd hj]
    by_cases e : i' = i
    · subst e
      rw [if_pos rfl, upd_same, map_set_int]
    · rw [if_neg e, upd_ne fun q => e (inj i' hi' i hi q)]
      exact G.b i' hi'
  · rw [ends_mark, upd_ne fun q => apart i hi i' hi' q.symm]
    exact G.e i' hi'
/-- two lists of the second rows are stored into, one behind the other, perhaps the same -/
theorem Going.link (G : Going H H' S fs D1 D2 k1 k2 bA eA) (inj : ∀ i ∈ S.items, ∀ j ∈ S.items, eA i = eA j → i = j) (apart : ∀ i ∈ S.items, ∀ j ∈ S.items, bA i ≠ eA j) (new : ∀ i ∈ S.items, H (eA i) = none) (nd : S.columns.Nodup) {w : Str} {a b : Int} {j : Nat} (ha : a ∈ S.items) (hb : b ∈ S.items) (hj : S.columns[j]? = some w) (no1 : ∀ b', Fact.link w a b' ∉ fs) (no2 : ∀ a', Fact.link w a' b ∉ fs) :
    (upd H' (eA a) (.lst (((endsOf S.columns fs a).map V.int).set (2 * j) (.int b)))) (eA b) = some (.lst ((if b = a then (endsOf S.columns fs b).set (2 * j) b else endsOf S.columns fs b).map V.int)) ∧
    Going H (upd (upd H' (eA a) (.lst (((endsOf S.columns fs a).map V.int).set (2 * j) (.int b)))) (eA b) (.lst (((if b = a then (endsOf S.columns fs b).set (2 * j) b else endsOf S.columns fs b).map V.int).set (2 * j + 1) (.int a)))) S (fs ++ [.link w a b]) D1 D2 k1 k2 bA eA := by
  have atA := G.e a ha
  have neD : ∀ {x : Int}, x ∈ S.items → ∀ {D : Addr} {k : List (Key × V)}, H' D = some (.dK k) → D ≠ eA x := fun {x} hx {D k} e q => by rw [q, G.e x hx] at e; cases e
  have first : ∀ i' ∈ S.items, (upd H' (eA a) (.lst (((endsOf S.columns fs a).map V.int).set (2 * j) (.int b)))) (eA i') = some (.lst ((if i' = a then (endsOf S.columns fs i').set (2 * j) b else endsOf S.columns fs i').map V.int)) := fun i' hi' => by
    by_cases e : i' = a
    · subst e
      rw [if_pos rfl, upd_same, map_set_int]
    · rw [if_neg e, upd_ne fun q => e (inj i' hi' a ha q)]
      exact G.e i' hi'
  refine ⟨first b hb, same_upd (same_upd G.same (new a ha)) (new b hb), ?_, ?_, fun i' hi' => ?_, fun i' hi' => ?_⟩
  · rw [upd_ne (neD hb G.d1), upd_ne (neD ha G.d1)]; exact G.d1
  · rw [upd_ne (neD hb G.d2), upd_ne (neD ha G.d2)]; exact G.d2
  · rw [bits_link, upd_ne (apart i' hi' b hb), upd_ne (apart i' hi' a ha)]
    exact G.b i' hi'
  · rw [ends_link nd hj no1 no2]
    by_cases e : i' = b
    · subst e
      simp only [if_true]
      rw [upd_same, map_set_int]
    · simp only [if_neg e]
      rw [upd_ne fun q => e (inj i' hi' b hb q)]
      exact first i' hi'
end
theorem tab_put {H H5 : Hp} {D T L : Addr} {ns : List Int} {k : Nat} {n : Int} {kvs : List (Key × V)} {ft fb : Int → Addr} {bits ends : Int → List Int} (nd : ns.Nodup) (hn : ns[k]? = some n) (R : TabAt H ⟨ns.take k, bits, ends⟩ kvs ft fb) (s : Same H H5) (hD : H5 D = some (.dK kvs)) (hT : H5 T = some (.tup (.ref L :: (ends n).map V.int))) (hL : H5 L = some (.tup ((bits n).map V.int))) :
    TabAt (upd H5 D (.dK (putK kvs (.inl n) (.ref T)))) ⟨ns.take (k + 1), bits, ends⟩ (putK kvs (.inl n) (.ref T)) (fun i => if i = n then T else ft i) (fun i => if i = n then L else fb i) := by
  have nin : n ∉ ns.take k := take_nodup nd hn
  have old : ∀ i ∈ ns.take k, i ≠ n := fun i hi e => nin (by rw [← e]; exact hi)
  have neD : ∀ {b : Addr} {xs : List V}, H5 b = some (.tup xs) → b ≠ D := fun e q => by rw [q, hD] at e; cases e
  have eq0 : kvs = (ns.take k).map fun i => (Sum.inl i, V.ref (ft i)) := R.eq
  have tn := take_next hn
  refine ⟨?_, fun i hi => ?_, fun i hi => ?_⟩
  · show putK kvs (.inl n) (.ref T) = (ns.take (k + 1)).map _
    rw [tn, putK_new _ (by rw [eq0]; exact rows_none nin), eq0, List.map_append]
    have z : (ns.take k).map (fun i => ((Sum.inl i : Key), V.ref (ft i))) = (ns.take k).map fun i => (Sum.inl i, V.ref (if i = n then T else ft i)) := List.map_congr_left fun i hi => by rw [if_neg (old i hi)]
    rw [z]
    simp
  · have hi : i ∈ ns.take (k + 1) := hi
    rw [tn] at hi
    rcases List.mem_append.mp hi with hi | hi
    · simp only [if_neg (old i hi)]
      have := s _ _ (R.at_ i hi)
      rw [upd_ne (neD this)]
      exact this
    · rw [List.mem_singleton.mp hi]
      simp only [if_true]
      rw [upd_ne (neD hT)]
      exact hT
  · have hi : i ∈ ns.take (k + 1) := hi
    rw [tn] at hi
    rcases List.mem_append.mp hi with hi | hi
    · simp only [if_neg (old i hi)]
      have := s _ _ (R.bit i hi)
      rw [upd_ne (neD this)]
      exact this
    · rw [List.mem_singleton.mp hi]
      simp only [if_true]
      rw [upd_ne (neD hL)]
      exact hL
section
variable {P : Program} {w : World} {K : PySem.W.Frag} {mg : Str → Option Value} {base : Heap}
def spTable : Sp := fun vs H Q _ => ∃ (v : V) (S : Store) (m : Nat), vs = [v] ∧ m ≤ 2000 ∧ Drawn m S ∧ StoAt H v S ∧
  ∀ (d : Addr) (H' : Hp) (kvs : List (Key × V)) (ft fb : Int → Addr), Same H H' → H d = none → H' d = some (.dK kvs) → TabAt H' (tabOf S) kvs ft fb → Q (.ref d) H'
theorem ok_table {f : Addr} {fd : FuncData} {tN : Tok} (F : Fun K "table_of" "table_of" sTable f fd) (mN : mg "NOWHERE" = some (.int (-1) tN)) (mT : mg "tuple" = none) : FnOk P w K mg base CX0 1 f fd ["store"] spTable := by
  refine F.ok scTable (fun vs H Q E h => ?_) (fun cdv A outer s H vs Q E hr h => ?_)
  · obtain ⟨_, _, _, rfl, _⟩ := h
    rfl
  obtain ⟨v, S, m, rfl, hm, D, A0, q⟩ := h
  have nd := scTable.nd
  have hu := room1 hr
  refine ⟨_, pss_cons (ps_asg (pv 0) (pg_tup rfl (pgs_cons (pg_name (i := 1) nd rfl (.inl rfl)) (pgs_cons (pg_name (i := 2) nd rfl (.inr rfl)) (pgs_cons (pg_name (i := 3) nd rfl (.inr rfl)) (pgs_cons (pg_name (i := 4) nd rfl (.inl rfl)) (pgs_cons (pg_name (i := 5) nd rfl (.inl rfl)) pgs_nil)))))))
    (pss_cons (ps_set (i := 7) nd rfl (.inr rfl) (pe_dc (own := [("item", 6)]) (g := gName 6) (tt := tYes) rfl nd (pi_list (pv 4)) (blkOk_by (own := [("item", 6)]) (N := NTb) (sc := defScope sTable) (by decide +kernel)) (fun _ _ _ _ _ => pg_name (i := 6) nd rfl (Or.inl rfl)) (fun _ _ _ _ _ => pts_nil) (fun _ _ _ _ _ => pv 6)
      (fun _ _ _ _ _ => by
        refine pe_lc (own := [("_", 1)]) (wi := iList K (tVar 2)) (te := tC (.int 0)) (g := gName 1) (tt := tYes) rfl nd ?_ (blkOk_by (own := [("_", 1)]) (N := NTb) (sc := scB) (by decide +kernel)) ?_ ?_ ?_
        · exact pi_list (pv 2)
        · exact fun _ _ _ _ _ => pg_name (i := 1) nd rfl (Or.inl rfl)
        · exact fun _ _ _ _ _ => pts_nil
        · exact fun _ _ _ _ _ => pe_int)))
    (pss_cons (ps_set (i := 8) nd rfl (.inr rfl) (pe_dc (own := [("item", 6)]) (g := gName 6) (tt := tYes) rfl nd (pi_list (pv 4)) (blkOk_by (own := [("item", 6)]) (N := NTb) (sc := defScope sTable) (by decide +kernel)) (fun _ _ _ _ _ => pg_name (i := 6) nd rfl (Or.inl rfl)) (fun _ _ _ _ _ => pts_nil) (fun _ _ _ _ _ => pv 6)
      (fun _ _ _ _ _ => by
        refine pe_lc (own := [("_", 1)]) (wi := iList K (tLst (StX.tStar K (tVar 3) (StX.tStar K (tVar 3) tNil)))) (te := tC (.int (-1))) (g := gName 1) (tt := tYes) rfl nd ?_ (blkOk_by (own := [("_", 1)]) (N := NTb) (sc := scE) (by decide +kernel)) ?_ ?_ ?_
        · exact pi_list (pe_lst (pa_starK (K := K) rfl (pv 3) (pa_starK (K := K) rfl (pv 3) pa_nil)))
        · exact fun _ _ _ _ _ => pg_name (i := 1) nd rfl (Or.inl rfl)
        · exact fun _ _ _ _ _ => pts_nil
        · exact fun _ _ _ _ _ => pe_glob (v := .int (-1)) (by rfl) mN ⟨_, rfl⟩)))
    (pss_cons (ps_for PassesOwn.never rfl (pi_list (pv 5)) (pg_name (i := 9) nd rfl (.inl rfl))
      (pss_one (ps_if (pt_cmpR op_eq (pe_ix (r := rIxT K) ix_tup (pv 9) pe_int (fun _ _ => rfl)) pe_str (nomark _))
        (pss_one (ps_asg pe_int (pg_sub (pe_dget hu (pv 7) (pe_ix (r := rIxT K) ix_tup (pv 9) pe_int (fun _ _ => rfl)) (fun _ _ => rfl)) (pe_bm PySem.F.plainAttrs_list PySem.F.slot_list_index PySem.F.type_list_index mt_index (pv 2) (pa_cons (pe_ix (r := rIxT K) ix_tup (pv 9) pe_int (fun _ _ => rfl)) pa_nil)) set_list)))
        (pss_cons (ps_set (i := 10) nd rfl (.inl rfl) (pe_op op_mul pe_int (pe_bm PySem.F.plainAttrs_list PySem.F.slot_list_index PySem.F.type_list_index mt_index (pv 3) (pa_cons (pe_ix (r := rIxT K) ix_tup (pv 9) pe_int (fun _ _ => rfl)) pa_nil))))
        (pss_cons (ps_asg (pe_ix (r := rIxT K) ix_tup (pv 9) pe_int (fun _ _ => rfl)) (pg_sub (pe_dget hu (pv 8) (pe_ix (r := rIxT K) ix_tup (pv 9) pe_int (fun _ _ => rfl)) (fun _ _ => rfl)) (pv 10) set_list))
        (pss_one (ps_asg (pe_ix (r := rIxT K) ix_tup (pv 9) pe_int (fun _ _ => rfl)) (pg_sub (pe_dget hu (pv 8) (pe_ix (r := rIxT K) ix_tup (pv 9) pe_int (fun _ _ => rfl)) (fun _ _ => rfl)) (pe_op op_add (pv 10) pe_int) set_list))))))))
    (pss_one (ps_ret (pe_dc (own := [("item", 6)]) (g := gName 6) (tt := tYes) (tv := tTup (tCons (tThen (tDGet (tVar 7) (tVar 6)) (kTup K)) (StX.tStar K (tDGet (tVar 8) (tVar 6)) tNil))) rfl nd (pi_list (pv 4)) (blkOk_by (own := [("item", 6)]) (N := NTb) (sc := defScope sTable) (by decide +kernel)) (fun _ _ _ _ _ => pg_name (i := 6) nd rfl (Or.inl rfl)) (fun _ _ _ _ _ => pts_nil) (fun _ _ _ _ _ => pv 6)
      (fun _ _ _ _ _ => by
        refine pe_tup (pa_cons ?_ (StX.pa_star ?_ pa_nil))
        · exact pe_tupleOf (by rfl) mT (pe_dget hu (pv 7) (pv 6) (fun _ _ => rfl))
        · exact pe_dget hu (pv 8) (pv 6) (fun _ _ => rfl)))))))), ?_⟩
  obtain ⟨t, ma, ca, ia, fa, rs, rfl, ht, hma, hca, hia, hfa, tp⟩ := id A0
  have few := D.few
  have ndI := D.items.nodup
  refine ⟨_, rfl, t, _, rfl, .inl (.inl ht), rfl, _, _, rfl, _, _, rfl, _, _, rfl, _, _, rfl, _, _, rfl, rfl, ?_⟩
  -- the marks' rows
  refine ⟨_, rfl, ia, rfl, ⟨_, SqL.of hia⟩, fun D1 nD1 => ?_⟩
  refine dc_ints (ns := S.items) (fun k kvs H' => ∃ f, LstRows H H' (S.items.take k) kvs f (bitsOf S.marks [])) (SqL.of hia) (by omega) nD1 ⟨fun _ => 0, LstRows.nil⟩ (fun k kvs H' R => ?_) (fun k n kvs H' hn s' eD R N hN => ?_) (fun kvs H' s' eD R => ?_)
  · obtain ⟨f, R⟩ := R
    rw [R.len, List.length_take]
    exact Nat.min_le_left _ _
  · obtain ⟨f, R⟩ := R
    have hma' := s' _ _ hma
    refine ⟨rfl, _, rfl, _, rfl, ma, rfl, ⟨_, SqL.of hma'⟩, fun L nL => ?_⟩
    have fm := D.fewMarks
    refine lc_vals (walk_list (K := K) (a := ma) (xs := S.marks.map V.str)) ((bitsOf S.marks [] n).map V.int) (by simp [bitsOf]) (Nat.lt_of_le_of_lt (show (S.marks.map V.str).length ≤ 1000 by rw [List.length_map]; omega) (by decide)) nL (fun H'' s'' => SqL.of (s'' _ _ hma')) (fun j H'' v H3 y => by rw [y.1]; exact fun _ _ h => h) (fun j v H3 H4 b hj hb s3 y R' hR => ?_) (fun H3 s3 e3 => ?_) (fun x σ H Q Q' mo h => mo _ _ h)
    · obtain ⟨rfl, _⟩ := y
      have hb0 : b = .int 0 := by
        rw [bits_none] at hb
        obtain ⟨z, hz, rfl⟩ := at_map hb
        obtain ⟨_, _, rfl⟩ := at_map hz
        rfl
      subst hb0
      exact ⟨rfl, hR _ fun _ _ h => h⟩
    · refine ⟨kvs, .inl n, rfl, s3 _ _ eD, ?_, hN (.ref L) H3 s3 ⟨_, rows_put ndI hn R s3 s' nL e3 (s3 _ _ eD)⟩⟩
      rw [R.len, List.length_take]
      exact Nat.lt_of_le_of_lt (show min k S.items.length ≤ 2000 by omega) (by decide)
  obtain ⟨bA, RB⟩ := R
  rw [List.take_length] at RB
  -- the links' rows
  have hia1 := s' _ _ hia
  refine ⟨_, rfl, ia, rfl, ⟨_, SqL.of hia1⟩, fun D2 nD2 => ?_⟩
  refine dc_ints (ns := S.items) (fun k kvs2 H2 => ∃ f, LstRows H' H2 (S.items.take k) kvs2 f (endsOf S.columns [])) (SqL.of hia1) (by omega) nD2 ⟨fun _ => 0, LstRows.nil⟩ (fun k kvs2 H2 R => ?_) (fun k n kvs2 H2 hn s2 eD2 R N hN => ?_) (fun kvs2 H2 s2 eD2 R => ?_)
  · obtain ⟨f, R⟩ := R
    rw [R.len, List.length_take]
    exact Nat.min_le_left _ _
  · obtain ⟨f, R⟩ := R
    have hca' := s2 _ _ (s' _ _ hca)
    have fc := D.fewColumns
    refine ⟨rfl, _, rfl, _, rfl, ca, _, rfl, .inr (SqL.of hca'), _, rfl, ca, _, rfl, .inr (SqL.of hca'), Nat.le_trans (show _ ≤ 1000 by simp only [List.length_append, List.length_map, List.length_nil]; omega) (by decide), fun L0 nL0 => ?_⟩
    have g0 := same_new nL0 (o := .lst (S.columns.map V.str ++ (S.columns.map V.str ++ [])))
    have f0 : upd H2 L0 (.lst (S.columns.map V.str ++ (S.columns.map V.str ++ []))) L0 = some (.lst (S.columns.map V.str ++ (S.columns.map V.str ++ []))) := upd_same
    generalize upd H2 L0 (.lst (S.columns.map V.str ++ (S.columns.map V.str ++ []))) = H3 at g0 f0 ⊢
    have le : (S.columns.map V.str ++ (S.columns.map V.str ++ [])).length = ((endsOf S.columns [] n).map V.int).length := by
      rw [ends_none, List.append_nil, ← List.map_append, List.length_map, List.length_map, List.length_map]
    have ll : (S.columns.map V.str ++ (S.columns.map V.str ++ [])).length ≤ 1000 := by simp only [List.length_append, List.length_map, List.length_nil]; omega
    generalize S.columns.map V.str ++ (S.columns.map V.str ++ []) = cs2 at f0 le ll
    refine ⟨L0, rfl, ⟨_, SqL.of f0⟩, fun L nL => ?_⟩
    refine lc_vals (walk_list (K := K) (a := L0) (xs := cs2)) ((endsOf S.columns [] n).map V.int) le.symm (Nat.lt_of_le_of_lt ll (by decide)) nL (fun H'' s'' => SqL.of (s'' _ _ f0)) (fun j H'' v H3 y => by rw [y.1]; exact fun _ _ h => h) (fun j v H4 H5 b hj hb s3 y R' hR => ?_) (fun H4 s4 e4 => ?_) (fun x σ H Q Q' mo h => mo _ _ h)
    · obtain ⟨rfl, _⟩ := y
      have hb0 : b = .int (-1) := by
        rw [ends_none] at hb
        obtain ⟨z, hz, rfl⟩ := at_map hb
        obtain ⟨_, _, rfl⟩ := at_map hz
        rfl
      subst hb0
      exact ⟨rfl, hR _ fun _ _ h => h⟩
    · have s24 := g0.trans s4
      have nL2 : H2 L = none := by
        cases q : H2 L with
        | none => rfl
        | some o => rw [g0 _ _ q] at nL; cases nL
      refine ⟨kvs2, .inl n, rfl, s24 _ _ eD2, ?_, hN (.ref L) H4 s24 ⟨_, rows_put ndI hn R s24 s2 nL2 e4 (s24 _ _ eD2)⟩⟩
      rw [R.len, List.length_take]
      exact Nat.lt_of_le_of_lt (show min k S.items.length ≤ 2000 by omega) (by decide)
  obtain ⟨eA, RE⟩ := R
  rw [List.take_length] at RE
  have RB0 := RB
  have RB := RB.same s2
  have eD1 := s2 _ _ eD
  have s02 := s'.trans s2
  -- all rows apart
  have apart : ∀ i ∈ S.items, ∀ j ∈ S.items, bA i ≠ eA j := fun i hi j hj e => by
    have z := RE.new j hj
    rw [← e, RB0.at_ i hi] at z
    cases z
  have newE : ∀ i ∈ S.items, H (eA i) = none := fun i hi => by
    cases q : H (eA i) with
    | none => rfl
    | some o =>
      have := RE.new i hi
      rw [s' _ _ q] at this
      cases this
  have newB := RB.new
  have nD1' : D1 ≠ D2 := fun e => by
    rw [← e, eD] at nD2
    cases nD2
  have ndS := drawn_nd D
  refine ⟨_, rfl, fa, rfl, ⟨_, SqL.of (s02 _ _ hfa)⟩, for_list (K := K) (a := fa) (xs := rs) (fun k σ H3 => ∃ y9 y10, σ = [some (.ref t), some (.str "store"), some (.ref ma), some (.ref ca), some (.ref ia), some (.ref fa), none, some (.ref D1), some (.ref D2), y9, y10] ∧ Going H H3 S (S.facts.take k) D1 D2 kvs kvs2 bA eA)
    ⟨none, none, rfl, s02, eD1, eD2, RB.at_, RE.at_⟩ (fun k σ H3 _ hP => ?_) (fun k x σ H3 hx hP => ?_) fun σ H3 hP => ?_⟩
  · obtain ⟨y9, y10, rfl, G⟩ := hP
    exact SqL.of (G.same _ _ hfa)
  · obtain ⟨y9, y10, rfl, G⟩ := hP
    obtain ⟨fx, tt, rfl, hfx, ht2⟩ := Tups.get tp hx
    obtain ⟨y, hy, rfl⟩ := at_map ht2
    have hfx3 := G.same _ _ hfx
    have hym := List.mem_of_getElem? hy
    have oy := D.facts y hym
    have tn : S.facts.take (k + 1) = S.facts.take k ++ [y] := take_next hy
    have hma3 := G.same _ _ hma
    have hca3 := G.same _ _ hca
    have get : ∀ {D : Addr} {kv : List (Key × V)} {f : Int → Addr} {i : Int}, H3 D = some (.dK kv) → kv = S.items.map (fun i => (Sum.inl i, V.ref (f i))) → i ∈ S.items → DGet H3 D (.int i) (some (.ref (f i))) := fun {D kv f i} e ek hi => by
      have z := DGet.k (k := Sum.inl i) e
      rw [ek, rows_get hi] at z
      exact z
    cases y with
    | mark w i =>
      obtain ⟨j, hj, hj2, none_⟩ := strs_at ndS.1 oy.1
      refine ⟨_, rfl, fx, _, 0, .str "mark", rfl, rfl, .inl (.inl hfx3), atI_nat (j := 0) rfl, rfl, _, rfl, iteT' (by simp) ?_⟩
      refine ⟨_, rfl, _, rfl, fx, _, 2, .int i, rfl, rfl, .inl (.inl hfx3), atI_nat (j := 2) rfl, D1, .ref (bA i), rfl, get G.d1 RB.eq oy.2, ?_⟩
      refine ⟨_, rfl, .inl ⟨rfl, _, SqL.of hma3⟩, _, rfl, fx, _, 1, .str w, rfl, rfl, .inl (.inl hfx3), atI_nat (j := 1) rfl, ma, _, .str w, j, .str w, rfl, rfl, SqL.of hma3, rfl, flat_strV _, hj2, (by show (w == w) = true; simp), none_, ?_⟩
      have at0 := G.b i oy.2
      have jl : j < ((bitsOf S.marks (S.facts.take k) i).map V.int).length := by
        rw [List.length_map]
        unfold bitsOf
        rw [List.length_map]
        exact (List.getElem?_eq_some_iff.mp hj).1
      refine ⟨bA i, _, _, j, rfl, rfl, at0, ixN_nat rfl jl, _, _, rfl, ?_⟩
      rw [tn]
      exact G.mark RB.inj apart newB ndS.1 oy.2 hj
    | link w a b =>
      obtain ⟨j, hj, hj2, none_⟩ := strs_at ndS.2 oy.1
      refine ⟨_, rfl, fx, _, 0, .str "link", rfl, rfl, .inl (.inl hfx3), atI_nat (j := 0) rfl, rfl, _, rfl, iteF' (by simp; decide +kernel) ?_⟩
      refine ⟨_, rfl, .inl ⟨rfl, _, SqL.of hca3⟩, _, rfl, fx, _, 1, .str w, rfl, rfl, .inl (.inl hfx3), atI_nat (j := 1) rfl, ca, _, .str w, j, .str w, rfl, rfl, SqL.of hca3, rfl, flat_strV _, hj2, (by show (w == w) = true; simp), none_, ?_⟩
      refine ⟨_, _, rfl, rfl, .inl ⟨by decide, by decide⟩, ?_⟩
      have e1 := G.e a oy.2.1
      have jc : j < S.columns.length := (List.getElem?_eq_some_iff.mp hj).1
      have el : ∀ i, (endsOf S.columns (S.facts.take k) i).length = 2 * S.columns.length := fun i => ends_len _ _ _
      have no1 : ∀ b', Fact.link w a b' ∉ S.facts.take k := fun b' hb' => by
        have hb2 := List.mem_of_mem_take hb'
        have q : b' = b := one_place (D.links w).1 (mem_links hb2) (mem_links hym)
        rw [q] at hb'
        exact (take_nodup (rise_nodup D.rise) hy) hb'
      have no2 : ∀ a', Fact.link w a' b ∉ S.facts.take k := fun a' ha' => by
        have hb2 := List.mem_of_mem_take ha'
        have q : a' = a := one_place2 (D.links w).2.1 (mem_links hb2) (mem_links hym)
        rw [q] at ha'
        exact (take_nodup (rise_nodup D.rise) hy) ha'
      obtain ⟨e2, G2⟩ := G.link RE.inj apart newE ndS.2 oy.2.1 oy.2.2 hj no1 no2
      have l1 : 2 * j < ((endsOf S.columns (S.facts.take k) a).map V.int).length := by rw [List.length_map, el]; omega
      refine ⟨_, rfl, fx, _, 3, .int b, rfl, rfl, .inl (.inl hfx3), atI_nat (j := 3) rfl, _, rfl, _, rfl, fx, _, 2, .int a, rfl, rfl, .inl (.inl hfx3), atI_nat (j := 2) rfl, D2, .ref (eA a), rfl, get G.d2 RE.eq oy.2.1, _, rfl, eA a, _, _, 2 * j, rfl, rfl, e1, ixN_nat (by omega) l1, ?_⟩
      have s4 := same_upd (o := .lst (((endsOf S.columns (S.facts.take k) a).map V.int).set (2 * j) (.int b))) G.same (newE a oy.2.1)
      have hfx4 := s4 _ _ hfx
      have d4 : upd H3 (eA a) (.lst (((endsOf S.columns (S.facts.take k) a).map V.int).set (2 * j) (.int b))) D2 = some (.dK kvs2) := by
        rw [upd_ne fun q => by rw [← q, G.d2] at e1; cases e1]
        exact G.d2
      have get4 : DGet (upd H3 (eA a) (.lst (((endsOf S.columns (S.facts.take k) a).map V.int).set (2 * j) (.int b)))) D2 (.int b) (some (.ref (eA b))) := by
        have z := DGet.k (k := Sum.inl b) d4
        rw [RE.eq, rows_get oy.2.2] at z
        exact z
      have l2 : 2 * j + 1 < ((if b = a then (endsOf S.columns (S.facts.take k) b).set (2 * j) b else endsOf S.columns (S.facts.take k) b).map V.int).length := by
        rw [List.length_map]
        split
        · rw [List.length_set, el]; omega
        · rw [el]; omega
      refine ⟨_, rfl, fx, _, 2, .int a, rfl, rfl, .inl (.inl hfx4), atI_nat (j := 2) rfl, _, rfl, _, rfl, fx, _, 3, .int b, rfl, rfl, .inl (.inl hfx4), atI_nat (j := 3) rfl, D2, .ref (eA b), rfl, get4, _, rfl, _, _, rfl, rfl, eA b, _, _, 2 * j + 1, rfl, rfl, e2, ixN_nat (by omega) l2, _, _, rfl, ?_⟩
      rw [tn]
      exact G2
  · obtain ⟨y9, y10, rfl, G⟩ := hP
    rw [tp.length, List.length_map, List.take_length] at G
    have hia3 := G.same _ _ hia
    refine ⟨_, rfl, ia, rfl, ⟨_, SqL.of hia3⟩, fun D3 nD3 => ?_⟩
    refine dc_ints (ns := S.items) (fun k kvs3 H4 => ∃ ft fb, TabAt H4 ⟨S.items.take k, bitsOf S.marks S.facts, endsOf S.columns S.facts⟩ kvs3 ft fb) (SqL.of hia3) (by omega) nD3 ⟨fun _ => 0, fun _ => 0, rfl, (fun i h => by cases h), (fun i h => by cases h)⟩ (fun k kvs3 H4 R => ?_) (fun k n kvs3 H4 hn s4 eD3 R N hN => ?_) (fun kvs3 H4 s4 eD3 R => ?_)
    · obtain ⟨ft, fb, R⟩ := R
      rw [R.eq, List.length_map, List.length_take]
      exact Nat.min_le_left _ _
    · obtain ⟨ft, fb, R⟩ := R
      have hnm := List.mem_of_getElem? hn
      have get : ∀ {D : Addr} {kv : List (Key × V)} {f : Int → Addr} {H5 : Hp}, H5 D = some (.dK kv) → kv = S.items.map (fun i => (Sum.inl i, V.ref (f i))) → DGet H5 D (.int n) (some (.ref (f n))) := fun {D kv f H5} e ek => by
        have z := DGet.k (k := Sum.inl n) e
        rw [ek, rows_get hnm] at z
        exact z
      have gb := s4 _ _ (G.b n hnm)
      refine ⟨rfl, _, rfl, _, rfl, _, rfl, D1, .ref (bA n), rfl, get (s4 _ _ G.d1) RB.eq, .inl ⟨bA n, _, rfl, SqL.of gb, fun L nL => ?_⟩⟩
      have g5 := same_new nL (o := .tup ((bitsOf S.marks S.facts n).map V.int))
      have f5 : upd H4 L (.tup ((bitsOf S.marks S.facts n).map V.int)) L = some (.tup ((bitsOf S.marks S.facts n).map V.int)) := upd_same
      generalize upd H4 L (.tup ((bitsOf S.marks S.facts n).map V.int)) = H5 at g5 f5 ⊢
      have s35 := s4.trans g5
      refine ⟨_, rfl, _, rfl, D2, .ref (eA n), rfl, get (s35 _ _ G.d2) RE.eq, eA n, _, rfl, .inr (SqL.of (s35 _ _ (G.e n hnm))), ?_, fun T nT => ?_⟩
      · have : (endsOf S.columns S.facts n).length = 2 * S.columns.length := ends_len _ _ _
        have := D.fewColumns
        refine Nat.le_trans (show _ ≤ 1000 from ?_) (by decide)
        simp only [List.length_cons, List.length_append, List.length_map, List.length_nil]
        omega
      rw [List.append_nil]
      have g6 := same_new nT (o := .tup (.ref L :: (endsOf S.columns S.facts n).map V.int))
      have f6 : upd H5 T (.tup (.ref L :: (endsOf S.columns S.facts n).map V.int)) T = some (.tup (.ref L :: (endsOf S.columns S.facts n).map V.int)) := upd_same
      generalize upd H5 T (.tup (.ref L :: (endsOf S.columns S.facts n).map V.int)) = H6 at g6 f6 ⊢
      have s46 := g5.trans g6
      refine ⟨kvs3, .inl n, rfl, s46 _ _ eD3, ?_, hN (.ref T) H6 s46 ?_⟩
      · rw [R.eq, List.length_map, List.length_take]
        exact Nat.lt_of_le_of_lt (show min k S.items.length ≤ 2000 by omega) (by decide)
      · exact ⟨_, _, tab_put ndI hn R s46 (s46 _ _ eD3) f6 (g6 _ _ f5)⟩
    · obtain ⟨ft, fb, R⟩ := R
      rw [List.take_length] at R
      have s04 := G.same.trans s4
      have nD : H D3 = none := by
        cases q : H D3 with
        | none => rfl
        | some o => rw [G.same _ _ q] at nD3; cases nD3
      exact q D3 H4 kvs3 ft fb s04 nD eD3 R
end
end DQ

set_option Elab.async false
set_option linter.all false
set_option maxRecDepth 100000
set_option maxHeartbeats 2000000
namespace DQ
open PySem PySem.Spec PyProof.Rows L2
/-! ### for i, x in enumerate(t), t a tuple -/
abbrev tupIt (a : Addr) : Obj := { cls := .type "tuple_iterator", data := .fields #[.ref a, .int 0 0] }
abbrev enumOf (it : Addr) : Obj := { cls := .type "enumerate", data := .fields #[.none, .bool false, .ref it, rawInt 0, .none, .none] }
theorem enumT_new (a : Addr) (vs : Array Value) :
    Meets (Builtin.«enumerate.__new__» ⟨[.type "enumerate", .ref a], []⟩) (fun _ W t => t.heap.IsTuple a vs ∧ W (.ok (.ret (.ref (t.heap.push (tupIt a)).objs.size))) { t with heap := (t.heap.push (tupIt a)).push (enumOf t.heap.objs.size) }) := by
  refine .of_wp fun p w A W t ask => ?_
  obtain ⟨h0, gs, dr, tok, out⟩ := t
  obtain ⟨isT, ask⟩ := ask
  have sub_ := sub_enumerate
  have begin_ : ∀ {A' : Around} {E' : Value → Shared → Prop} {Q' : Value → Shared → Prop}, Q' (.ref h0.objs.size) ⟨h0.push (tupIt a), gs, dr, tok, out⟩ → wpAny (model p w) A' (pyIter (.ref a)) Q' E' ⟨h0, gs, dr, tok, out⟩ := fun {A' E' Q'} z =>
    (begins_tuple a vs).iter p w A' E' ⟨h0, gs, dr, tok, out⟩ Q' isT z
  wp_walk using begin_
  refine wpAny_stack_any fun _ => wpAny_pure ?_
  split
  · rename_i c _ _ _ _ _
    cases (c == Value.type "enumerate") <;> (wp_walk using begin_; exact ⟨_, rfl, ask⟩)
  · (wp_walk using begin_; exact ⟨_, rfl, ask⟩)
theorem call_enumT {P : Program} {w : World} {A : Around} {E : Value → Shared → Prop} {t : Shared} {a : Addr} {vs : Array Value} {Q : Value → Shared → Prop} (isT : t.heap.IsTuple a vs)
    (q : ∀ h2 : Heap, IsEnum h2 (t.heap.objs.size + 1) t.heap.objs.size 0 .none → h2.IsTupleIter t.heap.objs.size a 0 → (∀ b u, t.heap.get? b = some u → h2.get? b = some u) → Q (.ref (t.heap.objs.size + 1)) { t with heap := h2 }) :
    wpAny (model P w) A (call (.type "enumerate") [.ref a]) Q E t := by
  refine callType_new F.called_enumerate (by decide) (F.typeCall_enumerate_1 _) (F.newCall_enumerate_1 _) (fun z => F.args_object_init_2 z _) F.entry_enumerate_new (enumT_new a vs) ⟨isT, ?_⟩
  have size1 : (t.heap.push (tupIt a)).objs.size = t.heap.objs.size + 1 := Heap.size_push ..
  show _ ∧ _
  rw [size1]
  have en : IsEnum ((t.heap.push (tupIt a)).push (enumOf t.heap.objs.size)) (t.heap.objs.size + 1) t.heap.objs.size 0 .none := by
    have z := Heap.get?_push_size (t.heap.push (tupIt a)) (o := enumOf t.heap.objs.size) rfl
    rwa [size1] at z
  exact ⟨⟨_, en, rfl⟩, q _ en ⟨_, Heap.get?_push_of_some _ (Heap.get?_push_size _ rfl), rfl, rfl⟩ fun _ _ z => Heap.get?_push_of_some _ (Heap.get?_push_of_some _ z)⟩
/-- the tuple's items, each in a new pair with its place -/
def ItT (K : PySem.W.Frag) (a : Addr) : It :=
  ⟨fun i H => ∃ (ys : List V) (y : V), SqT K H a ys ∧ ys[i]? = some y, fun i H v G => ∃ T y, v = .ref T ∧ H T = none ∧ G = upd H T (.tup [.int (i : Nat), y]) ∧ ∀ ys, SqT K H a ys → ys[i]? = some y, fun i H => ∃ ys : List V, SqT K H a ys ∧ ys.length ≤ i⟩
theorem turn_enumT {P : Program} {w : World} {K : PySem.W.Frag} {elts : List Expr} {kk : Nat} {tp : Pos} (a e it : Addr) : Turn P w K (.Tuple elts kk tp) (ItT K a) [e, it] e (fun i h => (∃ old, IsEnum h e it ((i : Nat) : Int) old) ∧ h.IsTupleIter it a i ∧ e ≠ it) where
  mem := List.mem_cons_self ..
  obj := fun i h st b hb => by
    obtain ⟨⟨_, en⟩, ⟨u, hu, _, du⟩, _⟩ := st
    rcases List.mem_cons.mp hb with z | z
    · subst z
      exact ⟨_, en, fun _ q => nomatch q⟩
    · rw [List.mem_singleton.mp z]
      exact ⟨u, hu, fun _ q => by rw [du] at q; cases q⟩
  keep := fun i h h' st k => by
    obtain ⟨⟨old, en⟩, ⟨u, hu, cu, du⟩, ne⟩ := st
    exact ⟨⟨old, k e (List.mem_cons_self ..) _ en⟩, ⟨u, k it (by simp) _ hu, cu, du⟩, ne⟩
  item := by
    intro X hP hw hK calm i pins s σ H E I free st hg
    subst hP hw hK
    obtain ⟨⟨old, en⟩, itr, ne⟩ := st
    obtain ⟨ys, y, sq, hy⟩ := hg
    obtain ⟨vs, rv, isT, _⟩ := I.tuple sq
    have isT0 : s.heap.IsTuple a vs.toArray := isT
    obtain ⟨u, hu, ru⟩ := rv.get hy
    obtain ⟨lt, _⟩ := List.getElem?_eq_some_iff.mp hu
    have neA : a ≠ it := fun q => by
      obtain ⟨o1, g1, c1, _⟩ := isT0
      obtain ⟨o2, g2, c2, _⟩ := itr
      rw [q, g2] at g1
      cases g1
      rw [c2] at c1
      exact absurd c1 (by decide)
    have neE : e ≠ a := fun q => by
      obtain ⟨o1, g1, c1, _⟩ := isT0
      rw [← q, en] at g1
      cases g1
      have c3 : Value.type "enumerate" = Value.type "tuple" := c1
      exact absurd c3 (by decide)
    have live1 : e < s.heap.objs.size := Heap.lt_size en
    have live2 : it < s.heap.objs.size := by obtain ⟨_, z, _⟩ := itr; exact Heap.lt_size z
    have dr := Draws.tuple (prog := X.prog) (w := X.w) (A := X.A.in1) (I.ok.hd calm) it a neA vs.toArray
    refine wpAny_pyNext_enum_itemD dr en ⟨itr, isT0⟩ (by simpa using lt) ne (by simp [ne, neE]) fun x h1 tk hx out1 st1 hT _ keep1 => ?_
    have ex : x = u := by
      have hx : vs.toArray[i]? = some x := hx
      rw [List.getElem?_toArray, hu] at hx
      exact (Option.some.inj hx).symm
    subst ex
    refine ⟨_, rfl, wpAny_letOwnedTupleGo_enum (s := { s with heap := h1, toks := tk + 1 }) out1 fun h2 en2 sb => ?_⟩
    have pair : h2.get? s.heap.objs.size = some { cls := .type "tuple", data := .seq #[.int i tk, x] } := (sb.2 _ (Nat.ne_of_gt live1)).trans hT
    have isNew : ObjOk X.prog X.w (upd H s.heap.objs.size (.tup [.int (i : Nat), y])) h2 s.heap.objs.size (.tup [.int (i : Nat), y]) :=
      ⟨show 2 ≤ sizeLine by decide, [.int i tk, x], .cons ⟨_, rfl⟩ (.cons ru .nil), _, pair, rfl, _, rfl⟩
    have J : Inv X pins σ (upd H s.heap.objs.size (.tup [.int (i : Nat), y])) { s with heap := h2, toks := tk + 1 } :=
      I.turnedNew (ch := [e, it]) (fun b ob hb z => (sb.2 b (fun q => hb (by simp [q]))).trans (keep1 b ob (fun q => hb (by simp [q])) (fun q => hb (by simp [q])) z)) free (Nat.le_refl _) isNew
    refine ⟨.ref s.heap.objs.size, _, J, rfl, ⟨_, y, rfl, I.hok.fresh (Nat.le_refl _), rfl, fun zs hz => by rw [I.tuple_inj hz sq]; exact hy⟩, ⟨⟨x, ?_⟩, ?_, ne⟩, fun b hb => ?_⟩
    · have z : ((i + 1 : Nat) : Int) = (i : Int) + 1 := by omega
      rw [z]
      exact en2
    · obtain ⟨o2, g2, c2, d2⟩ := st1.1
      exact ⟨o2, (sb.2 it (Ne.symm ne)).trans g2, c2, d2⟩
    · have lb : b < s.heap.objs.size := by
        rcases List.mem_cons.mp hb with z | z
        · subst z; exact live1
        · rw [List.mem_singleton.mp z]; exact live2
      rw [upd_ne (Nat.ne_of_lt lb)]
      exact (free b hb).1
  done := by
    intro X hP hw hK calm i pins s σ H E I free st hg
    subst hP hw hK
    obtain ⟨⟨old, en⟩, itr, ne⟩ := st
    obtain ⟨ys, sq, ly⟩ := hg
    obtain ⟨vs, rv, isT, _⟩ := I.tuple sq
    have isT0 : s.heap.IsTuple a vs.toArray := isT
    have ty : s.TypeIs (.ref e) "enumerate" := ⟨_, en, rfl⟩
    obtain ⟨f0, f1, f2, f3, f4, f5⟩ := free it (by simp)
    have out_ : vs.toArray[i]? = none := by
      have := rv.length
      rw [List.getElem?_toArray, List.getElem?_eq_none_iff]
      omega
    unfold pyNext
    refine wpAny_bind (wpAny_attempt (wpAny_callSpecial?_slot (name := Str.ofString "__next__") ty F.slot_enumerate_next (wpAny_call_entry F.slot_enumerate_next ty F.entry_enumerate_next ?_ (F.args_enumerate_next_1 _))))
    show wpAny _ _ (field (.ref e) 2 >>= fun _ => _) _ _ _
    refine wpAny_bind (wpAny_field en rfl (x := .ref it) rfl (wpAny_bind (wpAny_nextOf_tuple_end (I.ok.hd calm) itr isT0 out_ fun h1 x eb stop_ => ?_)))
    obtain ⟨o, ho, co⟩ := stop_
    exact wpAny_bind (wpAny_isInstance (T := "StopIteration") (b := true) ⟨o, ho, co⟩ isSubtype_stop (wpAny_pure ⟨rfl, I.turned (t' := s.toks) (fun b u hb z => eb b u hb z) f0 f1 f3 f4 f5⟩))
  self := fun A i s Q E st q => by
    obtain ⟨⟨_, en⟩, _⟩ := st
    exact wpAny_pyIter_enum en q
def iEnumT (K : PySem.W.Frag) (ta : TA) : TI := fun σ H R => ta σ H fun vs H1 => ∃ a ys, vs = [.ref a] ∧ SqT K H1 a ys ∧ R (ItT K a) H1
theorem pi_enumT {X : Cx} {e : Expr} {ta : TA} {p q tp : Pos} {elts : List Expr} {kk : Nat} (gl : Gl X "enumerate") (no : X.mg "enumerate" = none) (ha : PA X [e] ta) (one : starEach [e] X.env = [(false, eval e X.env)] := by rfl) : PI X (.Tuple elts kk tp) (.Call (.Name "enumerate" p) [e] [] q) (iEnumT X.K ta) := by
  constructor
  intro pins s σ H R I ask
  refine Call_ (ld_blt I gl no boot_enumerate (PyProof.Rows.callWith_type1 (thn (ha.run q pins s σ H _ I ask) fun us t ⟨ws, H1, I1, r1, q1⟩ => ?_) one rfl))
  obtain ⟨a, ys, rfl, sq, go⟩ := q1
  cases r1 with
  | cons r rr =>
    cases rr
    cases r
    obtain ⟨vs, rv, isT, _⟩ := I1.tuple sq
    refine call_enumT (vs := vs.toArray) isT fun h2 en itr kept => wpAny_pyIter_enum en ?_
    refine ⟨t.heap.objs.size + 1, [t.heap.objs.size + 1, t.heap.objs.size], _, _, H1, rfl, I1.kept (t' := t.toks) kept, turn_enumT a (t.heap.objs.size + 1) t.heap.objs.size, ⟨⟨.none, en⟩, itr, Nat.succ_ne_self _⟩, fun b hb => ?_, go⟩
    have le : t.heap.objs.size ≤ b := by
      rcases List.mem_cons.mp hb with z | z
      · rw [z]; exact Nat.le_add_right _ _
      · rw [List.mem_singleton.mp z]; exact Nat.le_refl _
    exact I1.fpOk le (I1.hok.fresh le)
theorem walk_enumT {K : PySem.W.Frag} {a : Addr} {xs : List V} : Walk (ItT K a) xs.length (fun H => SqT K H a xs) (YPair (fun i => some (.int (i : Nat))) (fun i => xs[i]?)) := by
  refine ⟨fun i _ lt sq => ⟨xs, xs[i], sq, by simp [lt]⟩, fun _ sq => ⟨xs, sq, Nat.le_refl _⟩, fun i H v G _ sq y => ?_⟩
  obtain ⟨T, z, e1, e2, e3, e4⟩ := y
  exact ⟨T, .int (i : Nat), z, e1, e2, e3, rfl, e4 xs sq⟩
end DQ

set_option Elab.async false
set_option linter.all false
set_option maxRecDepth 100000
set_option maxHeartbeats 2000000
namespace DQ
open PySem PySem.Spec PyProof.Rows L2
/-! ### t.index(i), a tuple of whole numbers -/
theorem flat_intV (ns : List Int) : (ns.map V.int).all flatV = true := List.all_eq_true.mpr fun v hv => by
  obtain ⟨i, _, rfl⟩ := List.mem_map.mp hv
  rfl
theorem idx_first {i : Int} : ∀ {ns : List Int} (m : Nat), m < ns.idxOf i → ns[m]? ≠ some i
  | [], m, h => by simp
  | x :: r, m, h => by
    rw [List.idxOf_cons] at h
    by_cases e : x = i
    · rw [e] at h
      simp at h
    · rw [beq_false_of_ne e] at h
      cases m with
      | zero => simpa using e
      | succ m =>
        rw [List.getElem?_cons_succ]
        exact idx_first m (by simpa using h)
theorem dpAll_app {K : PySem.W.Frag} {H : Hp} : ∀ {xs ys : List V} {ds es : List PyData}, DpAll K H xs ds → DpAll K H ys es → DpAll K H (xs ++ ys) (ds ++ es)
  | _, _, _, _, .nil, h => h
  | _, _, _, _, .cons a r, h => .cons a (dpAll_app r h)
def rIdxI (K : PySem.W.Frag) : V → List V → Hp → VK → Prop := fun x xs H Q => ∃ (a : Addr) (ns : List Int) (i : Int), x = .ref a ∧ xs = [.int i] ∧ SqT K H a (ns.map V.int) ∧ i ∈ ns ∧ Q (.int ((ns.idxOf i : Nat) : Int)) H
theorem mt_idxI {X : Cx} : MtR X "tuple.index" (rIdxI X.K) := by
  intro pins s σ H x xs v us Q I rx rs ask
  obtain ⟨a, ns, i, rfl, rfl, sq, hi, q⟩ := ask
  cases rx
  obtain ⟨_, rfl, tk, rfl⟩ := vals1 rs
  obtain ⟨vs, rv, ⟨⟨cl, dc, da, sl⟩, ho, hc, cnt, hd⟩, _⟩ := I.tuple sq
  simp only at hc hd
  subst hc hd
  have size_ : vs.toArray.size = ns.length := by rw [List.size_toArray, ← rv.length, List.length_map]
  have lt : ns.idxOf i < ns.length := List.idxOf_lt_length_of_mem hi
  have each : ∀ (m : Nat) (hm : m < vs.toArray.size), ∃ t', vs.toArray[m] = Value.int (ns[m]'(by rw [← size_]; exact hm)) t' := fun m hm => by
    have hm' : m < ns.length := by rw [← size_]; exact hm
    obtain ⟨w, hw, t', hw'⟩ := rv.get (i := m) (x := .int ns[m]) (by simp [hm'])
    have e := (List.getElem?_eq_some_iff.mp hw).2
    exact ⟨t', by rw [← hw', ← e]; simp⟩
  refine call_meets PySem.F.slot_tuple_index ⟨_, ho, rfl⟩ PySem.F.entry_tuple_index (PySem.F.args_tuple_index_2 _ _)
    (TI.tuple_indexAt a vs.toArray cnt dc sl (.int i tk) (eqU (.int i)) (ns.idxOf i) (by rw [size_]; exact lt) ?_ fun m hm lm => ?_)
    ⟨ho, fun w hw => mem_eqAt (x := .int i) ⟨tk, rfl⟩ rfl rv (flat_intV ns) w (by simpa using hw), ⟨.int ((ns.idxOf i : Nat) : Int), H, I.tok _, ⟨_, rfl⟩, q⟩⟩
  · obtain ⟨t', e⟩ := each (ns.idxOf i) (by rw [size_]; exact lt)
    rw [e, List.getElem_idxOf lt]
    show (i == i) = true
    simp
  · obtain ⟨t', e⟩ := each m hm
    rw [e]
    have hm' : m < ns.length := by rw [← size_]; exact hm
    have ne : ns[m] ≠ i := fun z => by
      exact idx_first m lm (by rw [List.getElem?_eq_getElem hm', z])
    show (ns[m] == i) = false
    exact beq_false_of_ne ne
/-! ### data of tuples and numbers stay where another thing is written -/
theorem sqT_upd {K : PySem.W.Frag} {H : Hp} {a D : Addr} {o : HO} {xs : List V} (h : SqT K H a xs) (nt : ∀ zs, ¬ Rd H D (.tup zs)) : SqT K (upd H D o) a xs := by
  rcases h with (h | ⟨z, h⟩) | h
  · have ne : a ≠ D := fun e => nt xs (by rw [← e]; exact .inl h)
    exact .inl (.inl (by rw [upd_ne ne]; exact h))
  · have ne : a ≠ D := fun e => nt xs (by rw [← e]; exact .inr ⟨z, h⟩)
    exact .inl (.inr ⟨z, by rw [upd_ne ne]; exact h⟩)
  · exact .inr h
theorem dpAll_upd {K : PySem.W.Frag} {H : Hp} {D : Addr} {o : HO} {s : Shp} (one : ∀ d v, Like s d → Dp K H v d → Dp K (upd H D o) v d) : ∀ {vs : List V} {ds : List PyData}, (∀ d ∈ ds, Like s d) → DpAll K H vs ds → DpAll K (upd H D o) vs ds
  | _, _, _, .nil => .nil
  | _, _, l, .cons h t => .cons (one _ _ (l _ (List.mem_cons_self ..)) h) (dpAll_upd one (fun d hd => l d (List.mem_cons_of_mem _ hd)) t)
theorem dp_upd {K : PySem.W.Frag} {H : Hp} {D : Addr} {o : HO} (nt : ∀ zs, ¬ Rd H D (.tup zs)) : ∀ (s : Shp) (d : PyData) (v : V), Like s d → Dp K H v d → Dp K (upd H D o) v d
  | .int, _, _, ⟨n, rfl⟩, h => by
    cases h
    exact .int n
  | .row s, _, _, ⟨ds, rfl, l⟩, h => by
    cases h with
    | tup sq ha => exact .tup (sqT_upd sq nt) (dpAll_upd (dp_upd nt s) l ha)
  | .two a b, _, _, ⟨x, y, rfl, l1, l2⟩, h => by
    cases h with
    | tup sq ha =>
      cases ha with
      | cons h1 t =>
        cases t with
        | cons h2 t =>
          cases t
          exact .tup (sqT_upd sq nt) (.cons (dp_upd nt a _ _ l1 h1) (.cons (dp_upd nt b _ _ l2 h2) .nil))
  | .three a b c, _, _, ⟨x, y, z, rfl, l1, l2, l3⟩, h => by
    cases h with
    | tup sq ha =>
      cases ha with
      | cons h1 t =>
        cases t with
        | cons h2 t =>
          cases t with
          | cons h3 t =>
            cases t
            exact .tup (sqT_upd sq nt) (.cons (dp_upd nt a _ _ l1 h1) (.cons (dp_upd nt b _ _ l2 h2) (.cons (dp_upd nt c _ _ l3 h3) .nil)))
theorem no_tup_lst {H : Hp} {D : Addr} {xs : List V} (h : H D = some (.lst xs)) : ∀ zs, ¬ Rd H D (.tup zs) := fun zs r => by
  rcases r with r | ⟨o, r⟩ <;> rw [h] at r <;> cases r
theorem no_tup_frz {H : Hp} {D : Addr} {o : Obj} {kvs : List (Key × V)} (h : H D = some (.frz o (.dK kvs))) : ∀ zs, ¬ Rd H D (.tup zs) := fun zs r => by
  rcases r with r | ⟨o', r⟩ <;> rw [h] at r <;> cases r
theorem no_tup_dk {H : Hp} {D : Addr} {kvs : List (Key × V)} (h : H D = some (.dK kvs)) : ∀ zs, ¬ Rd H D (.tup zs) := fun zs r => by
  rcases r with r | ⟨o', r⟩ <;> rw [h] at r <;> cases r
/-- a comprehension whose items are such data, known ahead -/
theorem lc_like {K : PySem.W.Frag} {J : It} {n : Nat} {G : Hp → Prop} {Y : Nat → Hp → V → Hp → Prop} (w : Walk J n G Y) {s : Shp} {g : TG} {te : TE} {vs : List Nat} {σ : L2.St} {H1 : Hp} {D : Addr} {Qd : Hp → Prop} (ds : List PyData) (hn : ds.length = n) (few : n < sizeLine) (nD : H1 D = none)
    (hG : ∀ H, Same H1 H → G H) (hY : ∀ i H x H', Y i H x H' → Same H H') (like : ∀ d ∈ ds, Like s d)
    (turn : ∀ i x H H' d, i < n → ds[i]? = some d → Same H1 H → Y i H x H' → ∀ R : V → Hp → Prop, (∀ v H4, Same H' H4 → Dp K H4 v d → R v H4) → g x (wipe σ vs) H' fun σ2 H2 => wipe σ2 vs = wipe σ vs ∧ te σ2 H2 R)
    (mono : ∀ x H' (A B : L2.St → Hp → Prop), (∀ σ2 H2, A σ2 H2 → B σ2 H2) → g x (wipe σ vs) H' A → g x (wipe σ vs) H' B)
    (after : ∀ H xs, Same H1 H → H D = some (.lst xs) → DpAll K H xs ds → Qd H) :
    ∃ W : Nat → Nat → Hp → Prop, (∃ m, W 0 m (upd H1 D (.lst []))) ∧ ∀ i m H, W i m H →
      (J.stop i H ∧ Qd H) ∨ (J.go i H ∧ ∃ Nx : Hp → Prop, (∀ H', Nx H' → ∃ m', m' < m ∧ W (i + 1) m' H') ∧ ∀ x H', J.yld i H x H' → g x (wipe σ vs) H' fun σ2 H2 => wipe σ2 vs = wipe σ vs ∧ tYes σ2 H2 fun b H3 =>
        if b = true then te σ2 H3 fun y H4 => ∃ acc, H4 D = some (.lst acc) ∧ acc.length < sizeLine ∧ Nx (upd H4 D (.lst (acc ++ [y]))) else Nx H3) := by
  refine lc_it w (fun i H => Same H1 H ∧ ∃ acc, H D = some (.lst acc) ∧ DpAll K H acc (ds.take i)) ⟨same_new nD, [], upd_same, .nil⟩ (fun i H _ p => hG H p.1) (fun i x H H' hi p y => ?_) fun H p => ?_
  · obtain ⟨sm, acc, eD, al⟩ := p
    have hd : ds[i]? = some ds[i] := List.getElem?_eq_getElem (by omega)
    refine mono x H' _ _ (fun σ2 H2 z => ⟨z.1, z.2⟩) (turn i x H H' _ hi hd sm y (fun y H4 => ∃ acc, H4 D = some (.lst acc) ∧ acc.length < sizeLine ∧ Same H1 (upd H4 D (.lst (acc ++ [y]))) ∧ ∃ ac2, upd H4 D (.lst (acc ++ [y])) D = some (.lst ac2) ∧ DpAll K (upd H4 D (.lst (acc ++ [y]))) ac2 (ds.take (i + 1))) fun v H4 s4 dv => ?_)
    have s' := (hY _ _ _ _ y).trans s4
    have e4 := s' _ _ eD
    have nt := no_tup_lst e4
    have la := dpAll_len al
    refine ⟨acc, e4, ?_, same_upd (sm.trans s') nD, acc ++ [v], upd_same, ?_⟩
    · rw [la, List.length_take]
      omega
    · rw [take_next hd]
      exact dpAll_app (dpAll_upd (dp_upd nt s) (fun d hd => like d (List.mem_of_mem_take hd)) (dpAll_same s' _ _ al)) (.cons (dp_upd nt s _ _ (like _ (List.mem_of_getElem? hd)) dv) .nil)
  · obtain ⟨sm, acc, eD, al⟩ := p
    rw [← hn, List.take_length] at al
    exact after H acc sm eD al
end DQ

set_option Elab.async false
set_option linter.all false
set_option maxRecDepth 100000
set_option maxHeartbeats 2000000
namespace DQ
open PySem PySem.Spec PyProof.Rows L2
/-! ### tuples made at run time whose object is known: their methods can be looked up -/
def TupO (o : Obj) : Prop := o.cls = .type "tuple" ∧ o.dict = none
def KTup (H : Hp) (p : Addr) (xs : List V) : Prop := ∃ o, TupO o ∧ H p = some (.frz o (.tup xs))
/-- a row of items: a tuple of whole numbers; where it is not empty its object is known -/
structure RowAt (K : PySem.W.Frag) (H : Hp) (p : Addr) (ns : List Int) : Prop where
  sq : SqT K H p (ns.map V.int)
  kt : ns ≠ [] → KTup H p (ns.map V.int)
theorem KTup.sq {K : PySem.W.Frag} {H : Hp} {p : Addr} {xs : List V} (h : KTup H p xs) : SqT K H p xs := by
  obtain ⟨o, _, e⟩ := h
  exact .inl (.inr ⟨o, e⟩)
theorem KTup.same {H H' : Hp} {p : Addr} {xs : List V} (h : KTup H p xs) (s : Same H H') : KTup H' p xs := by
  obtain ⟨o, t, e⟩ := h
  exact ⟨o, t, s _ _ e⟩
theorem RowAt.of {K : PySem.W.Frag} {H : Hp} {p : Addr} {ns : List Int} (h : KTup H p (ns.map V.int)) : RowAt K H p ns := ⟨h.sq, fun _ => h⟩
theorem RowAt.same {K : PySem.W.Frag} {H H' : Hp} {p : Addr} {ns : List Int} (h : RowAt K H p ns) (s : Same H H') : RowAt K H' p ns := ⟨DQ.Same.seqT s h.sq, fun n => (h.kt n).same s⟩
def tTupF (t : TA) : TE := fun σ H Q => t σ H fun xs H1 => xs.length ≤ sizeLine ∧ ∀ p o, H1 p = none → TupO o → Q (.ref p) (upd H1 p (.frz o (.tup xs)))
section
variable {X : Cx} {e : Expr} {es : List Expr} {te : TE} {t : TA} {pos : Pos}
theorem pe_tupF {x1} (h : PA X es t) : PE X (.Tuple es x1 pos) (tTupF t) := ⟨fun pins s σ H Q I ask => by
  refine wpAny_Tuple_spliced (thn (h.run pos pins s σ H _ I ask) fun us u0 ⟨ys, G, J, rel, le, go⟩ => ⟨rel.length ▸ le, ?_⟩)
  let ob : Obj := { cls := .type "tuple", data := .seq us.toArray }
  have at_ := Heap.get?_push_size (o := ob) u0.heap rfl
  have ok : ObjOk X.prog X.w (upd G u0.heap.objs.size (.frz ob (.tup ys))) (u0.heap.push ob) u0.heap.objs.size (.frz ob (.tup ys)) := ⟨at_, le, us, rel, ⟨_, at_, rfl, _, rfl⟩⟩
  exact ⟨.ref u0.heap.objs.size, _, J.laid (t' := u0.toks) (fun c o q => Heap.get?_push_of_some _ q) (Nat.le_refl _) ok, rfl, go _ ob (J.hok.fresh (Nat.le_refl _)) ⟨rfl, rfl⟩⟩⟩
end
def kTupF (K : PySem.W.Frag) (x : V) (H : Hp) (Q : VK) : Prop := ∃ p xs, x = .ref p ∧ SqL K H p xs ∧ ∀ q o, H q = none → TupO o → Q (.ref q) (upd H q (.frz o (.tup xs)))
section
variable {X : Cx} {a : Expr} {ta : TE}
theorem rl_tupF {pins : List (Addr × Obj)} {u : Shared} {σ : L2.St} {G : Hp} {y : V} {b : Value} {Q : VK} (J : Inv X pins σ G u) (rel : RelV y b) (ask : kTupF X.K y G Q) : wpAny (model X.prog X.w) X.A (call (.type "tuple") [b]) (EP X pins σ Q) X.xe u := by
  obtain ⟨p, ys, rfl, sq, go⟩ := ask
  cases (show b = .ref p from rel)
  obtain ⟨us, each, isL, le⟩ := J.list sq
  refine call_tuple_list isL.isList (fun k keep => ?_) (by rw [List.size_toArray, ← each.length]; exact le)
  let ob : Obj := { cls := .type "tuple", data := .seq us.toArray }
  have at_ := Heap.get?_push_size (o := ob) k rfl
  have J1 : Inv X pins σ G { u with heap := k } := J.kept (t' := u.toks) keep
  have ok : ObjOk X.prog X.w (upd G k.objs.size (.frz ob (.tup ys))) (k.push ob) k.objs.size (.frz ob (.tup ys)) := ⟨at_, le, us, each, IsTup.new _ _⟩
  exact ⟨.ref k.objs.size, _, J1.laid (t' := u.toks) (fun c o q => Heap.get?_push_of_some _ q) (Nat.le_refl _) ok, rfl, go _ ob (J1.hok.fresh (Nat.le_refl _)) ⟨rfl, rfl⟩⟩
theorem pe_tupleF {p pos : Pos} (hg : Gl X "tuple") (hm : X.mg "tuple" = none) (ha : PE X a ta) (na : starEach [a] X.env = (false, eval a X.env) :: starEach [] X.env := by rfl) :
    PE X (.Call (.Name "tuple" p) [a] [] pos) (tThen ta (kTupF X.K)) := by
  refine ⟨fun pins s σ H Q I h => ?_⟩
  exact Call_ (ld_blt I hg hm boot_tuple (PyProof.Rows.callWith_type1 (one_arg ha I h (fun _ _ _ _ J rel go => rl_tupF J rel go) na) na))
end
/-- a part of a tuple, not the whole -/
def rSlF (K : PySem.W.Frag) : V → Option Int → Option Int → Hp → VK → Prop := fun x lo hi H Q => ∃ a xs, x = .ref a ∧ SqT K H a xs ∧
  ¬ (HT.sIx xs.length 0 lo = 0 ∧ HT.sIx xs.length xs.length hi = xs.length) ∧ ∀ p o, H p = none → TupO o → Q (.ref p) (upd H p (.frz o (.tup (cutV xs lo hi))))
theorem sl_tupF {X : Cx} : SlR X (rSlF X.K) := fun pins u σ G y b vl vu lo hi cut Q J rel part pl pu ask => by
  obtain ⟨c, ys, rfl, sq, proper, go⟩ := ask
  cases (show b = .ref c from rel)
  obtain ⟨us, each, isT, le⟩ := J.tuple sq
  have same : us.toArray.size = ys.length := by rw [List.size_toArray, each.length]
  refine ⟨"tuple", _, PyProof.Rows.slot_tuple_getitem.lookup, isT.typeIs, HT.getItem_tuple_cut isT part pl pu (same ▸ proper) ?_ (same ▸ le)⟩
  rw [same]
  let ob : Obj := { cls := .type "tuple", data := .seq (List.take (HT.sIx ys.length ys.length hi - HT.sIx ys.length 0 lo) (List.drop (HT.sIx ys.length 0 lo) us.toArray.toList)).toArray }
  have ok : ObjOk X.prog X.w (upd G u.heap.objs.size (.frz ob (.tup (cutV ys lo hi)))) (u.heap.push ob) u.heap.objs.size (.frz ob (.tup (cutV ys lo hi))) :=
    ⟨Heap.get?_push_size _ rfl, Nat.le_trans (cutV_length ys lo hi) le, _, (each.drop (HT.sIx ys.length 0 lo)).take (HT.sIx ys.length ys.length hi - HT.sIx ys.length 0 lo), IsTup.new _ _⟩
  exact ⟨.ref u.heap.objs.size, _, J.laid (t' := u.toks) (fun c o q => Heap.get?_push_of_some _ q) (Nat.le_refl _) ok, rfl, go _ ob (J.hok.fresh (Nat.le_refl _)) ⟨rfl, rfl⟩⟩
/-- t.index(i) -/
def tIdx (K : PySem.W.Frag) (to : TE) (t : TA) : TE := fun σ H Q => to σ H fun x H1 => (∃ p xs, x = .ref p ∧ KTup H1 p xs) ∧ t σ H1 fun ys H2 => rIdxI K x ys H2 Q
theorem pe_idx {X : Cx} {o e : Expr} {to : TE} {t : TA} {apos cpos : Pos} (ho : PE X o to) (ha : PA X [e] t)
    (base_ : attributeBase o "index" X.env (eval o X.env) = eval o X.env := by rfl) (row_ : (apos.endLine == cpos.line) = true := by rfl) (one : starEach [e] X.env = [(false, eval e X.env)] := by rfl) :
    PE X (.Call (.Attribute o "index" apos) [e] [] cpos) (tIdx X.K to t) := ⟨fun pins u σ G Q I ask => by
  refine wpAny_Call_method_late base_ (by rw [one]; rfl) row_ rfl (thn (ho.run pins u σ G _ I ask) fun b u1 ⟨y, G1, J, rel, known, rest⟩ => ?_)
  obtain ⟨p, ys, rfl, ob, ⟨isC, noD⟩, at_⟩ := known
  cases (show b = Value.ref p from rel)
  have got := (J.hok p _ at_).1
  refine ⟨"tuple", "tuple.index", PySem.F.plainAttrs_tuple, PySem.F.slot_tuple_index, PySem.F.type_tuple_index, ⟨ob, got, isC⟩, fun a ea => by cases ea; exact ⟨ob, got, noD⟩, ?_⟩
  have args := ha.run cpos pins u1 σ G1 _ J rest
  rw [one] at args ⊢
  exact Calls.callWith_builtin rfl (Calls.evalArgs_plain (thn args fun us u2 ⟨ys, G2, J2, each, go⟩ => mt_idxI pins u2 σ G2 _ ys _ us Q J2 (show RelV (.ref p) (.ref p) from rfl) each go))⟩
end DQ

set_option Elab.async false
set_option linter.all false
set_option maxRecDepth 100000
set_option maxHeartbeats 4000000
namespace DQ
open PySem PySem.Spec PyProof.Rows L2
/-! ### (x,) * k, however small k is -/
theorem tup_none (l : Addr) (v : Value) (n : Nat) (dd : Option Addr) (sl : Array (Option Value)) (u : Tok) :
    Meets (Builtin.«tuple.__mul__» ⟨[.ref l, .int 0 u], []⟩) (fun _ R s => s.heap.get? l = some { cls := .type "tuple", dict := dd, data := .seq #[v] n, slots := sl } ∧
      R (.ok (.ret (Value.ref s.heap.objs.size))) { s with heap := s.heap.push { cls := Value.type "tuple", data := Data.seq #[] }, toks := s.toks }) :=
  .of_wp fun prog w A R s h => by
    obtain ⟨hp, g, d, tk, os⟩ := s
    obtain ⟨hl, h⟩ := h
    have f1 := AutoSeq1.idx_int
    wp_walk using wpAny_loadPart' hl
    exact ⟨_, rfl, h⟩
theorem tup_one (l : Addr) (v : Value) (n : Nat) (dd : Option Addr) (sl : Array (Option Value)) (u : Tok) :
    Meets (Builtin.«tuple.__mul__» ⟨[.ref l, .int 1 u], []⟩) (fun _ R s => s.heap.get? l = some { cls := .type "tuple", dict := dd, data := .seq #[v] n, slots := sl } ∧ R (.ok (.ret (Value.ref l))) s) :=
  .of_wp fun prog w A R s h => by
    obtain ⟨hp, g, d, tk, os⟩ := s
    obtain ⟨hl, h⟩ := h
    have f1 := AutoSeq1.idx_int
    wp_walk using wpAny_loadPart' hl
    exact ⟨_, rfl, h⟩
def rRepS (K : PySem.W.Frag) : R2 := fun x y H Q => ∃ (c : Addr) (k : Nat) (z : V), x = .ref c ∧ y = .int k ∧ H c = some (.tup [z]) ∧ k ≤ 100 ∧ ∀ p H', Same H H' → H' p = some (.tup (List.replicate k z)) → Q (.ref p) H'
theorem rep_one {α : Type} (x : α) : ∀ k : Nat, (List.replicate k [x]).flatten = List.replicate k x
  | 0 => rfl
  | k + 1 => by rw [List.replicate_succ, List.flatten_cons, rep_one x k, List.replicate_succ, List.singleton_append]
theorem op_repS {X : Cx} : OpR X (binaryOp .Mult) (rRepS X.K) := fun pins u σ G y1 y2 b1 b2 Q J rel1 rel2 ask => by
  obtain ⟨c, k, z, rfl, rfl, hc, most, go⟩ := ask
  have sq : SqT X.K G c [z] := .inl (.inl hc)
  by_cases two : 2 ≤ k
  · cases (show b1 = Value.ref c from rel1)
    obtain ⟨tok, rfl⟩ := rel2
    obtain ⟨us, each, ⟨⟨kl, dt, dat, sls⟩, got, isC, cnt, isD⟩, le⟩ := J.tuple sq
    dsimp only at isC isD
    subst isC isD
    have one : us.length = 1 := each.length.symm
    have size1 : us.toArray.size = 1 := by rw [List.size_toArray, one]
    have full : us.toArray.isEmpty = false := by
      cases us with
      | nil => cases one
      | cons _ _ => rfl
    have flat : List.foldl (fun r t => r ++ t) #[] (List.replicate k us.toArray) = (List.replicate k us).flatten.toArray := size_rep us k
    have long : (List.replicate k us).flatten.length = k := by rw [PyProof.Rows.lm_len_rep_flat, one, Nat.mul_one]
    have small : k ≤ sizeLine := by
      rw [sizeLine_eq]
      omega
    have inW : (decide ((k : Int) < -(2 ^ 63)) || decide ((k : Int) ≥ 2 ^ 63)) = false := by
      rw [Bool.or_eq_false_iff]
      exact ⟨decide_eq_false (by omega), decide_eq_false (by omega)⟩
    have more : (us.toArray.isEmpty || (k : Int) == 1) = false := by
      rw [Bool.or_eq_false_iff]
      exact ⟨full, beq_eq_false_iff_ne.mpr (by omega)⟩
    have some_ : (decide ((k : Int) ≤ 0) || us.toArray.isEmpty) = false := by
      rw [Bool.or_eq_false_iff]
      exact ⟨decide_eq_false (by omega), full⟩
    have fits : ¬ ((us.toArray.size : Nat) : Int) * k > (2 ^ 63 - 1) / 8 := by
      rw [size1]
      omega
    have few : Builtin.Tuple.tupleTooMany (((us.toArray.size : Nat) : Int) * (k : Int)) = false := decide_eq_false (by
      rw [size1, sizeLine_eq]
      omega)
    have room : (List.foldl (fun r t => r ++ t) #[] (List.replicate (k : Int).toNat us.toArray)).size ≤ sizeLine := by
      rw [Int.toNat_natCast, flat, List.size_toArray, long]
      exact small
    have step := tuple_mulW c us.toArray cnt dt sls k tok inW more some_ fits few room
    rw [Int.toNat_natCast, flat] at step
    have isI := typeIs_int u (k : Int) tok
    refine wpAny_binaryOp_repeat_ref (T := "tuple") (U := "int") (by decide) ⟨_, got, rfl⟩ (fun u' => typeIs_int u' (k : Int) tok) noFill_tuple_mul F.fills_int_mul F.slot_int_rmul repeat_tuple F.slot_int_index.lookup ?_
    refine call_meets F.slot_int_rmul isI F.entry_int_rmul (F.args_int_rmul_2 _ _) (int_rmul_tuple k tok c us.toArray cnt dt sls) ⟨got, rfl, ⟨_, got, rfl⟩, ?_⟩
    refine call_meets F.slot_tuple_mul ⟨_, got, rfl⟩ F.entry_tuple_mul (F.args_tuple_mul_2 _ _) step ⟨got, ?_⟩
    have ok : ObjOk X.prog X.w (upd G u.heap.objs.size (.tup (List.replicate k [z]).flatten)) (u.heap.push { cls := .type "tuple", data := .seq (List.replicate k us).flatten.toArray }) u.heap.objs.size (.tup (List.replicate k [z]).flatten) :=
      ⟨by rw [PyProof.Rows.lm_len_rep_flat, List.length_singleton, Nat.mul_one]; exact small, _, each.rep k, IsTup.new _ _⟩
    have fin := go u.heap.objs.size (upd G u.heap.objs.size (.tup (List.replicate k [z]).flatten)) (same_new (J.hok.fresh (Nat.le_refl _))) (by rw [upd_same, rep_one])
    exact ⟨.ref u.heap.objs.size, _, J.laid (t' := u.toks) (fun d o q => Heap.get?_push_of_some _ q) (Nat.le_refl _) ok, rfl, fin⟩
  cases (show b1 = Value.ref c from rel1)
  obtain ⟨tok, rfl⟩ := rel2
  obtain ⟨us, each, ⟨⟨kl, dt, dat, sls⟩, got, isC, cnt, isD⟩, le⟩ := J.tuple sq
  dsimp only at isC isD
  subst isC isD
  obtain ⟨w0, rfl⟩ : ∃ w0, us = [w0] := by
    cases each with
    | cons r t => cases t; exact ⟨_, rfl⟩
  have isI := typeIs_int u (k : Int) tok
  refine wpAny_binaryOp_repeat_ref (T := "tuple") (U := "int") (by decide) ⟨_, got, rfl⟩ (fun u' => typeIs_int u' (k : Int) tok) noFill_tuple_mul F.fills_int_mul F.slot_int_rmul repeat_tuple F.slot_int_index.lookup ?_
  refine call_meets F.slot_int_rmul isI F.entry_int_rmul (F.args_int_rmul_2 _ _) (int_rmul_tuple k tok c #[w0] cnt dt sls) ⟨got, rfl, ⟨_, got, rfl⟩, ?_⟩
  have ck : k = 0 ∨ k = 1 := by omega
  rcases ck with rfl | rfl
  · refine call_meets F.slot_tuple_mul ⟨_, got, rfl⟩ F.entry_tuple_mul (F.args_tuple_mul_2 _ _) (tup_none c w0 cnt dt sls tok) ⟨got, ?_⟩
    have new := J.hok.fresh (Nat.le_refl u.heap.objs.size)
    exact ⟨.ref u.heap.objs.size, _, J.laid (t' := u.toks) (o := .tup []) (fun d o q => Heap.get?_push_of_some _ q) (Nat.le_refl _) ⟨Nat.zero_le _, [], .nil, IsTup.new _ _⟩, rfl, go _ _ (same_new new) upd_same⟩
  · refine call_meets F.slot_tuple_mul ⟨_, got, rfl⟩ F.entry_tuple_mul (F.args_tuple_mul_2 _ _) (tup_one c w0 cnt dt sls tok) ⟨got, ?_⟩
    exact ⟨.ref c, G, J, rfl, go c G (fun _ _ h => h) hc⟩
end DQ

set_option Elab.async false
set_option linter.all false
set_option maxRecDepth 100000
set_option maxHeartbeats 4000000
namespace DQ
open PySem PySem.Spec PyProof.Rows L2
/-! ### xs[::-1] of any list -/
def tRev (K : PySem.W.Frag) (te : TE) : TE := fun σ H Q => te σ H fun x H1 => ∃ a xs, x = .ref a ∧ SqL K H1 a xs ∧ ∀ p, H1 p = none → Q (.ref p) (upd H1 p (.lst xs.reverse))
theorem vals_reverse : ∀ {xs : List V} {us : List Value}, Vals xs us → Vals xs.reverse us.reverse
  | _, _, .nil => .nil
  | _, _, .cons r t => by
    rw [List.reverse_cons, List.reverse_cons]
    exact (vals_reverse t).append (.cons r .nil)
section
variable {X : Cx} {e : Expr} {te : TE} {pos p2 p3 p4 : Pos} {j}
theorem pe_rev (he : PE X e te) : PE X (.Subscript e (.Slice none none (some (.UnaryOp .USub (.Constant (.int 1) j p3) p4)) p2) pos) (tRev X.K te) := ⟨fun pins u σ G Q J ask => by
  apply Subscript_
  refine thn (he.run pins u σ G _ J ask) fun v u1 ⟨y, G1, J1, rel, a, xs, ey, sq, go⟩ => ?_
  subst ey
  cases (show v = Value.ref a from rel)
  apply wpAny_Slice
  rw [evalPart_none]
  apply wpAny_pure; apply wpAny_pure
  have part := (po_some (X := X) (pe_un (pos := p4) un_neg (pe_int (X := X) (i := 1) (j := j) (pos := p3)))).run pins u1 σ G1 (fun o H2 => o = some (-1) ∧ H2 = G1) J1 ⟨1, rfl, _, rfl, rfl, rfl⟩
  refine thn part fun vk u2 ⟨o, G2, J2, pk, eo, eG⟩ => ?_
  subst eo eG
  have J3 : L2.Inv X pins σ G2 { u2 with heap := u2.heap.push { cls := .type "slice", data := .fields #[.none, .none, vk] } } := J2.kept (t' := u2.toks) fun b ob q => Heap.get?_push_of_some _ q
  obtain ⟨its, r, pl, lz⟩ := J3.list sq
  have hs : ({ u2 with heap := u2.heap.push { cls := .type "slice", data := .fields #[.none, .none, vk] } } : Shared).heap.IsSliceOf u2.heap.objs.size .none .none vk := Heap.IsSliceOf.new ..
  show wpAny (model X.prog X.w) X.A (subscriptTail e _ (.ref a) (.ref u2.heap.objs.size)) (EP X pins σ Q) X.xe _
  refine tail_any (ops := [.ref a, .ref u2.heap.objs.size]) pl.isList.typeIs slot_list_getitem.lookup ?_ (by with_unfolding_all rfl)
  have lv : its.toArray.size ≤ sizeLine := by
    rw [List.size_toArray, ← r.length]
    exact lz
  refine wpAny_getItem_list_slice pl.isList hs .none .none pk (by simp) ?_ lv
  rw [PySem.W.krv_pick]
  exact ⟨.ref _, _, J3.laid (t' := u2.toks) (o := .lst xs.reverse) (fun b ob q => Heap.get?_push_of_some _ q) (Nat.le_refl _) ⟨by rw [List.length_reverse]; exact lz, _, 0, vals_reverse r, Heap.get?_push_size _ rfl⟩, rfl, go _ (J3.hok.fresh (Nat.le_refl _))⟩⟩
end
end DQ

set_option Elab.async false
set_option linter.all false
set_option maxRecDepth 100000
set_option maxHeartbeats 2000000
namespace DQ
open PySem PySem.Spec PyProof.Rows L2
/-! ### cuts: a statement's value or test apart from all that follows; turns of comprehensions -/
theorem te_cut {te : TE} {σ : L2.St} {H : Hp} {Q : VK} (Pz : V → Hp → Prop) (h1 : ∀ R : VK, (∀ x H2, Pz x H2 → R x H2) → te σ H R) (h2 : ∀ x H2, Pz x H2 → Q x H2) : te σ H Q := h1 Q h2
theorem tt_cut {tt : TT} {σ : L2.St} {H : Hp} {Q : Bool → Hp → Prop} (b : Bool) (h1 : ∀ R : Bool → Hp → Prop, (∀ H2, Same H H2 → R b H2) → tt σ H R) (h2 : ∀ H2, Same H H2 → Q b H2) : tt σ H Q := h1 Q h2
theorem seq_te {te : TE} {i : Nat} {rest : TS} {D : Ends} {σ : L2.St} {H : Hp} (Pz : V → Hp → Prop) (h1 : ∀ R : VK, (∀ x H2, Pz x H2 → R x H2) → te σ H R) (h2 : ∀ x H2, Pz x H2 → rest D (σ.set i (some x)) H2) : tSeq (tAsg te (gName i)) rest D σ H := h1 _ h2
theorem seq_no {tt : TT} {ts rest : TS} {D : Ends} {σ : L2.St} {H : Hp} (h1 : ∀ R : Bool → Hp → Prop, (∀ H2, Same H H2 → R false H2) → tt σ H R) (h2 : ∀ H2, Same H H2 → rest D σ H2) : tSeq (tIfS tt ts tNext) rest D σ H := h1 _ h2
theorem seq_te2 {te : TE} {i : Nat} {rest : TS} {D : Ends} {rt bk ct} {σ : L2.St} {H : Hp} (Pz : V → Hp → Prop) (h1 : ∀ R : VK, (∀ x H2, Pz x H2 → R x H2) → te σ H R) (h2 : ∀ x H2, Pz x H2 → rest D (σ.set i (some x)) H2) : (Ends.mk (tSeq (tAsg te (gName i)) rest D) rt bk ct).nx σ H := h1 _ h2
theorem try_cut {t rest : TS} {D : Ends} {σ : L2.St} {H : Hp} (P : L2.St → Hp → Prop) (h1 : ∀ D' : Ends, (∀ σ' H', P σ' H' → D'.nx σ' H') → t D' σ H) (h2 : ∀ σ' H', P σ' H' → rest D σ' H') : tSeq t rest D σ H := h1 _ h2
theorem set_step {v : V} {i : Nat} {rest : TS} {D : Ends} {σ : L2.St} {H : Hp} (h : rest D (σ.set i (some v)) H) : tSeq (tAsg (tC v) (gName i)) rest D σ H := h
theorem del_upd {F : Addr} {H : Hp} {o : HO} : del (upd H F o) F = del H F := funext fun b => by
  by_cases z : b = F
  · rw [z]
    simp [del]
  · rw [del_ne z, del_ne z, upd_ne z]
theorem same_del {g : Addr} {H H' : Hp} (s : Same H H') : Same (del H g) (del H' g) := keep_del (Keep.of_same s)
theorem gset_cut {i : Nat} {v : V} {t rest : TS} {D : Ends} {rt : VK} {bk ct : L2.St → Hp → Prop} {σ : L2.St} {H : Hp} (Pz : L2.St → Hp → Prop) (h1 : ∀ D' : Ends, (∀ σ' H', Pz σ' H' → D'.nx σ' H') → t D' (σ.set i (some v)) H) (h2 : ∀ σ' H', Pz σ' H' → rest D σ' H') : gName i v σ H (Ends.mk (tSeq t rest D) rt bk ct).nx := h1 _ h2
/-- tests that do not come true: not f(..), not f(..) or not g(..) -/
theorem not_one {ta : TE} {ts : TS} {D : Ends} {σ : L2.St} {H : Hp} (h1 : ∀ R : VK, (∀ H2, Same H H2 → R (.bl true) H2) → ta σ H R) (h3 : ∀ H2, Same H H2 → D.nx σ H2) : tIfS (tNot (tB ta)) ts tNext D σ H := h1 _ fun H2 s2 => ⟨true, rfl, iteF' rfl (h3 H2 s2)⟩
theorem not_two {ta tb : TE} {ts : TS} {D : Ends} {σ : L2.St} {H : Hp} (h1 : ∀ R : VK, (∀ H2, Same H H2 → R (.bl true) H2) → ta σ H R) (h2 : ∀ H1, Same H H1 → ∀ R : VK, (∀ H2, Same H1 H2 → R (.bl true) H2) → tb σ H1 R) (h3 : ∀ H2, Same H H2 → D.nx σ H2) : tIfS (tOr (tNot (tB ta)) (tNot (tB tb))) ts tNext D σ H :=
  h1 _ fun H1 s1 => ⟨true, rfl, iteF' rfl (h2 H1 s1 _ fun H2 s2 => ⟨true, rfl, iteF' rfl (h3 H2 (s1.trans s2))⟩)⟩
theorem g_one {i : Nat} {x : V} {ta : TE} {ts : TS} {D : Ends} {σ : L2.St} {H : Hp} (h1 : ∀ R : VK, (∀ H2, Same H H2 → R (.bl true) H2) → ta (σ.set i (some x)) H R) (h3 : ∀ H2, Same H H2 → D.nx (σ.set i (some x)) H2) : gName i x σ H (fun σ2 H2 => tIfS (tNot (tB ta)) ts tNext D σ2 H2) := not_one h1 h3
theorem g_two {i : Nat} {x : V} {ta tb : TE} {ts : TS} {D : Ends} {σ : L2.St} {H : Hp} (h1 : ∀ R : VK, (∀ H2, Same H H2 → R (.bl true) H2) → ta (σ.set i (some x)) H R) (h2 : ∀ H1, Same H H1 → ∀ R : VK, (∀ H2, Same H1 H2 → R (.bl true) H2) → tb (σ.set i (some x)) H1 R) (h3 : ∀ H2, Same H H2 → D.nx (σ.set i (some x)) H2) : gName i x σ H (fun σ2 H2 => tIfS (tOr (tNot (tB ta)) (tNot (tB tb))) ts tNext D σ2 H2) := not_two h1 h2 h3
/-- a comprehension whose items stand in a relation to what is new -/
theorem lc_rel {J : It} {n : Nat} {G : Hp → Prop} {Y : Nat → Hp → V → Hp → Prop} (w : Walk J n G Y) {g : TG} {te : TE} {vs : List Nat} {σ : L2.St} {H1 : Hp} {D : Addr} {Qd : Hp → Prop} (Pr : Nat → Hp → V → Prop) (st : ∀ i H H' v, Same H H' → Pr i H v → Pr i H' v) (few : n < sizeLine) (nD : H1 D = none)
    (hG : ∀ H, Same H1 H → G H) (hY : ∀ i H x H', Y i H x H' → Same H H')
    (turn : ∀ i x H H', i < n → Same H1 H → (∃ acc, H D = some (.lst acc)) → Y i H x H' → ∀ R : V → Hp → Prop, (∀ v H4, Same H' H4 → Pr i (del H4 D) v → R v H4) → g x (wipe σ vs) H' fun σ2 H2 => wipe σ2 vs = wipe σ vs ∧ te σ2 H2 R)
    (mono : ∀ x H' (A B : L2.St → Hp → Prop), (∀ σ2 H2, A σ2 H2 → B σ2 H2) → g x (wipe σ vs) H' A → g x (wipe σ vs) H' B)
    (after : ∀ H rs, Same H1 H → H D = some (.lst rs) → rs.length = n → (∀ j v, rs[j]? = some v → Pr j (del H D) v) → Qd H) :
    ∃ W : Nat → Nat → Hp → Prop, (∃ m, W 0 m (upd H1 D (.lst []))) ∧ ∀ i m H, W i m H →
      (J.stop i H ∧ Qd H) ∨ (J.go i H ∧ ∃ Nx : Hp → Prop, (∀ H', Nx H' → ∃ m', m' < m ∧ W (i + 1) m' H') ∧ ∀ x H', J.yld i H x H' → g x (wipe σ vs) H' fun σ2 H2 => wipe σ2 vs = wipe σ vs ∧ tYes σ2 H2 fun b H3 =>
        if b = true then te σ2 H3 fun y H4 => ∃ acc, H4 D = some (.lst acc) ∧ acc.length < sizeLine ∧ Nx (upd H4 D (.lst (acc ++ [y]))) else Nx H3) := by
  refine lc_it w (fun i H => Same H1 H ∧ ∃ acc, H D = some (.lst acc) ∧ acc.length = i ∧ ∀ j v, acc[j]? = some v → Pr j (del H D) v) ⟨same_new nD, [], upd_same, rfl, fun _ _ h => nomatch h⟩ (fun i H _ p => hG H p.1) (fun i x H H' hi p y => ?_) fun H p => ?_
  · obtain ⟨sm, acc, eD, la, al⟩ := p
    refine mono x H' _ _ (fun σ2 H2 z => ⟨z.1, z.2⟩) (turn i x H H' hi sm ⟨acc, eD⟩ y (fun y H4 => ∃ acc, H4 D = some (.lst acc) ∧ acc.length < sizeLine ∧ Same H1 (upd H4 D (.lst (acc ++ [y]))) ∧ ∃ ac2, upd H4 D (.lst (acc ++ [y])) D = some (.lst ac2) ∧ ac2.length = i + 1 ∧ ∀ j v, ac2[j]? = some v → Pr j (del (upd H4 D (.lst (acc ++ [y]))) D) v) fun v H4 s4 pv => ?_)
    have s' := (hY _ _ _ _ y).trans s4
    refine ⟨acc, s' _ _ eD, by omega, same_upd (sm.trans s') nD, acc ++ [v], upd_same, by rw [List.length_append, List.length_singleton, la], fun j u hj => ?_⟩
    rw [del_upd]
    by_cases z : j < acc.length
    · rw [List.getElem?_append_left z] at hj
      exact st j _ _ u (same_del s') (al j u hj)
    · rw [List.getElem?_append_right (by omega)] at hj
      have hk := (List.getElem?_eq_some_iff.mp hj).1
      rw [List.length_singleton] at hk
      have e : j = i := by omega
      subst e
      rw [la, Nat.sub_self] at hj
      cases hj
      exact pv
  · obtain ⟨sm, acc, eD, la, al⟩ := p
    exact after H acc sm eD la al
theorem gpairN_mono {K : PySem.W.Frag} {i j : Nat} (v : V) (σ : L2.St) (H : Hp) (R R' : L2.St → Hp → Prop) (m : ∀ σ H, R σ H → R' σ H) (h : gTup K 2 (gCons (gName i) (gCons (gName j) gNil)) v σ H R) : gTup K 2 (gCons (gName i) (gCons (gName j) gNil)) v σ H R' := gpair_mono v σ H R R' m h
theorem gset_set {i j : Nat} {v : V} {te : TE} {rest : TS} {D : Ends} {rt : VK} {bk ct : L2.St → Hp → Prop} {σ : L2.St} {H : Hp} (Pz : V → Hp → Prop) (h1 : ∀ R : VK, (∀ x H2, Pz x H2 → R x H2) → te (σ.set i (some v)) H R) (h2 : ∀ x H2, Pz x H2 → rest D ((σ.set i (some v)).set j (some x)) H2) : gName i v σ H (Ends.mk (tSeq (tAsg te (gName j)) rest D) rt bk ct).nx := h1 _ h2
theorem same_cut {H H' : Hp} {D : Addr} (s : Same H H') (n : H D = none) : Same H (del H' D) := fun b o h => by
  rw [del_ne (ne_of_none h n)]
  exact s b o h
theorem ne_some {H : Hp} {a b : Addr} {o : HO} (h : H a = none) (h' : H b = some o) : a ≠ b := fun e => by
  rw [e, h'] at h
  cases h
theorem at_end {ns : List Int} {x : Int} : atI ((ns ++ [x]).map V.int) (-1) = some (.int x) := by
  have e : ixN ((ns ++ [x]).map V.int).length (-1) = some ns.length := by
    rw [List.length_map, List.length_append, List.length_singleton]
    unfold ixN
    rw [if_neg (by decide), if_pos (by omega)]
    exact congrArg some (by omega)
  unfold atI
  rw [e, Option.bind_some, List.getElem?_map, List.getElem?_append_right (Nat.le_refl _), Nat.sub_self]
  rfl
/-- a walk, whatever a turn asks -/
theorem it_by {J : It} {n : Nat} {G : Hp → Prop} {Y : Nat → Hp → V → Hp → Prop} (w : Walk J n G Y) {B : (Hp → Prop) → V → Hp → Prop} {H0 : Hp} {Qd : Hp → Prop} (Pv : Nat → Hp → Prop) (h0 : Pv 0 H0) (hG : ∀ i H, i ≤ n → Pv i H → G H) (hs : ∀ i x H H', i < n → Pv i H → Y i H x H' → B (Pv (i + 1)) x H') (hd : ∀ H, Pv n H → Qd H) :
    ∃ W : Nat → Nat → Hp → Prop, (∃ m, W 0 m H0) ∧ ∀ i m H, W i m H → (J.stop i H ∧ Qd H) ∨ (J.go i H ∧ ∃ Nx : Hp → Prop, (∀ H', Nx H' → ∃ m', m' < m ∧ W (i + 1) m' H') ∧ ∀ x H', J.yld i H x H' → B Nx x H') := by
  refine ⟨fun i m H => m = n - i ∧ i ≤ n ∧ Pv i H, ⟨n, (Nat.sub_zero n).symm, Nat.zero_le _, h0⟩, ?_⟩
  rintro i m H ⟨rfl, hi, p⟩
  have g := hG i H hi p
  by_cases c : i < n
  · exact .inr ⟨w.goes i H c g, Pv (i + 1), fun H' p' => ⟨n - (i + 1), by omega, rfl, c, p'⟩, fun x H' y => hs i x H H' c p (w.yields i H x H' c g y)⟩
  · obtain rfl : i = n := by omega
    exact .inl ⟨w.stops H g, hd H p⟩
end DQ

set_option Elab.async false
set_option linter.all false
set_option maxRecDepth 100000
set_option maxHeartbeats 2000000
namespace DQ
open PySem PySem.Spec PyProof.Rows L2
abbrev sRows : Stmt := topS 34
abbrev NRo : List Str := ["items", "many", "rows", "_", "row", "item"]
theorem scRows : FnScope NRo ["items", "many"] (defScope sRows) := ⟨rfl, rfl, rfl, by decide +kernel, rfl, by decide +kernel, by decide +kernel⟩
/-- all rows of so many of the items -/
def rowsN (ns : List Int) : Nat → List (List Int)
  | 0 => [[]]
  | k + 1 => (rowsN ns k).flatMap fun r => ns.map fun n => r ++ [n]
abbrev rowsV (rs : List (List Int)) : List (List V) := rs.map fun r => r.map V.int
theorem rows_len (ns : List Int) (h : ns.length ≤ 2) : ∀ k, (rowsN ns k).length ≤ 2 ^ k
  | 0 => Nat.le_refl _
  | k + 1 => by
    have ih := rows_len ns h k
    rw [rowsN]
    have z : ∀ l : List (List Int), (l.flatMap fun r => ns.map fun n => r ++ [n]).length ≤ l.length * 2 := fun l => by
      induction l with
      | nil => simp
      | cons a l ih =>
        rw [List.flatMap_cons, List.length_append, List.length_map, List.length_cons]
        omega
    have := z (rowsN ns k)
    rw [Nat.pow_succ]
    omega
theorem tups_at {H : Hp} {rs : List V} {ts : List (List V)} (h : Tups H rs ts) {i : Nat} {x : V} (hx : rs[i]? = some x) : ∃ a t, x = .ref a ∧ ts[i]? = some t ∧ H a = some (.tup t) := by
  obtain ⟨t, ht, a, e, ha⟩ := paired_at h hx
  exact ⟨a, t, e, ht, ha⟩
section
variable {P : Program} {w : World} {K : PySem.W.Frag} {mg : Str → Option Value} {base : Heap}
def spRows (K : PySem.W.Frag) : Sp := fun vs H Q _ => ∃ (ia : Addr) (ns : List Int) (k : Nat), vs = [.ref ia, .int (k : Nat)] ∧ SqL K H ia (ns.map V.int) ∧ ns.length ≤ 2 ∧ k ≤ 4 ∧ ∀ p rs H', Same H H' → H p = none → H' p = some (.lst rs) → Tups H' rs (rowsV (rowsN ns k)) → Q (.ref p) H'
theorem ok_rows {f : Addr} {fd : FuncData} (F : Fun K "rows_of_items" "rows_of_items" sRows f fd) (mRange : mg "range" = none) : FnOk P w K mg base CX0 1 f fd ["items", "many"] (spRows K) := by
  refine F.ok scRows (fun vs H Q E h => ?_) (fun cdv A outer s H vs Q E hr h => ?_)
  · obtain ⟨_, _, _, rfl, _⟩ := h
    rfl
  obtain ⟨ia, ns, k, rfl, sq, l2, k4, q⟩ := h
  have nd := scRows.nd
  refine ⟨_, pss_cons (ps_set (i := 2) nd rfl (.inl rfl) (pe_lst (pa_cons (pe_tup pa_nil) pa_nil)))
    (pss_cons (ps_for PassesOwn.never rfl (pi_range1 (by rfl) mRange (pa_cons (pv 1) pa_nil)) (pg_name (i := 3) nd rfl (.inl rfl))
      (pss_one (ps_setLc2 (i := 2) (own := [("row", 4), ("item", 5)]) (vs1 := [5]) (wi := iList K (tVar 2)) (wi1 := iList K (tVar 0)) (te := tTup (StX.tStar K (tVar 4) (tCons (tVar 5) tNil))) (g := gName 4) (g1 := gName 5) (tt := tYes) (tt1 := tYes) rfl nd rfl rfl (sw_true rfl rfl rfl rfl) (pi_list (pv 2)) (blkOk_by (own := [("row", 4), ("item", 5)]) (N := NRo) (sc := defScope sRows) (by decide +kernel)) (by decide)
        (fun _ _ _ _ _ => pg_name (i := 4) nd rfl (Or.inl rfl)) (fun _ _ _ _ _ => pts_nil) (fun _ _ _ _ _ => by exact pi_list (pv 0)) (fun _ _ _ _ _ => pg_name (i := 5) nd rfl (Or.inl rfl)) (fun _ _ _ _ _ => pts_nil)
        (fun _ _ _ _ _ => pe_tup (pa_starK (K := K) rfl (pv 4) (pa_cons (pv 5) pa_nil))))))
    (pss_one (ps_ret (pv 2)))), ?_⟩
  refine ⟨by decide, fun p0 n0 => ⟨by show 1 ≤ sizeLine; decide, fun r0 nr0 => ?_⟩⟩
  have b0 := same_new n0 (o := .tup [])
  have f0 : L2.upd H p0 (.tup []) p0 = some (.tup []) := upd_same
  generalize L2.upd H p0 (.tup []) = H1 at b0 f0 nr0 ⊢
  have old : ∀ {J : Hp} {z : Addr}, Same H J → J z = none → H z = none := fun {J z} s n => by
    cases q : H z with
    | none => rfl
    | some o => rw [s _ _ q] at n; cases n
  have nr00 := old b0 nr0
  have b1 := same_new nr0 (o := .lst [V.ref p0])
  have f1 : L2.upd H1 r0 (.lst [V.ref p0]) r0 = some (.lst [V.ref p0]) := upd_same
  have f01 := b1 _ _ f0
  generalize L2.upd H1 r0 (.lst [V.ref p0]) = H2 at b1 f1 f01 ⊢
  have s02 := b0.trans b1
  refine ⟨_, rfl, (k : Nat), rfl, by omega, by omega, ?_⟩
  refine for_range (lo := 0) (n := ((k : Nat) : Int).toNat) (fun i σ J => ∃ (y : Option V) (a : Addr) (rs : List V), σ = [some (.ref ia), some (.int (k : Nat)), some (.ref a), y, none, none] ∧ Same H2 J ∧ H a = none ∧ J a = some (.lst rs) ∧ Tups J rs (rowsV (rowsN ns i)))
    ⟨none, r0, _, rfl, fun _ _ h => h, nr00, f1, .cons ⟨p0, rfl, f01⟩ .nil⟩ (fun i σ J hi hP => ?_) fun σ J hP => ?_
  · obtain ⟨y, a, rs, rfl, sJ, na, ea, tp⟩ := hP
    refine ⟨_, rfl, a, rfl, ⟨_, SqL.of ea⟩, fun D nD => ?_⟩
    have lrs : rs.length = (rowsN ns i).length := by rw [Paired.length tp, List.length_map]
    have ll : (rowsN ns i).length ≤ 16 := Nat.le_trans (rows_len ns l2 i) (Nat.le_trans (Nat.pow_le_pow_right (by decide) (show i ≤ 4 by omega)) (by decide))
    have sqI : ∀ {J' : Hp}, Same J J' → SqL K J' ia (ns.map V.int) := fun s => L2.Same.seq (s02.trans (sJ.trans s)) sq
    have capL : ∀ l : List (List Int), l.length ≤ 16 → (l.flatMap fun r => ns.map fun n => r ++ [n]).length ≤ 32 := fun l hl => by
      have z : ∀ l : List (List Int), (l.flatMap fun r => ns.map fun n => r ++ [n]).length ≤ l.length * 2 := fun l => by
        induction l with
        | nil => simp
        | cons a l ih =>
          rw [List.flatMap_cons, List.length_append, List.length_map, List.length_cons]
          omega
      have := z l
      omega
    refine it_by (walk_list (K := K) (a := a) (xs := rs)) (fun o J' => Same J J' ∧ ∃ acc, J' D = some (.lst acc) ∧ Tups J' acc (rowsV (((rowsN ns i).take o).flatMap fun r => ns.map fun n => r ++ [n]))) ⟨same_new nD, [], upd_same, .nil⟩ (fun o J' _ p => SqL.of (p.1 _ _ ea)) (fun o x J'' J' ho hP y => ?_) fun J' hP => ?_
    · obtain ⟨s1, acc, eD, tpa⟩ := hP
      obtain ⟨rfl, hx⟩ := y
      obtain ⟨ra, t, rfl, ht, hra⟩ := tups_at (tp.keep (tk_same s1)) hx
      obtain ⟨row, hrow, rfl⟩ := at_map ht
      refine ⟨rfl, ?_⟩
      refine ⟨_, rfl, ia, rfl, ⟨_, sqI s1⟩, ?_⟩
      refine it_by (walk_list (K := K) (a := ia) (xs := ns.map V.int)) (fun j J' => Same J J' ∧ ∃ acc, J' D = some (.lst acc) ∧ Tups J' acc (rowsV ((((rowsN ns i).take o).flatMap fun r => ns.map fun n => r ++ [n]) ++ (ns.take j).map fun n => row ++ [n]))) ⟨s1, acc, eD, by simpa using tpa⟩ (fun j J' _ p => sqI p.1) (fun j x J'' J' hj hP y => ?_) fun J' hP => ?_
      · obtain ⟨s2, acc2, eD2, tp2⟩ := hP
        obtain ⟨rfl, hx2⟩ := y
        obtain ⟨n, hn, rfl⟩ := at_map hx2
        have hra2 : J' ra = some (.tup (row.map V.int)) := s2 _ _ (by
          obtain ⟨ra', t', e', ht', hra'⟩ := tups_at tp hx
          cases e'
          rw [ht] at ht'
          cases ht'
          exact hra')
        have lrow : row.length = i := by
          have z : ∀ k, ∀ r ∈ rowsN ns k, r.length = k := fun k => by
            induction k with
            | zero => intro r hr; rw [List.mem_singleton.mp hr]; rfl
            | succ k ih =>
              intro r hr
              obtain ⟨r', hr', h⟩ := List.mem_flatMap.mp hr
              obtain ⟨n, _, rfl⟩ := List.mem_map.mp h
              rw [List.length_append, List.length_singleton, ih r' hr']
          exact z i row (List.mem_of_getElem? hrow)
        refine ⟨rfl, ?_⟩
        refine ⟨_, rfl, ra, _, rfl, .inl (.inl (.inl hra2)), _, rfl, Nat.le_trans (show (row.map V.int ++ [V.int n]).length ≤ 10 by rw [List.length_append, List.length_map, List.length_singleton]; omega) (by decide), fun t nt => ?_⟩
        have st := same_new nt (o := .tup (row.map V.int ++ [V.int n]))
        have ft : L2.upd J' t (.tup (row.map V.int ++ [V.int n])) t = some (.tup ((row ++ [n]).map V.int)) := by rw [upd_same, List.map_append]; rfl
        have eD3 := st _ _ eD2
        have tp3 := tp2.keep (tk_same st)
        generalize L2.upd J' t (.tup (row.map V.int ++ [V.int n])) = J3 at st ft eD3 tp3 ⊢
        refine ⟨acc2, eD3, ?_, same_upd (s2.trans st) nD, acc2 ++ [.ref t], upd_same, ?_⟩
        · have lt := Paired.length tp2
          rw [List.length_map, List.length_append, List.length_map, List.length_take] at lt
          have := capL ((rowsN ns i).take o) (by rw [List.length_take]; omega)
          exact Nat.lt_of_le_of_lt (show acc2.length ≤ 40 by omega) (by decide)
        · rw [take_next hn, List.map_append, ← List.append_assoc]
          show Tups _ _ (List.map _ (_ ++ [row ++ [n]]))
          rw [List.map_append]
          have tk := tk_lst (ys := acc2 ++ [V.ref t]) eD3
          exact paired_snoc ⟨t, rfl, tk _ _ ft⟩ (tp3.keep tk)
      · obtain ⟨s2, acc2, eD2, tp2⟩ := hP
        refine ⟨s2, acc2, eD2, ?_⟩
        rw [take_next hrow, List.flatMap_append]
        rw [List.length_map, List.take_length] at tp2
        simpa using tp2
    · obtain ⟨s1, acc, eD, tpa⟩ := hP
      rw [lrs, List.take_length] at tpa
      exact ⟨_, D, acc, rfl, sJ.trans s1, old (s02.trans sJ) nD, eD, tpa⟩
  · obtain ⟨y, a, rs, rfl, sJ, na, ea, tp⟩ := hP
    exact ⟨_, rfl, q a rs J (s02.trans sJ) na ea (by simpa using tp)⟩
end
end DQ

set_option Elab.async false
set_option linter.all false
set_option maxRecDepth 100000
set_option maxHeartbeats 1000000
namespace DQ
open PySem PySem.Spec PyProof.Rows L2
/-! ### lines, their lots, the store of a line -/
structure Letter where
  s : Nat
  bits : List Int
abbrev Line := List Letter
def sAt (l : Line) (k : Nat) : Nat := ((l[k]?).map Letter.s).getD 0
def bitsAt (l : Line) (k : Nat) : List Int := ((l[k]?).map Letter.bits).getD []
/-- where the piece of the letter ahead of k begins -/
def beginTo (l : Line) : Nat → Nat
  | 0 => 0
  | k + 1 => if 0 < sAt l k then k else beginTo l k
def endsB (l : Line) (k : Nat) : Bool := decide (k + 1 = l.length) || decide (0 < sAt l (k + 1))
def marksP (ms : List Str) (l : Line) (k : Nat) : List Fact := ((ms.zip (bitsAt l k)).filter fun p => decide (p.2 = 1)).map fun p => .mark p.1 (k : Nat)
def linkP (l : Line) (k : Nat) : List (Nat × Nat) := (if sAt l k = 0 then [(k - 1, k)] else []) ++ (if endsB l k = true ∧ sAt l (beginTo l (k + 1)) = 2 then [(k, beginTo l (k + 1))] else [])
def linkFs (c : Str) (l : Line) (k : Nat) : List Fact := (linkP l k).map fun p => .link c (p.1 : Nat) (p.2 : Nat)
def factsLaw (ms : List Str) (c : Str) (l : Line) : List Fact := (List.range l.length).flatMap fun k => marksP ms l k ++ linkFs c l k
def factsProg (ms : List Str) (c : Str) (l : Line) : List Fact := (List.range l.length).flatMap (marksP ms l) ++ (List.range l.length).flatMap (linkFs c l)
theorem flat_two {α β : Type} (g h : α → List β) : ∀ l : List α, (l.flatMap g ++ l.flatMap h).Perm (l.flatMap fun x => g x ++ h x)
  | [] => .refl _
  | x :: r => by
    rw [List.flatMap_cons, List.flatMap_cons, List.flatMap_cons]
    have ih := flat_two g h r
    have e : (g x ++ r.flatMap g ++ (h x ++ r.flatMap h)).Perm ((g x ++ h x) ++ (r.flatMap g ++ r.flatMap h)) := by
      rw [List.append_assoc, List.append_assoc]
      refine List.Perm.append_left _ ?_
      rw [← List.append_assoc, ← List.append_assoc]
      exact List.Perm.append_right _ List.perm_append_comm
    exact e.trans (List.Perm.append_left _ ih)
theorem facts_perm (ms : List Str) (c : Str) (l : Line) : (factsProg ms c l).Perm (factsLaw ms c l) := flat_two _ _ _
def lineStore (ms : List Str) (c : Str) (l : Line) : Store := ⟨ms, [c], (List.range l.length).map fun k : Nat => (k : Int), sortF (factsLaw ms c l)⟩
/-- a line: its letters have so many bits, the first one begins a piece -/
structure IsLine (many : Nat) (l : Line) : Prop where
  st : ∀ a ∈ l, a.s ≤ 2
  bit : ∀ a ∈ l, a.bits.length = many ∧ ∀ b ∈ a.bits, b = 0 ∨ b = 1
  head : ∀ a r, l = a :: r → 0 < a.s
theorem IsLine.first {many : Nat} {l : Line} (L : IsLine many l) (h : l ≠ []) : 0 < sAt l 0 := by
  cases l with
  | nil => exact absurd rfl h
  | cons a r => exact L.head a r rfl
theorem begin_pos {many : Nat} {l : Line} (L : IsLine many l) (h : l ≠ []) : ∀ k, 0 < sAt l (beginTo l k)
  | 0 => L.first h
  | k + 1 => by
    unfold beginTo
    split
    · assumption
    · exact begin_pos L h k
theorem begin_le (l : Line) : ∀ k, beginTo l (k + 1) ≤ k
  | 0 => by unfold beginTo; split <;> exact Nat.le_refl _
  | k + 1 => by
    rw [beginTo]
    split
    · exact Nat.le_refl _
    · exact Nat.le_succ_of_le (begin_le l k)
/-- no piece begins behind it, up to k -/
theorem begin_last (l : Line) : ∀ k j, beginTo l (k + 1) < j → j ≤ k → sAt l j = 0
  | k, j, h, hj => by
    by_cases z : 0 < sAt l k
    · rw [beginTo, if_pos z] at h
      omega
    · rw [beginTo, if_neg z] at h
      rcases Nat.lt_or_ge j k with q | q
      · cases k with
        | zero => omega
        | succ k => exact begin_last l k j h (by omega)
      · have : j = k := by omega
        subst this
        omega
/-- the letter where a piece begins, and those behind it that go on -/
theorem begin_at {l : Line} {h : Nat} (hp : 0 < sAt l h) : ∀ j, (∀ i, i < j → sAt l (h + 1 + i) = 0) → beginTo l (h + 1 + j) = h
  | 0, _ => by
    show beginTo l (h + 1) = h
    rw [beginTo, if_pos hp]
  | j + 1, z => by
    show beginTo l (h + 1 + j + 1) = h
    rw [beginTo, if_neg (by rw [z j (by omega)]; omega)]
    exact begin_at hp j fun i hi => z i (by omega)
/-- pairs of numbers out of the rows of the letters -/
theorem nodup_rows {α : Type} {f : Nat → List α} : ∀ {n : Nat}, (∀ k, k < n → (f k).Nodup) → (∀ j k, j < k → k < n → ∀ x ∈ f j, x ∉ f k) → ((List.range n).flatMap f).Nodup
  | 0, _, _ => List.nodup_nil
  | n + 1, h1, h2 => by
    rw [List.range_succ, List.flatMap_append]
    refine List.nodup_append.mpr ⟨nodup_rows (fun k hk => h1 k (by omega)) fun j k hj hk => h2 j k hj (by omega), by simpa using h1 n (by omega), fun x hx y hy e => ?_⟩
    subst e
    obtain ⟨j, hj, hxj⟩ := List.mem_flatMap.mp hx
    exact h2 j n (List.mem_range.mp hj) (by omega) x hxj (by simpa using hy)
theorem ends_not {l : Line} {k : Nat} (h : endsB l k = true) (z : sAt l (k + 1) = 0) : k + 1 = l.length := by
  unfold endsB at h
  rw [Bool.or_eq_true, decide_eq_true_eq, decide_eq_true_eq] at h
  rcases h with h | h
  · exact h
  · omega
theorem link_mem {l : Line} {k : Nat} {p : Nat × Nat} (h : p ∈ linkP l k) : (sAt l k = 0 ∧ p = (k - 1, k)) ∨ (endsB l k = true ∧ sAt l (beginTo l (k + 1)) = 2 ∧ p = (k, beginTo l (k + 1))) := by
  unfold linkP at h
  rcases List.mem_append.mp h with h | h
  · split at h
    · rename_i z
      exact .inl ⟨z, List.mem_singleton.mp h⟩
    · cases h
  · split at h
    · rename_i z
      exact .inr ⟨z.1, z.2, List.mem_singleton.mp h⟩
    · cases h
section
variable {many : Nat} {l : Line}
theorem zero_pos (L : IsLine many l) {k : Nat} (hk : k < l.length) (z : sAt l k = 0) : 0 < k := by
  cases k with
  | zero =>
    have := L.first (fun e => by rw [e] at hk; cases hk)
    omega
  | succ k => omega
theorem links_fst (L : IsLine many l) : (((List.range l.length).flatMap (linkP l)).map (·.1)).Nodup := by
  rw [List.map_flatMap]
  refine nodup_rows (fun k hk => ?_) fun j k hj hk x hx hx2 => ?_
  · unfold linkP
    split
    · rename_i z
      have := zero_pos L hk z
      split
      · simp
        omega
      · simp
    · split <;> simp
  · obtain ⟨p, hp, rfl⟩ := List.mem_map.mp hx
    obtain ⟨q, hq, e⟩ := List.mem_map.mp hx2
    rcases link_mem hp with ⟨z, rfl⟩ | ⟨e1, s1, rfl⟩ <;> rcases link_mem hq with ⟨z2, rfl⟩ | ⟨e2, s2, rfl⟩
    · have := zero_pos L (by omega) z
      simp only at e
      omega
    · simp only at e
      omega
    · simp only at e
      have hk1 : k = j + 1 := by omega
      subst hk1
      have := ends_not e1 z2
      omega
    · simp only at e
      omega
theorem links_snd (L : IsLine many l) : (((List.range l.length).flatMap (linkP l)).map (·.2)).Nodup := by
  rw [List.map_flatMap]
  have ne : ∀ {k}, k < l.length → l ≠ [] := fun hk e => by rw [e] at hk; cases hk
  refine nodup_rows (fun k hk => ?_) fun j k hj hk x hx hx2 => ?_
  · unfold linkP
    split
    · rename_i z
      split
      · have := begin_pos L (ne hk) (k + 1)
        simp
        intro e
        rw [← e] at this
        omega
      · simp
    · split <;> simp
  · obtain ⟨p, hp, rfl⟩ := List.mem_map.mp hx
    obtain ⟨q, hq, e⟩ := List.mem_map.mp hx2
    rcases link_mem hp with ⟨z, rfl⟩ | ⟨e1, s1, rfl⟩ <;> rcases link_mem hq with ⟨z2, rfl⟩ | ⟨e2, s2, rfl⟩
    · simp only at e
      omega
    · simp only at e
      have := begin_pos L (ne hk) (k + 1)
      rw [e] at this
      omega
    · simp only at e
      have := begin_le l j
      omega
    · simp only at e
      have b1 := begin_le l j
      have z := begin_last l k (j + 1) (by omega) (by omega)
      have := ends_not e1 z
      omega
/-- the links of the store -/
theorem links_flat (c : Str) (ms : List Str) : ∀ ks : List Nat, linksOf c (ks.flatMap fun k => marksP ms l k ++ linkFs c l k) = (ks.flatMap (linkP l)).map fun p => ((p.1 : Int), (p.2 : Int))
  | [] => rfl
  | k :: r => by
    have ih := links_flat c ms r
    unfold linksOf at ih ⊢
    rw [List.flatMap_cons, List.flatMap_cons, List.filterMap_append, List.filterMap_append, List.map_append, ih]
    have e1 : (marksP ms l k).filterMap (Fact.on c) = [] := by
      unfold marksP
      rw [List.filterMap_map]
      exact List.filterMap_eq_nil_iff.mpr fun _ _ => rfl
    have e2 : (linkFs c l k).filterMap (Fact.on c) = (linkP l k).map fun p => ((p.1 : Int), (p.2 : Int)) := by
      unfold linkFs
      rw [List.filterMap_map]
      have : (Fact.on c ∘ fun p : Nat × Nat => Fact.link c (p.1 : Nat) (p.2 : Nat)) = fun p => some ((p.1 : Int), (p.2 : Int)) := funext fun p => if_pos rfl
      rw [this]
      exact congrFun (List.filterMap_eq_map' (f := fun p : Nat × Nat => ((p.1 : Int), (p.2 : Int)))) _
    rw [e1, e2, List.nil_append]
theorem link_in {k : Nat} {p : Nat × Nat} (hk : k < l.length) (L : IsLine many l) (h : p ∈ linkP l k) : p.1 < l.length ∧ p.2 < l.length := by
  rcases link_mem h with ⟨z, rfl⟩ | ⟨_, _, rfl⟩
  · exact ⟨by show k - 1 < _; omega, hk⟩
  · have := begin_le l k
    exact ⟨hk, by show beginTo l (k + 1) < _; omega⟩
theorem line_links (L : IsLine many l) (c : Str) (ms : List Str) : OneToOne ((List.range l.length).map fun k : Nat => (k : Int)) (linksOf c (factsLaw ms c l)) := by
  unfold factsLaw
  rw [links_flat]
  have inj : ∀ {l : List Nat}, l.Nodup → (l.map fun k : Nat => (k : Int)).Nodup := fun h => List.Pairwise.map _ (fun a b hab e => hab (by omega)) h
  refine ⟨?_, ?_, fun p hp => ?_⟩
  · rw [List.map_map]
    have := inj (links_fst L)
    rw [List.map_map] at this
    exact this
  · rw [List.map_map]
    have := inj (links_snd L)
    rw [List.map_map] at this
    exact this
  · obtain ⟨q, hq, rfl⟩ := List.mem_map.mp hp
    obtain ⟨k, hk, hq⟩ := List.mem_flatMap.mp hq
    have := link_in (List.mem_range.mp hk) L hq
    exact ⟨List.mem_map.mpr ⟨_, List.mem_range.mpr this.1, rfl⟩, List.mem_map.mpr ⟨_, List.mem_range.mpr this.2, rfl⟩⟩
end
end DQ

set_option Elab.async false
set_option linter.all false
set_option maxRecDepth 100000
set_option maxHeartbeats 1000000
namespace DQ
open PySem PySem.Spec PyProof.Rows L2
/-! ### the store of a line is one; its table -/
theorem zip_fsts {α β : Type} : ∀ (l : List α) (m : List β), ((l.zip m).map (·.1)).Sublist l
  | [], m => by simp
  | x :: l, [] => by simp
  | x :: l, y :: m => by
    rw [List.zip_cons_cons, List.map_cons]
    exact (zip_fsts l m).cons_cons x
theorem marks_word {ms : List Str} {l : Line} {k : Nat} : ((marksP ms l k).map Fact.word).Sublist ms := by
  unfold marksP
  rw [List.map_map]
  have e : (Fact.word ∘ fun p : Str × Int => Fact.mark p.1 (k : Nat)) = fun p => p.1 := funext fun _ => rfl
  rw [e]
  exact ((List.filter_sublist (l := ms.zip (bitsAt l k))).map _).trans (zip_fsts _ _)
theorem marks_len {ms : List Str} {l : Line} {k : Nat} : (marksP ms l k).length ≤ ms.length := by
  have := (marks_word (ms := ms) (l := l) (k := k)).length_le
  rwa [List.length_map] at this
theorem links_len {l : Line} {k : Nat} : (linkP l k).length ≤ 2 := by
  unfold linkP
  split <;> split <;> simp
theorem mark_mem {ms : List Str} {l : Line} {k : Nat} {x : Fact} (h : x ∈ marksP ms l k) : ∃ m, x = .mark m (k : Nat) ∧ (m, (1 : Int)) ∈ ms.zip (bitsAt l k) := by
  unfold marksP at h
  obtain ⟨p, hp, rfl⟩ := List.mem_map.mp h
  obtain ⟨h1, h2⟩ := List.mem_filter.mp hp
  obtain ⟨m, b⟩ := p
  have h2 : b = 1 := of_decide_eq_true h2
  subst h2
  exact ⟨m, rfl, h1⟩
theorem linkF_mem {c : Str} {l : Line} {k : Nat} {x : Fact} (h : x ∈ linkFs c l k) : ∃ p, p ∈ linkP l k ∧ x = .link c (p.1 : Nat) (p.2 : Nat) := by
  unfold linkFs at h
  obtain ⟨p, hp, rfl⟩ := List.mem_map.mp h
  exact ⟨p, hp, rfl⟩
theorem flat_len {α : Type} {f : Nat → List α} {b : Nat} (h : ∀ k, (f k).length ≤ b) : ∀ ks : List Nat, (ks.flatMap f).length ≤ ks.length * b
  | [] => by simp
  | k :: r => by
    rw [List.flatMap_cons, List.length_append, List.length_cons, Nat.add_mul]
    have := flat_len h r
    have := h k
    omega
section
variable {ms : List Str} {c : Str} {l : Line}
theorem factsLaw_mem {x : Fact} : x ∈ factsLaw ms c l ↔ ∃ k, k < l.length ∧ (x ∈ marksP ms l k ∨ x ∈ linkFs c l k) := by
  unfold factsLaw
  rw [List.mem_flatMap]
  constructor
  · rintro ⟨k, hk, h⟩
    exact ⟨k, List.mem_range.mp hk, List.mem_append.mp h⟩
  · rintro ⟨k, hk, h⟩
    exact ⟨k, List.mem_range.mpr hk, List.mem_append.mpr h⟩
theorem facts_nd (nd : ms.Nodup) (L : IsLine ms.length l) : (factsLaw ms c l).Nodup := by
  refine (facts_perm ms c l).nodup_iff.mp ?_
  unfold factsProg
  refine List.nodup_append.mpr ⟨nodup_rows (fun k _ => ?_) fun j k hj hk x hx hx2 => ?_, ?_, fun x hx y hy e => ?_⟩
  · exact List.Pairwise.of_map Fact.word (fun _ _ h e => h (congrArg _ e)) (marks_word.nodup nd)
  · obtain ⟨m, rfl, _⟩ := mark_mem hx
    obtain ⟨m', e, _⟩ := mark_mem hx2
    injection e with _ e
    omega
  · have e : (List.range l.length).flatMap (linkFs c l) = ((List.range l.length).flatMap (linkP l)).map fun p => Fact.link c (p.1 : Nat) (p.2 : Nat) := by
      rw [List.map_flatMap]
      rfl
    rw [e]
    have nd := List.Pairwise.of_map (fun p : Nat × Nat => p.1) (fun _ _ h e => h (congrArg _ e)) (links_fst L)
    exact List.Pairwise.map _ (fun p q h e => h (by
      injection e with _ e1 e2
      exact Prod.ext (by omega) (by omega))) nd
  · subst e
    obtain ⟨k, _, h⟩ := List.mem_flatMap.mp hx
    obtain ⟨j, _, h'⟩ := List.mem_flatMap.mp hy
    obtain ⟨m, rfl, _⟩ := mark_mem h
    obtain ⟨p, _, e⟩ := linkF_mem h'
    cases e
theorem line_drawn {m : Nat} (hm : ∃ b k, b ∈ markLists ∧ k ≤ 3 ∧ ms = List.take k b) (nd : ms.Nodup) (L : IsLine ms.length l) (few : l.length ≤ m) (h2 : m ≤ 2000) : Drawn m (lineStore ms "next" l) := by
  have lm : ms.length ≤ 3 := by
    obtain ⟨b, k, _, hk, e⟩ := hm
    rw [e, List.length_take]
    omega
  refine ⟨hm, ⟨1, by decide, by decide, rfl⟩, ⟨?_, fun x hx => ?_⟩, ?_, ?_, sortF_rise (facts_nd nd L), fun x hx => ?_, fun d => ?_⟩
  · refine List.Pairwise.map _ (fun a b h => ?_) List.pairwise_lt_range
    omega
  · obtain ⟨k, hk, rfl⟩ := List.mem_map.mp hx
    have := List.mem_range.mp hk
    omega
  · show ((List.range l.length).map _).length ≤ m
    rw [List.length_map, List.length_range]
    exact few
  · show (sortF (factsLaw ms "next" l)).length ≤ 10000
    rw [(sortF_perm _).length_eq]
    unfold factsLaw
    have := flat_len (f := fun k => marksP ms l k ++ linkFs "next" l k) (b := 5) (fun k => by
      rw [List.length_append]
      have := marks_len (ms := ms) (l := l) (k := k)
      have := links_len (l := l) (k := k)
      have : (linkFs "next" l k).length ≤ 2 := by unfold linkFs; rw [List.length_map]; exact this
      omega) (List.range l.length)
    rw [List.length_range] at this
    omega
  · have hx := factsLaw_mem.mp ((sortF_perm _).mem_iff.mp hx)
    obtain ⟨k, hk, h | h⟩ := hx
    · obtain ⟨m, rfl, z⟩ := mark_mem h
      exact ⟨(List.of_mem_zip z).1, List.mem_map.mpr ⟨k, List.mem_range.mpr hk, rfl⟩⟩
    · obtain ⟨p, hp, rfl⟩ := linkF_mem h
      have := link_in hk L hp
      exact ⟨List.mem_singleton.mpr rfl, List.mem_map.mpr ⟨_, List.mem_range.mpr this.1, rfl⟩, List.mem_map.mpr ⟨_, List.mem_range.mpr this.2, rfl⟩⟩
  · have z : OneToOne ((List.range l.length).map fun k : Nat => (k : Int)) (linksOf d (factsLaw ms "next" l)) := by
      by_cases e : d = "next"
      · rw [e]
        exact line_links L "next" ms
      · have : linksOf d (factsLaw ms "next" l) = [] := by
          refine List.filterMap_eq_nil_iff.mpr fun x hx => ?_
          obtain ⟨k, hk, h | h⟩ := factsLaw_mem.mp hx
          · obtain ⟨m, rfl, _⟩ := mark_mem h
            rfl
          · obtain ⟨p, _, rfl⟩ := linkF_mem h
            exact if_neg fun q => e q.symm
        rw [this]
        exact ⟨List.nodup_nil, List.nodup_nil, fun _ h => nomatch h⟩
    exact z.perm (links_perm (sortF_perm _))
theorem line_bits (nd : ms.Nodup) (L : IsLine ms.length l) {k : Nat} (hk : k < l.length) : bitsOf ms (lineStore ms c l).facts (k : Nat) = bitsAt l k := by
  have hb : bitsAt l k = l[k].bits := by
    unfold bitsAt
    rw [List.getElem?_eq_getElem hk]
    rfl
  obtain ⟨lb, vb⟩ := L.bit l[k] (List.getElem_mem hk)
  rw [← hb] at lb vb
  unfold bitsOf
  refine List.ext_getElem (by rw [List.length_map, lb]) fun j h1 h2 => ?_
  have hj : j < ms.length := by rwa [List.length_map] at h1
  rw [List.getElem_map]
  unfold markB
  have z : Fact.mark ms[j] (k : Nat) ∈ (lineStore ms c l).facts ↔ (bitsAt l k)[j] = 1 := by
    have e : Fact.mark ms[j] (k : Nat) ∈ (lineStore ms c l).facts ↔ Fact.mark ms[j] (k : Nat) ∈ factsLaw ms c l := (sortF_perm _).mem_iff
    rw [e, factsLaw_mem]
    constructor
    · rintro ⟨i, hi, h | h⟩
      · obtain ⟨m, e1, z⟩ := mark_mem h
        injection e1 with e1 e2
        have : i = k := by omega
        subst this
        obtain ⟨n, hn, e3⟩ := List.mem_iff_getElem.mp z
        rw [List.getElem_zip] at e3
        injection e3 with e3 e4
        have hn1 : n < ms.length := by rw [List.length_zip] at hn; omega
        have : n = j := (List.getElem_inj (h₀ := hn1) (h₁ := hj) nd).mp (by rw [e3, e1])
        subst this
        exact e4
      · obtain ⟨p, _, e1⟩ := linkF_mem h
        cases e1
    · intro h
      refine ⟨k, hk, .inl ?_⟩
      unfold marksP
      refine List.mem_map.mpr ⟨(ms[j], 1), List.mem_filter.mpr ⟨?_, rfl⟩, rfl⟩
      refine List.mem_iff_getElem.mpr ⟨j, by rw [List.length_zip]; omega, ?_⟩
      rw [List.getElem_zip, h]
  rcases vb _ (List.getElem_mem h2) with v | v
  · rw [if_neg (fun q => by have := z.mp q; omega), v]
  · rw [if_pos (z.mpr v), v]
end
end DQ

set_option Elab.async false
set_option linter.all false
set_option maxRecDepth 100000
set_option maxHeartbeats 1000000
namespace DQ
open PySem PySem.Spec PyProof.Rows L2
/-! ### the lots of a line: where its pieces stand -/
def lotsTo (l : Line) : Nat → List (List Nat)
  | 0 => []
  | k + 1 => if 0 < sAt l k then lotsTo l k ++ [[k]] else (lotsTo l k).dropLast ++ [((lotsTo l k).getLast?).getD [] ++ [k]]
def lotsOf (l : Line) : List (List Nat) := lotsTo l l.length
/-- a piece's places -/
def Lot (l : Line) (q : List Nat) : Prop := ∃ h n, q = List.range' h (n + 1) ∧ 0 < sAt l h ∧ (∀ j, j < n → sAt l (h + 1 + j) = 0) ∧ h + n < l.length ∧ endsB l (h + n) = true
theorem range_snoc (h n : Nat) : List.range' h (n + 1) = List.range' h n ++ [h + n] := by
  rw [List.range'_concat]
  simp
theorem lots_run {many : Nat} {l : Line} (L : IsLine many l) : ∀ k, k < l.length → ∃ L0 n, lotsTo l (k + 1) = L0 ++ [List.range' (beginTo l (k + 1)) (n + 1)] ∧ beginTo l (k + 1) + n = k ∧ 0 < sAt l (beginTo l (k + 1)) ∧ (∀ j, j < n → sAt l (beginTo l (k + 1) + 1 + j) = 0) ∧ L0.flatten ++ List.range' (beginTo l (k + 1)) (n + 1) = List.range (k + 1) ∧ ∀ q ∈ L0, Lot l q
  | 0, hk => by
    have h0 := L.first (fun e => by rw [e] at hk; cases hk)
    have b : beginTo l 1 = 0 := by rw [beginTo, if_pos h0]
    rw [b]
    refine ⟨[], 0, ?_, rfl, h0, fun j hj => absurd hj (Nat.not_lt_zero j), rfl, fun _ h => nomatch h⟩
    rw [lotsTo, if_pos h0]
    rfl
  | k + 1, hk => by
    obtain ⟨L0, n, e, b, s0, z, fl, ok⟩ := lots_run L k (by omega)
    by_cases s : 0 < sAt l (k + 1)
    · have b' : beginTo l (k + 1 + 1) = k + 1 := by rw [beginTo, if_pos s]
      rw [b']
      refine ⟨lotsTo l (k + 1), 0, by rw [lotsTo, if_pos s]; rfl, rfl, s, fun j hj => absurd hj (Nat.not_lt_zero j), ?_, fun q hq => ?_⟩
      · rw [e, List.flatten_append, List.flatten_cons, List.flatten_nil, List.append_nil, fl, List.range_succ (n := k + 1)]
        rfl
      · rw [e] at hq
        rcases List.mem_append.mp hq with h | h
        · exact ok q h
        · rw [List.mem_singleton.mp h]
          refine ⟨_, n, rfl, s0, z, by omega, ?_⟩
          rw [b]
          unfold endsB
          rw [decide_eq_true s, Bool.or_true]
    · have b' : beginTo l (k + 1 + 1) = beginTo l (k + 1) := by rw [beginTo, if_neg s]
      rw [b']
      refine ⟨L0, n + 1, ?_, by omega, s0, fun j hj => ?_, ?_, ok⟩
      · rw [lotsTo, if_neg s, e, List.dropLast_concat, List.getLast?_append, List.getLast?_singleton]
        show L0 ++ [List.range' (beginTo l (k + 1)) (n + 1) ++ [k + 1]] = _
        rw [range_snoc _ (n + 1), show beginTo l (k + 1) + (n + 1) = k + 1 by omega]
      · by_cases q : j < n
        · exact z j q
        · rw [show beginTo l (k + 1) + 1 + j = k + 1 by omega]
          omega
      · rw [range_snoc _ (n + 1), ← List.append_assoc, fl, List.range_succ (n := k + 1), show beginTo l (k + 1) + (n + 1) = k + 1 by omega]
theorem lots_ok {many : Nat} {l : Line} (L : IsLine many l) : (∀ q ∈ lotsOf l, Lot l q) ∧ (lotsOf l).flatten = List.range l.length := by
  unfold lotsOf
  cases h : l.length with
  | zero => exact ⟨(fun _ h => nomatch h), rfl⟩
  | succ k =>
    obtain ⟨L0, n, e, b, s0, z, fl, ok⟩ := lots_run L k (by omega)
    rw [e]
    refine ⟨fun q hq => ?_, ?_⟩
    · rcases List.mem_append.mp hq with g | g
      · exact ok q g
      · rw [List.mem_singleton.mp g]
        refine ⟨_, n, rfl, s0, z, by omega, ?_⟩
        unfold endsB
        rw [decide_eq_true (by omega), Bool.true_or]
    · rw [List.flatten_append, List.flatten_cons, List.flatten_nil, List.append_nil, fl]
/-! the links of a lot -/
section
variable {ms : List Str} {l : Line}
theorem linkF_in {c : Str} {k : Nat} {p : Nat × Nat} (hk : k < l.length) (h : p ∈ linkP l k) : Fact.link c (p.1 : Nat) (p.2 : Nat) ∈ (lineStore ms c l).facts :=
  (sortF_perm _).mem_iff.mpr (factsLaw_mem.mpr ⟨k, hk, .inr (List.mem_map.mpr ⟨p, h, rfl⟩)⟩)
theorem linkF_of {c : Str} {a b : Int} (h : Fact.link c a b ∈ (lineStore ms c l).facts) : ∃ k p, k < l.length ∧ p ∈ linkP l k ∧ a = (p.1 : Nat) ∧ b = (p.2 : Nat) := by
  obtain ⟨k, hk, h | h⟩ := factsLaw_mem.mp ((sortF_perm _).mem_iff.mp h)
  · obtain ⟨m, e, _⟩ := mark_mem h
    cases e
  · obtain ⟨p, hp, e⟩ := linkF_mem h
    injection e with _ e1 e2
    exact ⟨k, p, hk, hp, e1, e2⟩
theorem line_one (L : IsLine ms.length l) : OneToOne ((List.range l.length).map fun k : Nat => (k : Int)) (linksOf "next" (lineStore ms "next" l).facts) := (line_links L "next" ms).perm (links_perm (sortF_perm _))
/-- the next and the one ahead, of each place of a lot -/
theorem lot_inner (L : IsLine ms.length l) {h n : Nat} (z : ∀ j, j < n → sAt l (h + 1 + j) = 0) (hn : h + n < l.length) {j : Nat} (hj : j < n) :
    fwdOf (lineStore ms "next" l).facts "next" ((h + j : Nat) : Int) = ((h + j + 1 : Nat) : Int) ∧ bwdOf (lineStore ms "next" l).facts "next" ((h + j + 1 : Nat) : Int) = ((h + j : Nat) : Int) := by
  have e : sAt l (h + j + 1) = 0 := by have := z j hj; rwa [show h + 1 + j = h + j + 1 by omega] at this
  have m : (h + j, h + j + 1) ∈ linkP l (h + j + 1) := by
    unfold linkP
    rw [if_pos e]
    exact List.mem_append_left _ (List.mem_singleton.mpr rfl)
  have f := linkF_in (ms := ms) (c := "next") (k := h + j + 1) (by omega) m
  exact ⟨fwd_some (line_one L) f, bwd_some (line_one L) f⟩
theorem lot_ring (L : IsLine ms.length l) {h n : Nat} (s0 : 0 < sAt l h) (z : ∀ j, j < n → sAt l (h + 1 + j) = 0) (hn : h + n < l.length) (en : endsB l (h + n) = true) (s2 : sAt l h = 2) :
    fwdOf (lineStore ms "next" l).facts "next" ((h + n : Nat) : Int) = ((h : Nat) : Int) ∧ bwdOf (lineStore ms "next" l).facts "next" ((h : Nat) : Int) = ((h + n : Nat) : Int) := by
  have b : beginTo l (h + n + 1) = h := by
    have := begin_at s0 n z
    rwa [show h + 1 + n = h + n + 1 by omega] at this
  have m : (h + n, h) ∈ linkP l (h + n) := by
    unfold linkP
    rw [b, if_pos (show endsB l (h + n) = true ∧ sAt l h = 2 from ⟨en, s2⟩)]
    exact List.mem_append_right _ (List.mem_singleton.mpr rfl)
  have f := linkF_in (ms := ms) (c := "next") (k := h + n) hn m
  exact ⟨fwd_some (line_one L) f, bwd_some (line_one L) f⟩
theorem lot_path (L : IsLine ms.length l) {h n : Nat} (s0 : 0 < sAt l h) (z : ∀ j, j < n → sAt l (h + 1 + j) = 0) (hn : h + n < l.length) (en : endsB l (h + n) = true) (s2 : sAt l h ≠ 2) :
    fwdOf (lineStore ms "next" l).facts "next" ((h + n : Nat) : Int) = -1 ∧ bwdOf (lineStore ms "next" l).facts "next" ((h : Nat) : Int) = -1 := by
  have b : beginTo l (h + n + 1) = h := by
    have := begin_at s0 n z
    rwa [show h + 1 + n = h + n + 1 by omega] at this
  refine ⟨fwd_none fun y hy => ?_, bwd_none fun y hy => ?_⟩
  · obtain ⟨k, p, hk, hp, e1, e2⟩ := linkF_of hy
    rcases link_mem hp with ⟨zz, rfl⟩ | ⟨_, ss, rfl⟩
    · have := zero_pos L hk zz
      have e1 : ((h + n : Nat) : Int) = ((k - 1 : Nat) : Int) := e1
      have hk1 : k = h + n + 1 := by omega
      subst hk1
      have := ends_not en zz
      omega
    · have e1 : ((h + n : Nat) : Int) = ((k : Nat) : Int) := e1
      have hk1 : k = h + n := by omega
      subst hk1
      rw [b] at ss
      exact s2 ss
  · obtain ⟨k, p, hk, hp, e1, e2⟩ := linkF_of hy
    rcases link_mem hp with ⟨zz, rfl⟩ | ⟨_, ss, rfl⟩
    · have e2 : ((h : Nat) : Int) = ((k : Nat) : Int) := e2
      have hk1 : k = h := by omega
      subst hk1
      omega
    · have e2 : ((h : Nat) : Int) = ((beginTo l (k + 1) : Nat) : Int) := e2
      have : h = beginTo l (k + 1) := by omega
      rw [← this] at ss
      exact s2 ss
end
/-- a chain of items: forward and backward -/
structure Chain (fw bw : Int → Int) (s : Nat) (q : List Int) : Prop where
  ne : q ≠ []
  step : ∀ j x y, q[j]? = some x → q[j + 1]? = some y → fw x = y ∧ bw y = x
  ends : ∀ x y, q[0]? = some x → q[q.length - 1]? = some y → (s = 2 ∧ fw y = x ∧ bw x = y) ∨ (s ≠ 2 ∧ fw y = -1 ∧ bw x = -1)
theorem lot_chain {ms : List Str} {l : Line} (L : IsLine ms.length l) {q : List Nat} (h : Lot l q) : Chain (fwdOf (lineStore ms "next" l).facts "next") (bwdOf (lineStore ms "next" l).facts "next") (sAt l (q.headD 0)) (q.map fun k : Nat => (k : Int)) := by
  obtain ⟨h, n, rfl, s0, z, hn, en⟩ := h
  have get : ∀ j, j < n + 1 → ((List.range' h (n + 1)).map fun k : Nat => (k : Int))[j]? = some ((h + j : Nat) : Int) := fun j hj => by
    rw [List.getElem?_map, List.getElem?_range' hj]
    simp
  have out : ∀ j, ¬ j < n + 1 → ((List.range' h (n + 1)).map fun k : Nat => (k : Int))[j]? = none := fun j hj => by
    rw [List.getElem?_eq_none]
    rw [List.length_map, List.length_range']
    omega
  have hd : (List.range' h (n + 1)).headD 0 = h := rfl
  rw [hd]
  refine ⟨by rw [List.range'_succ]; simp, fun j x y hx hy => ?_, fun x y hx hy => ?_⟩
  · by_cases c : j + 1 < n + 1
    · rw [get j (by omega)] at hx
      rw [get (j + 1) c] at hy
      cases hx
      cases hy
      exact lot_inner L z hn (by omega)
    · rw [out _ c] at hy
      cases hy
  · rw [get 0 (by omega)] at hx
    rw [List.length_map, List.length_range', get (n + 1 - 1) (by omega)] at hy
    cases hx
    cases hy
    by_cases s2 : sAt l h = 2
    · exact .inl ⟨s2, lot_ring L s0 z hn en s2⟩
    · exact .inr ⟨s2, lot_path L s0 z hn en s2⟩
end DQ

set_option Elab.async false
set_option linter.all false
set_option maxRecDepth 100000
set_option maxHeartbeats 1000000
namespace DQ
open PySem PySem.Spec PyProof.Rows L2
/-! ### a ring begins at its least item; the order of the pieces -/
def minI : List Int → Int
  | [] => 0
  | [x] => x
  | x :: y :: r => if x ≤ minI (y :: r) then x else minI (y :: r)
theorem min_mem : ∀ {q : List Int}, q ≠ [] → minI q ∈ q
  | [], h => absurd rfl h
  | [x], _ => List.mem_singleton.mpr rfl
  | x :: y :: r, _ => by
    unfold minI
    split
    · exact List.mem_cons_self ..
    · exact List.mem_cons_of_mem _ (min_mem (by simp))
theorem min_le : ∀ {q : List Int}, ∀ x ∈ q, minI q ≤ x
  | [x], y, h => by rw [List.mem_singleton.mp h]; exact Int.le_refl _
  | x :: y :: r, z, h => by
    unfold minI
    rcases List.mem_cons.mp h with e | h
    · rw [e]
      split
      · exact Int.le_refl _
      · omega
    · have := min_le (q := y :: r) z h
      split
      · omega
      · exact this
def rotL {α : Type} (s i : Nat) (q : List α) : List α := if s = 2 then q.drop i ++ q.take i else q
theorem rotL_perm {α : Type} (s i : Nat) (q : List α) : (rotL s i q).Perm q := by
  unfold rotL
  split
  · exact List.perm_append_comm.trans (by rw [List.take_append_drop])
  · exact .refl _
theorem rot_get {α : Type} {i j : Nat} {q : List α} (hi : i < q.length) (hj : j < q.length) : (q.drop i ++ q.take i)[j]? = if i + j < q.length then q[i + j]? else q[i + j - q.length]? := by
  rw [List.getElem?_append, List.length_drop]
  by_cases c : i + j < q.length
  · rw [if_pos (by omega), if_pos c, List.getElem?_drop]
  · rw [if_neg (by omega), if_neg c, List.getElem?_take, if_pos (by omega), show j - (q.length - i) = i + j - q.length by omega]
section
variable {fw bw : Int → Int} {s : Nat} {q : List Int}
/-- forward along the list, that begins at the i-th of a ring -/
theorem run_next (C : Chain fw bw s q) {i : Nat} (hi : i < q.length) {j : Nat} {x y : Int} (hx : (rotL s i q)[j]? = some x) (hy : (rotL s i q)[j + 1]? = some y) : fw x = y := by
  unfold rotL at hx hy
  by_cases s2 : s = 2
  · rw [if_pos s2] at hx hy
    have l := (List.getElem?_eq_some_iff.mp hy).1
    rw [List.length_append, List.length_drop, List.length_take] at l
    rw [rot_get hi (by omega)] at hx
    rw [rot_get hi (by omega)] at hy
    by_cases c : i + j + 1 < q.length
    · rw [if_pos (by omega)] at hx
      rw [if_pos (by omega)] at hy
      exact (C.step (i + j) x y hx hy).1
    · by_cases d : i + j < q.length
      · rw [if_pos d] at hx
        rw [if_neg (by omega), show i + (j + 1) - q.length = 0 by omega] at hy
        rw [show i + j = q.length - 1 by omega] at hx
        rcases C.ends y x hy hx with ⟨_, h, _⟩ | ⟨h, _⟩
        · exact h
        · exact absurd s2 h
      · rw [if_neg d] at hx
        rw [if_neg (by omega), show i + (j + 1) - q.length = i + j - q.length + 1 by omega] at hy
        exact (C.step _ x y hx hy).1
  · rw [if_neg s2] at hx hy
    exact (C.step j x y hx hy).1
theorem run_last (C : Chain fw bw s q) {i : Nat} (hi : i < q.length) {x y : Int} (hx : (rotL s i q)[0]? = some x) (hy : (rotL s i q)[(rotL s i q).length - 1]? = some y) : fw y = -1 ∨ fw y = x := by
  have len := (rotL_perm s i q).length_eq
  rw [len] at hy
  unfold rotL at hx hy
  by_cases s2 : s = 2
  · rw [if_pos s2] at hx hy
    rw [rot_get hi (by omega), if_pos (by omega)] at hx
    rw [rot_get hi (by omega)] at hy
    by_cases z : i = 0
    · subst z
      rw [if_pos (by omega)] at hy
      simp only [Nat.zero_add] at hx hy
      rcases C.ends x y hx hy with ⟨_, h, _⟩ | ⟨h, _⟩
      · exact .inr h
      · exact absurd s2 h
    · rw [if_neg (by omega), show i + (q.length - 1) - q.length = i - 1 by omega] at hy
      refine .inr (C.step (i - 1) y x hy ?_).1
      rw [show i - 1 + 1 = i + 0 by omega]
      exact hx
  · rw [if_neg s2] at hx hy
    rcases C.ends x y hx hy with ⟨h, _⟩ | ⟨_, h, _⟩
    · exact absurd h s2
    · exact .inl h
end
structure Plan (I : List Int) (fw bw : Int → Int) (Ls : List (Nat × List Int)) : Prop where
  asc : I.Pairwise (· < ·)
  chain : ∀ p ∈ Ls, Chain fw bw p.1 p.2
  perm : (Ls.flatMap (·.2)).Perm I
  order : Ls.Pairwise fun p r => minI p.2 < minI r.2
/-- j pieces are written when k items have been met -/
def Met (I : List Int) (Ls : List (Nat × List Int)) (j k : Nat) : Prop := ∀ i p, Ls[i]? = some p → (i < j ↔ minI p.2 ∈ I.take k)
section
variable {I : List Int} {fw bw : Int → Int} {Ls : List (Nat × List Int)}
theorem asc_take (h : I.Pairwise (· < ·)) {k : Nat} {x y : Int} (hk : I[k]? = some x) (hy : y ∈ I) (l : y < x) : y ∈ I.take k := by
  obtain ⟨j, hj, rfl⟩ := List.mem_iff_getElem.mp hy
  obtain ⟨hk1, e⟩ := List.getElem?_eq_some_iff.mp hk
  have : j < k := by
    rcases Nat.lt_or_ge j k with c | c
    · exact c
    · rcases Nat.eq_or_lt_of_le c with d | d
      · subst d
        omega
      · have := List.pairwise_iff_getElem.mp h k j hk1 hj d
        omega
  exact List.mem_iff_getElem.mpr ⟨j, by rw [List.length_take]; omega, by rw [List.getElem_take]⟩
theorem Plan.nd (P : Plan I fw bw Ls) : (Ls.flatMap (·.2)).Nodup := P.perm.nodup_iff.mpr (P.asc.imp fun h e => by omega)
theorem Plan.inI (P : Plan I fw bw Ls) {p : Nat × List Int} (hp : p ∈ Ls) {x : Int} (hx : x ∈ p.2) : x ∈ I := P.perm.mem_iff.mp (List.mem_flatMap.mpr ⟨p, hp, hx⟩)
theorem Plan.minI (P : Plan I fw bw Ls) {p : Nat × List Int} (hp : p ∈ Ls) : DQ.minI p.2 ∈ p.2 := min_mem (P.chain p hp).ne
theorem flat_nd {α β : Type} {g : α → List β} : ∀ {l : List α}, (l.flatMap g).Nodup → ∀ {i j : Nat} {a b : α} {x : β}, l[i]? = some a → l[j]? = some b → x ∈ g a → x ∈ g b → i = j
  | [], _, i, j, a, b, x, h, _, _, _ => by simp at h
  | c :: l, nd, i, j, a, b, x, hi, hj, ha, hb => by
    rw [List.flatMap_cons, List.nodup_append] at nd
    obtain ⟨n1, n2, n3⟩ := nd
    cases i with
    | zero =>
      cases j with
      | zero => rfl
      | succ j =>
        simp only [List.getElem?_cons_zero, Option.some.injEq] at hi
        subst hi
        have hj : l[j]? = some b := by simpa using hj
        exact absurd rfl (n3 x ha x (List.mem_flatMap.mpr ⟨b, List.mem_of_getElem? hj, hb⟩))
    | succ i =>
      have hi : l[i]? = some a := by simpa using hi
      cases j with
      | zero =>
        simp only [List.getElem?_cons_zero, Option.some.injEq] at hj
        subst hj
        exact absurd rfl (n3 x hb x (List.mem_flatMap.mpr ⟨a, List.mem_of_getElem? hi, ha⟩))
      | succ j =>
        have hj : l[j]? = some b := by simpa using hj
        rw [flat_nd n2 hi hj ha hb]
theorem met_skip (P : Plan I fw bw Ls) {j k : Nat} {x : Int} (M : Met I Ls j k) (hk : I[k]? = some x) (hx : x ∈ (Ls.take j).flatMap (·.2)) : Met I Ls j (k + 1) := fun i p hp => by
  rw [take_next hk, List.mem_append, List.mem_singleton]
  refine ⟨fun h => .inl ((M i p hp).mp h), fun h => ?_⟩
  rcases h with h | h
  · exact (M i p hp).mpr h
  · obtain ⟨r, hr, hx⟩ := List.mem_flatMap.mp hx
    obtain ⟨n, hn, e⟩ := List.mem_iff_getElem.mp hr
    rw [List.length_take] at hn
    have hn2 : Ls[n]? = some r := by rw [List.getElem?_eq_getElem (by omega), ← e, List.getElem_take]
    have := flat_nd P.nd hn2 hp hx (by rw [← h]; exact P.minI (List.mem_of_getElem? hp))
    omega
theorem met_next (P : Plan I fw bw Ls) {j k : Nat} {x : Int} (M : Met I Ls j k) (hk : I[k]? = some x) (hx : x ∉ (Ls.take j).flatMap (·.2)) : ∃ p, Ls[j]? = some p ∧ x = DQ.minI p.2 ∧ Met I Ls (j + 1) (k + 1) := by
  obtain ⟨p, hp, hxp⟩ := List.mem_flatMap.mp (P.perm.mem_iff.mpr (List.mem_of_getElem? hk))
  obtain ⟨i, hi0, ei⟩ := List.mem_iff_getElem.mp hp
  have hi : Ls[i]? = some p := by rw [List.getElem?_eq_getElem hi0, ei]
  have hij : ¬ i < j := fun c => hx (List.mem_flatMap.mpr ⟨p, List.mem_iff_getElem.mpr ⟨i, by rw [List.length_take]; omega, by rw [List.getElem_take]; exact ei⟩, hxp⟩)
  have le := min_le x hxp
  have ex : x = DQ.minI p.2 := by
    rcases Int.lt_or_eq_of_le le with c | c
    · exact absurd ((M i p hi).mpr (asc_take P.asc hk (P.inI hp (P.minI hp)) c)) hij
    · exact c.symm
  have hji : i = j := by
    rcases Nat.lt_or_ge j i with c | c
    · have hj : Ls[j]? = some Ls[j] := List.getElem?_eq_getElem (by omega)
      have o := List.pairwise_iff_getElem.mp P.order j i (by omega) hi0 c
      rw [ei, ← ex] at o
      have := (M j _ hj).mpr (asc_take P.asc hk (P.inI (List.getElem_mem _) (P.minI (List.getElem_mem _))) o)
      omega
    · omega
  subst hji
  refine ⟨p, hi, ex, fun n r hr => ?_⟩
  rw [take_next hk, List.mem_append, List.mem_singleton]
  constructor
  · intro h
    rcases Nat.lt_or_ge n i with c | c
    · exact .inl ((M n r hr).mp c)
    · have : n = i := by omega
      subst this
      rw [hi] at hr
      cases hr
      exact .inr ex.symm
  · intro h
    rcases h with h | h
    · have := (M n r hr).mpr h
      omega
    · have := flat_nd P.nd hr hi (x := x) (by rw [← h]; exact P.minI (List.mem_of_getElem? hr)) hxp
      omega
theorem met_end (P : Plan I fw bw Ls) {j : Nat} (M : Met I Ls j I.length) : Ls.take j = Ls := by
  refine List.take_of_length_le ?_
  rcases Nat.lt_or_ge j Ls.length with c | c
  · have hj : Ls[j]? = some Ls[j] := List.getElem?_eq_getElem c
    have := (M j _ hj).mpr (by rw [List.take_length]; exact P.inI (List.getElem_mem _) (P.minI (List.getElem_mem _)))
    omega
  · exact c
theorem met_zero (P : Plan I fw bw Ls) : Met I Ls 0 0 := fun i p hp => by simp
end
end DQ

set_option Elab.async false
set_option linter.all false
set_option maxRecDepth 100000
set_option maxHeartbeats 2000000
namespace DQ
open PySem PySem.Spec PyProof.Rows L2
abbrev sFirst : Stmt := topS 45
theorem scFirst : FnScope ["table", "item", "first"] ["table", "item"] (defScope sFirst) := ⟨rfl, rfl, rfl, by decide +kernel, rfl, by decide +kernel, by decide +kernel⟩
/-- the table stands at d -/
def TabD (H : Hp) (d : Addr) (T : Tab) : Prop := ∃ kvs ft fb, H d = some (.dK kvs) ∧ TabAt H T kvs ft fb
theorem TabD.same {H H' : Hp} {d : Addr} {T : Tab} (h : TabD H d T) (s : Same H H') : TabD H' d T := by
  obtain ⟨kvs, ft, fb, e, t⟩ := h
  exact ⟨kvs, ft, fb, s _ _ e, t.same s⟩
theorem row_val {ft : Int → Addr} {i : Int} : ∀ {ns : List Int}, i ∈ ns → valV (ns.map fun i => ((Sum.inl i : Key), V.ref (ft i))) (.inl i) = some (.ref (ft i))
  | n :: r, h => by
    by_cases e : n = i
    · subst e
      rw [List.map_cons]
      simp [valV]
    · have h := (List.mem_cons.mp h).resolve_left (fun q => e q.symm)
      have := row_val (ft := ft) h
      rw [List.map_cons]
      simp only [valV] at this ⊢
      simpa [e] using this
theorem TabD.get {H : Hp} {d : Addr} {T : Tab} (h : TabD H d T) {i : Int} (hi : i ∈ T.items) : ∃ t b, DGet H d (.int i) (some (.ref t)) ∧ H t = some (.tup (.ref b :: (T.ends i).map V.int)) ∧ H b = some (.tup ((T.bits i).map V.int)) := by
  obtain ⟨kvs, ft, fb, e, R⟩ := h
  exact ⟨ft i, fb i, .inl ⟨kvs, .inl i, .inl e, rfl, by rw [R.eq]; exact (row_val hi).symm⟩, R.at_ i hi, R.bit i hi⟩
/-- how far the walk back has still to go -/
def backLeft (q : List Int) (i : Nat) (σ : L2.St) : Nat := match σ with
  | [_, _, some (V.int y)] => if q.idxOf y ≤ i then q.length + 1 + q.idxOf y else q.idxOf y
  | _ => 0
theorem idx_at {q : List Int} (nd : q.Nodup) {j : Nat} {y : Int} (h : q[j]? = some y) : q.idxOf y = j := by
  obtain ⟨hj, e⟩ := List.getElem?_eq_some_iff.mp h
  rw [← e]
  exact List.Nodup.idxOf_getElem nd j hj
/-- one step back -/
theorem back_step {fw bw : Int → Int} {s : Nat} {q : List Int} (C : Chain fw bw s q) {j : Nat} {y : Int} (h : q[j]? = some y) : (j = 0 ∧ s ≠ 2 ∧ bw y = -1) ∨ ∃ j', q[j']? = some (bw y) ∧ ((0 < j ∧ j' = j - 1) ∨ (j = 0 ∧ s = 2 ∧ j' = q.length - 1)) := by
  have hj := (List.getElem?_eq_some_iff.mp h).1
  cases j with
  | zero =>
    have hl : q[q.length - 1]? = some q[q.length - 1] := List.getElem?_eq_getElem (by omega)
    rcases C.ends y _ h hl with ⟨s2, _, b⟩ | ⟨s2, _, b⟩
    · exact .inr ⟨_, by rw [b]; exact hl, .inr ⟨rfl, s2, rfl⟩⟩
    · exact .inl ⟨rfl, s2, b⟩
  | succ j =>
    have hl : q[j]? = some q[j] := List.getElem?_eq_getElem (by omega)
    exact .inr ⟨j, by rw [(C.step j _ y hl h).2]; exact hl, .inl ⟨by omega, by omega⟩⟩
section
variable {P : Program} {w : World} {K : PySem.W.Frag} {mg : Str → Option Value} {base : Heap}
def spFirst : Sp := fun vs H Q _ => ∃ (d : Addr) (T : Tab) (fw bw : Int → Int) (s i : Nat) (q : List Int) (x : Int), vs = [.ref d, .int x] ∧ TabD H d T ∧ (∀ y ∈ q, y ∈ T.items ∧ T.ends y = [fw y, bw y] ∧ y ≠ -1) ∧ Chain fw bw s q ∧ q.Nodup ∧ q[i]? = some x ∧
  ∀ (p : Addr) (H' : Hp), Same H H' → H' p = some (.tup [.int (if s = 2 then 2 else 1), .int (if s = 2 then x else q.headD 0)]) → Q (.ref p) H'
theorem ok_first {f : Addr} {fd : FuncData} {t1 t2 t3 : Tok} (F : Fun K "first_of_piece" "first_of_piece" sFirst f fd) (mN : mg "NOWHERE" = some (.int (-1) t1)) (mR : mg "RING" = some (.int 2 t2)) (mP : mg "PATH" = some (.int 1 t3)) : FnOk P w K mg base CX0 1 f fd ["table", "item"] spFirst := by
  refine F.ok scFirst (fun vs H Q E h => ?_) (fun cdv A outer s0 H vs Q E hr h => ?_)
  · obtain ⟨_, _, _, _, _, _, _, _, rfl, _⟩ := h
    rfl
  obtain ⟨d, T, fw, bw, s, i, q, x, rfl, tab, inT, C, ndq, hi, qq⟩ := h
  have nd := scFirst.nd
  have hu := room1 hr
  refine ⟨_, pss_cons (ps_set (i := 2) nd rfl (.inl rfl) (pv 1))
    (pss_cons (ps_while PassesOwn.never (pt_cmpR op_ne (pe_ix (r := rIxT K) ix_tup (pe_dget hu (pv 0) (pv 2) (fun _ _ => rfl)) pe_int (fun _ _ => rfl)) (pe_glob (v := .int (-1)) (by rfl) mN ⟨_, rfl⟩) (nomark _))
      (pss_cons (ps_set (i := 2) nd rfl (.inl rfl) (pe_ix (r := rIxT K) ix_tup (pe_dget hu (pv 0) (pv 2) (fun _ _ => rfl)) pe_int (fun _ _ => rfl)))
      (pss_one (ps_if (pt_cmpR op_eq (pv 2) (pv 1) (nomark _)) (pss_one (ps_ret (pe_tup (pa_cons (pe_glob (v := .int 2) (by rfl) mR ⟨_, rfl⟩) (pa_cons (pv 1) pa_nil))))) pss_nil))))
    (pss_one (ps_ret (pe_tup (pa_cons (pe_glob (v := .int 1) (by rfl) mP ⟨_, rfl⟩) (pa_cons (pv 2) pa_nil)))))), ?_⟩
  refine ⟨_, rfl, ?_⟩
  refine while_by (fun σ H' => Same H H' ∧ ∃ (j : Nat) (y : Int), σ = [some (.ref d), some (.int x), some (.int y)] ∧ q[j]? = some y ∧ (j ≤ i ∨ s = 2)) (fun σ _ => backLeft q i σ) ⟨fun _ _ h => h, i, x, rfl, hi, .inl (Nat.le_refl _)⟩ (fun σ H' hP => ?_) fun σ H Q Q' m h => ?_
  · obtain ⟨s1, j, y, rfl, hj, ji⟩ := hP
    have tab1 := tab.same s1
    obtain ⟨iy, ey, ny⟩ := inT y (List.mem_of_getElem? hj)
    obtain ⟨t, b, g, ht, hb⟩ := tab1.get iy
    rw [ey] at ht
    refine ⟨_, rfl, _, rfl, d, _, rfl, g, t, _, 2, .int (bw y), rfl, rfl, .inl (.inl ht), atI_nat (j := 2) rfl, rfl, ?_⟩
    rcases back_step C hj with ⟨j0, s2, e⟩ | ⟨j', hj', way⟩
    · rw [e]
      refine ⟨false, rfl, ?_⟩
      refine ⟨_, rfl, by show 2 ≤ sizeLine; decide, fun p np => qq p _ (s1.trans (same_new np)) ?_⟩
      rw [upd_same, if_neg s2, if_neg s2]
      subst j0
      cases q with
      | nil => cases hj
      | cons z r =>
        cases hj
        rfl
    · obtain ⟨iy', _, ny'⟩ := inT _ (List.mem_of_getElem? hj')
      refine ⟨true, by simp [eqV, ny'], ?_⟩
      refine ⟨_, rfl, _, rfl, d, _, rfl, g, t, _, 2, .int (bw y), rfl, rfl, .inl (.inl ht), atI_nat (j := 2) rfl, ?_⟩
      refine ⟨_, rfl, _, rfl, rfl, ?_⟩
      have lj := (List.getElem?_eq_some_iff.mp hj').1
      have li := (List.getElem?_eq_some_iff.mp hi).1
      by_cases c : bw y = x
      · refine ⟨true, by simp [eqV, c], ?_⟩
        have : j' = i := by rw [← idx_at ndq hj', ← idx_at ndq hi, c]
        have s2 : s = 2 := by
          rcases way with ⟨_, e⟩ | ⟨_, e, _⟩
          · rcases ji with h | h
            · omega
            · exact h
          · exact e
        refine ⟨_, rfl, by show 2 ≤ sizeLine; decide, fun p np => qq p _ (s1.trans (same_new np)) ?_⟩
        rw [upd_same, if_pos s2, if_pos s2]
      · refine ⟨false, by simp [eqV, c], ?_⟩
        refine ⟨⟨s1, j', _, rfl, hj', ?_⟩, ?_⟩
        · rcases way with ⟨_, e⟩ | ⟨_, e, _⟩
          · rcases ji with h | h
            · exact .inl (by omega)
            · exact .inr h
          · exact .inr e
        · have ne : j' ≠ i := fun e => c (by
            rw [e, hi] at hj'
            injection hj' with hj'
            exact hj'.symm)
          show (if q.idxOf (bw y) ≤ i then q.length + 1 + q.idxOf (bw y) else q.idxOf (bw y)) < if q.idxOf y ≤ i then q.length + 1 + q.idxOf y else q.idxOf y
          rw [idx_at ndq hj', idx_at ndq hj]
          rcases way with ⟨_, e⟩ | ⟨e1, _, e⟩ <;> split <;> split <;> omega
  · obtain ⟨v1, e1, v2, e2, a, v, ea, g, b, xs, k, z, e3, e4, sq, at_, r⟩ := h
    obtain ⟨hs, kk, e5, r⟩ := r
    exact ⟨v1, e1, v2, e2, a, v, ea, g, b, xs, k, z, e3, e4, sq, at_, hs, kk, e5, m _ _ r⟩
end
end DQ

set_option Elab.async false
set_option linter.all false
set_option maxRecDepth 100000
set_option maxHeartbeats 4000000
namespace DQ
open PySem PySem.Spec PyProof.Rows L2
abbrev sInit (i : Nat) : Stmt := inClass (topS i) 0
/-- what the written part says of an own error class with a field -/
structure ErrAt (K : PySem.W.Frag) (mg : Str → Option Value) (name qual : Str) (st : Stmt) (C : Addr) : Prop where
  g : mg name = some (.ref C)
  T : OexC K C
  xf : XfC K C
  noV : PySem.W.findIn K (.ref C) "value" = some none
  er : ErrC K C
  eq : PySem.W.findIn K (.ref C) "__eq__" = some (some (.builtin "object.__eq__"))
  init : ∃ (fI : Addr) (fd : FuncData), PySem.W.findIn K (.ref C) "__init__" = some (some (.ref fI)) ∧ PySem.W.typeIn K (.ref fI) = some (.type "function") ∧ FunD K "__init__" qual (defArgs st) (defBody st) (defScope st) [V.non] [] fI fd
def spInit (K : PySem.W.Frag) : Sp := fun vs H Q _ => ∃ (a C : Addr) (v : V), vs = [.ref a, v] ∧ OexC K C ∧ PySem.W.findIn K (.ref C) "value" = some none ∧ H a = some (exo a C none) ∧ ∀ d, H d = none → d ≠ a → Q .non (upd (upd H d (exd d [("value", v)])) a (exo a C (some d)))
def iA (p1 p2 p3 : Pos) : Arguments := { posonlyargs := [], args := [{ arg := "self", annotation := none, pos := p1 }, { arg := "value", annotation := none, pos := p2 }], vararg := none, kwonlyargs := [], kw_defaults := [], kwarg := none, defaults := [.Constant .none 0 p3] }
def iB (q1 q2 q3 q4 : Pos) : List Stmt := [.Assign [.Attribute (.Name "self" q1) "value" q2] (.Name "value" q3) q4]
def iS : Scope := { kind := .function, names := [("self", .local), ("value", .local)], isGenerator := false, isCoroutine := false, more := [] }
/-- the one text that all these __init__ have -/
def InitText (st : Stmt) : Prop := ∃ p1 p2 p3 q1 q2 q3 q4 : Pos, defArgs st = iA p1 p2 p3 ∧ defBody st = iB q1 q2 q3 q4 ∧ defScope st = iS
section
variable {P : Program} {w : World} {K : PySem.W.Frag} {mg : Str → Option Value} {base : Heap} {st : Stmt} {qual : Str} {fI : Addr} {fd : FuncData}
theorem scInit : FnScope ["self", "value"] ["self", "value"] iS := ⟨rfl, rfl, rfl, by decide +kernel, rfl, by decide +kernel, by decide +kernel⟩
theorem ok_init (t : InitText st) (F : FunD K "__init__" qual (defArgs st) (defBody st) (defScope st) [V.non] [] fI fd) : FnOk P w K mg base CX0 1 fI fd ["self", "value"] (spInit K) := by
  obtain ⟨p1, p2, p3, q1, q2, q3, q4, e1, e2, e3⟩ := t
  rw [e1, e2, e3] at F
  refine F.ok scInit (fun vs H Q E h => ?_) (fun cdv A outer s H vs Q E hr h => ?_)
  · obtain ⟨a, C, v, rfl, _⟩ := h
    rfl
  obtain ⟨a, C, v, rfl, T, no, ea, q⟩ := h
  refine ⟨_, PSs.nox (pss_one (ps_ost (pv 0) (pv 1))), ?_⟩
  exact ⟨_, rfl, _, rfl, a, C, rfl, T, no, .inl ⟨ea, fun d hd ne => q d hd ne⟩⟩
theorem binds_two (t : InitText st) (F : FunD K "__init__" qual (defArgs st) (defBody st) (defScope st) [V.non] [] fI fd) : Binds K fd ["self", "value"] [] := by
  obtain ⟨p1, p2, p3, q1, q2, q3, q4, e1, e2, e3⟩ := t
  rw [e1, e2, e3] at F
  obtain ⟨ds, r, b⟩ := F.binds1 (ps := ["self", "value"]) 2 1 (by simp) rfl fun T kV doc pm an cdv ct us its l1 l2 => match us, l1, its, l2 with
    | [_, _], _, [_], _ => ⟨_, rfl, rfl⟩
  cases r
  exact b
theorem binds_one (t : InitText st) (F : FunD K "__init__" qual (defArgs st) (defBody st) (defScope st) [V.non] [] fI fd) : ∃ ds, Vals [V.non] ds ∧ Binds K fd ["self", "value"] ds := by
  obtain ⟨p1, p2, p3, q1, q2, q3, q4, e1, e2, e3⟩ := t
  rw [e1, e2, e3] at F
  obtain ⟨ds, r, b⟩ := F.binds1 (ps := ["self", "value"]) 1 0 (by simp) rfl fun T kV doc pm an cdv ct us its l1 l2 => match us, l1, its, l2 with
    | [_], _, [_], _ => ⟨_, rfl, rfl⟩
  exact ⟨ds, r, b⟩
theorem binds_kw (t : InitText st) (F : FunD K "__init__" qual (defArgs st) (defBody st) (defScope st) [V.non] [] fI fd) : KBn K fd ["self", "value"] 1 ["value"] (fun us ws => us ++ ws) (fun vs zs => vs ++ zs) := by
  obtain ⟨p1, p2, p3, q1, q2, q3, q4, e1, e2, e3⟩ := t
  rw [e1, e2, e3] at F
  obtain ⟨its, b⟩ := F.kbindsD (ps := ["self", "value"]) 1 ["value"] (fun us _ ws => us ++ ws) (by simp) (fun r1 _ r3 => r1.append r3) fun T kV doc pm an cdv ct us its ws l1 l2 l3 => match us, l1, its, l2, ws, l3 with
    | [_], _, [_], _, [_], _ => ⟨_, rfl, rfl⟩
  exact ⟨b.to, b.rel⟩
/-- a made error: at a, of the class at C, value in its field -/
def Made (H : Hp) (a C : Addr) (v : V) : Prop := ∃ d, a ≠ d ∧ H a = some (exo a C (some d)) ∧ H d = some (exd d [("value", v)])
theorem Made.same {H H' : Hp} {a C : Addr} {v : V} (m : Made H a C v) (s : Same H H') : Made H' a C v := by
  obtain ⟨d, ne, e1, e2⟩ := m
  exact ⟨d, ne, s _ _ e1, s _ _ e2⟩
end
theorem made_same {H1 : Hp} {a d C : Addr} {v : V} (ha : H1 a = none) (hd : upd H1 a (exo a C none) d = none) (ne : d ≠ a) : Same H1 (upd (upd (upd H1 a (exo a C none)) d (exd d [("value", v)])) a (exo a C (some d))) ∧ Made (upd (upd (upd H1 a (exo a C none)) d (exd d [("value", v)])) a (exo a C (some d))) a C v := by
  have hd1 : H1 d = none := by
    rw [upd_ne ne] at hd
    exact hd
  refine ⟨fun b o q => ?_, d, ne.symm, upd_same, ?_⟩
  · rw [upd_ne (ne_of_none q ha), upd_ne (ne_of_none q hd1), upd_ne (ne_of_none q ha)]
    exact q
  · rw [upd_ne ne, upd_same]
/-- what making an error asks, by what is wanted of it -/
theorem init_read {K : PySem.W.Frag} {C : Addr} {H1 : Hp} {v : V} {Q : VK} (T : OexC K C) (noV : PySem.W.findIn K (.ref C) "value" = some none) (h : ∀ a H2, Same H1 H2 → H1 a = none → Made H2 a C v → Q (.ref a) H2) :
    ∀ a, H1 a = none → spInit K [.ref a, v] (upd H1 a (exo a C none)) (fun v H2 => v = .non ∧ Q (.ref a) H2) (fun _ _ _ => False) := fun a ha =>
  ⟨a, C, v, rfl, T, noV, upd_same, fun d hd ne => ⟨rfl, h a _ (made_same ha hd ne).1 ha (made_same ha hd ne).2⟩⟩
/-- the rules at hand for one class -/
structure ErrUse (P : Program) (w : World) (K : PySem.W.Frag) (mg : Str → Option Value) (base : Heap) (name : Str) (C : Addr) : Prop where
  g : mg name = some (.ref C)
  T : OexC K C
  xf : XfC K C
  noV : PySem.W.findIn K (.ref C) "value" = some none
  er : ErrC K C
  eq : PySem.W.findIn K (.ref C) "__eq__" = some (some (.builtin "object.__eq__"))
  ok : ∃ (fI : Addr) (fd : FuncData) (ds : List Value), PySem.W.findIn K (.ref C) "__init__" = some (some (.ref fI)) ∧ PySem.W.typeIn K (.ref fI) = some (.type "function") ∧ FnOk P w K mg base CX0 1 fI fd ["self", "value"] (spInit K) ∧
    Binds K fd ["self", "value"] [] ∧ Vals [V.non] ds ∧ Binds K fd ["self", "value"] ds ∧ KBn K fd ["self", "value"] 1 ["value"] (fun us ws => us ++ ws) (fun vs zs => vs ++ zs)
theorem ErrAt.use {P : Program} {w : World} {K : PySem.W.Frag} {mg : Str → Option Value} {base : Heap} {name qual : Str} {st : Stmt} {C : Addr} (E : ErrAt K mg name qual st C) (t : InitText st) : ErrUse P w K mg base name C := by
  obtain ⟨fI, fd, iC, tI, F⟩ := E.init
  obtain ⟨ds, r, b⟩ := binds_one t F
  exact ⟨E.g, E.T, E.xf, E.noV, E.er, E.eq, fI, fd, ds, iC, tI, ok_init t F, binds_two t F, r, b, binds_kw t F⟩
theorem pe_ref {X : Cx} {x : Str} {C : Addr} {pos : Pos} (hg : Gl X x) (hm : X.mg x = some (.ref C)) (hd : (x == ("__debug__" : Str)) = false := by decide) : PE X (.Name x pos) (tC (.ref C)) := pe_glob (v := .ref C) hg hm rfl hd
theorem if_ne {x y : V} {A B : Prop} (h : x ≠ y) (b : B) : if decide (x = y) = true then A else B := by
  rw [decide_eq_false h]
  exact iteF b
theorem if_eq {x y : V} {A B : Prop} (h : x = y) (b : A) : if decide (x = y) = true then A else B := by
  rw [decide_eq_true h]
  exact iteT b
theorem it2 : InitText (sInit 2) := ⟨_, _, _, _, _, _, _, rfl, rfl, rfl⟩
theorem it3 : InitText (sInit 3) := ⟨_, _, _, _, _, _, _, rfl, rfl, rfl⟩
theorem it4 : InitText (sInit 4) := ⟨_, _, _, _, _, _, _, rfl, rfl, rfl⟩
end DQ

set_option Elab.async false
set_option linter.all false
set_option maxRecDepth 100000
set_option maxHeartbeats 4000000
namespace DQ
open PySem PySem.Spec PyProof.Rows L2
abbrev sAscending : Stmt := topS 24
theorem scAscending : FnScope ["rows", "one", "other"] ["rows"] (defScope sAscending) := ⟨rfl, rfl, rfl, by decide +kernel, rfl, by decide +kernel, by decide +kernel⟩
section
variable {P : Program} {w : World} {K : PySem.W.Frag} {mg : Str → Option Value} {base : Heap}
def spAscending (K : PySem.W.Frag) : Sp := fun vs H Q _ => ∃ (a : Addr) (xs : List V) (ds : List PyData), vs = [.ref a] ∧ SqL K H a xs ∧ DpAll K H xs ds ∧ PySem.W.AllAlike ds ∧ (∀ d ∈ ds, d ≠ .none ∧ d.depth ≤ 8) ∧ ds.length ≤ 10000 ∧ ∀ H', Same H H' → Q (.bl (ascB ds)) H'
theorem ok_ascending {f : Addr} {fd : FuncData} (F : Fun K "is_ascending" "is_ascending" sAscending f fd) (mZip : mg "zip" = none) (mAll : mg "all" = none) : FnOk P w K mg base CX0 1 f fd ["rows"] (spAscending K) := by
  refine F.ok scAscending (fun vs H Q E h => ?_) (fun cdv A outer s H vs Q E hr h => ?_)
  · obtain ⟨a, xs, ds, rfl, _⟩ := h
    rfl
  obtain ⟨a, xs, ds, rfl, hs, ha, al, ok, few, q⟩ := h
  have nd := scAscending.nd
  refine ⟨_, pss_one (ps_ret (pe_callB (cr_all rfl) (by rfl) mAll (by decide +kernel) (pa_cons (pe_lc (own := [("one", 1), ("other", 2)]) (g := gTup K 2 (gCons (gName 1) (gCons (gName 2) gNil))) (tt := tYes) rfl nd (pi_zip (by rfl) mZip (pa_cons (pv 0) (pa_cons (pe_slice sl_list (pv 0) (po_some pe_int) po_none) pa_nil)))
    (blkOk_by (own := [("one", 1), ("other", 2)]) (N := ["rows", "one", "other"]) (sc := defScope sAscending) (by decide +kernel)) (fun _ _ _ _ _ => pg_tup rfl (pgs_cons (pg_name (i := 1) nd rfl (Or.inl rfl) (.inr rfl)) (pgs_cons (pg_name (i := 2) nd rfl (Or.inl rfl) (.inr rfl)) pgs_nil))) (fun _ _ _ _ _ => pts_nil) (fun _ _ _ _ _ => pe_cmpR (r := rLtD K) (op_ltD hr.units) (pv 1) (pv 2) (by rfl))) pa_nil))), ?_⟩
  have len := dpAll_len ha
  refine ⟨_, rfl, _, rfl, _, rfl, a, _, rfl, hs, fun p np => ?_⟩
  rw [show (some (1 : Int)) = some ((1 : Nat) : Int) from rfl, cut_drop]
  have mp := same_new np (o := .lst (xs.drop 1))
  have ep : upd H p (.lst (xs.drop 1)) p = some (.lst (xs.drop 1)) := upd_same
  generalize upd H p (.lst (xs.drop 1)) = H1 at mp ep ⊢
  have hs1 := L2.Same.seq mp hs
  have lz : (ds.zip (ds.drop 1)).length = min xs.length (xs.drop 1).length := by
    rw [List.length_zip, List.length_drop, List.length_drop, len]
  refine ⟨a, p, xs, xs.drop 1, rfl, hs1, SqL.of ep, fun D nD => lc_bools (walk_zip (K := K) (a := a) (b := p) (xs := xs) (ys := xs.drop 1) rfl) ((ds.zip (ds.drop 1)).map fun p => PySem.W.dataLt p.1 p.2) (by rw [List.length_map, lz]) (Nat.lt_of_le_of_lt (show min xs.length (xs.drop 1).length ≤ 10000 by rw [len]; omega) (by decide)) nD (fun _ s2 => ⟨L2.Same.seq s2 hs1, SqL.of (s2 _ _ ep)⟩)
    (fun i H2 v H3 y => ?_) (fun i v H2 H3 b hi hb s2 y R hR => ?_) (fun H2 s2 e2 => ?_) (fun v σ H (R R' : L2.St → Hp → Prop) m h => ?_)⟩
  · obtain ⟨T, x, y, _, nT, rfl, _⟩ := y
    exact same_new nT
  · obtain ⟨T, x, y, rfl, nT, rfl, hx, hy⟩ := y
    obtain ⟨pr, hp, e⟩ : ∃ pr : PyData × PyData, (ds.zip (ds.drop 1))[i]? = some pr ∧ b = PySem.W.dataLt pr.1 pr.2 := by
      rw [List.getElem?_map] at hb
      obtain ⟨pr, hp, e⟩ := Option.map_eq_some_iff.mp hb
      exact ⟨pr, hp, e.symm⟩
    obtain ⟨d, e'⟩ := pr
    rw [List.getElem?_zip_eq_some] at hp
    obtain ⟨h1, h2⟩ := hp
    have hx : xs[i]? = some x := hx
    have hy : (xs.drop 1)[i]? = some y := hy
    rw [List.getElem?_drop] at hy h2
    have sT := same_new nT (o := .tup [x, y])
    have eT : upd H2 T (.tup [x, y]) T = some (.tup [x, y]) := upd_same
    generalize upd H2 T (.tup [x, y]) = H3 at sT eT hR ⊢
    have keep : L2.Same H H3 := (mp.trans s2).trans sT
    refine ⟨T, [x, y], rfl, .inl (.inl eT), rfl, x, [y], rfl, y, [], rfl, rfl, rfl, _, rfl, _, rfl, d, e', dp_same keep _ _ (dpAll_get ha hx h1), dp_same keep _ _ (dpAll_get ha hy h2), al _ (List.mem_of_getElem? h1) _ (List.mem_of_getElem? h2), (ok _ (List.mem_of_getElem? h1)).1, (ok _ (List.mem_of_getElem? h1)).2, ?_⟩
    rw [← e]
    exact hR _ fun _ _ h => h
  · refine ⟨D, _, rfl, SqL.of e2, ?_⟩
    rw [List.all_map]
    exact q H2 (mp.trans s2)
  · obtain ⟨T, ys, e1, e2, e3, z1, r1, e4, z2, r2, e5, e6, h⟩ := h
    exact ⟨T, ys, e1, e2, e3, z1, r1, e4, z2, r2, e5, e6, m _ _ h⟩
end
end DQ

set_option Elab.async false
set_option linter.all false
set_option maxRecDepth 100000
set_option maxHeartbeats 400000
namespace DQ
open PySem PySem.Spec PyProof.Rows L2
abbrev sFacts : Stmt := topS 27
abbrev NFs : List Str := ["marks", "columns", "items", "value", "known", "item", "fact"]
theorem scFacts : FnScope NFs ["marks", "columns", "items", "value"] (defScope sFacts) := ⟨rfl, rfl, rfl, by decide +kernel, rfl, by decide +kernel, by decide +kernel⟩
section
variable {P : Program} {w : World} {K : PySem.W.Frag} {mg : Str → Option Value} {base : Heap}
/-- a value that stands for data; a list's items that are facts are tuples laid here -/
def FactsAt (K : PySem.W.Frag) (H : Hp) (v : V) (d : PyData) : Prop :=
  (∃ (a : Addr) (xs : List V) (ds : List PyData), v = .ref a ∧ d = .list ds ∧ SqL K H a xs ∧ DpAll K H xs ds ∧ ds.length ≤ 10000 ∧ (∀ e ∈ ds, Parts e) ∧ ∀ fs : List Fact, ds = fs.map Fact.d → Tups H xs (fs.map Fact.v)) ∨ (Dp K H v d ∧ isT "list" d = false)
def spFacts (K : PySem.W.Frag) : Sp := fun vs H Q _ => ∃ (ma ca ia : Addr) (ms cs : List Str) (ns : List Int) (v : V) (d : PyData), vs = [.ref ma, .ref ca, .ref ia, v] ∧ SqL K H ma (ms.map V.str) ∧ SqL K H ca (cs.map V.str) ∧ SeqAt.shaped (.list (ms.map PyData.str)) = true ∧ SeqAt.shaped (.list (cs.map PyData.str)) = true ∧
  SqL K H ia (ns.map V.int) ∧ ns.length ≤ 10000 ∧ FactsAt K H v d ∧ (∀ x, x ∈ ms ∨ x ∈ cs → PyData.canLay0 (.str x) = true) ∧ ∀ H', Same H H' → Q (.bl (areFactsD ms cs ns d)) H'
theorem ok_facts {f fF fA fC : Addr} {fd fdF fdA fdC : FuncData} (F : Fun K "are_facts" "are_facts" sFacts f fd)
    (GF : FnOk P w K mg base CX0 4 fF fdF ["marks", "columns", "known", "value"] (spIsFact K)) (bF : Binds K fdF ["marks", "columns", "known", "value"] []) (kF' : PySem.W.keepIn K (.ref fF) = true) (mF : mg "is_fact" = some (.ref fF))
    (GA : FnOk P w K mg base CX0 1 fA fdA ["rows"] (spAscending K)) (bA : Binds K fdA ["rows"] []) (kA : PySem.W.keepIn K (.ref fA) = true) (mA : mg "is_ascending" = some (.ref fA))
    (GC : FnOk P w K mg base CX0 1 fC fdC ["facts"] (spClash K)) (bC : Binds K fdC ["facts"] []) (kC : PySem.W.keepIn K (.ref fC) = true) (mC : mg "first_clash" = some (.ref fC))
    (mI : mg "isinstance" = none) (mList : mg "list" = none) (mAll : mg "all" = none) : FnOk P w K mg base CX0 5 f fd ["marks", "columns", "items", "value"] (spFacts K) := by
  refine F.ok scFacts (fun vs H Q E h => ?_) (fun cdv A outer s H vs Q E hr h => ?_)
  · obtain ⟨_, _, _, _, _, _, _, _, rfl, _⟩ := h
    rfl
  obtain ⟨ma, ca, ia, ms, cs, ns, v, d, rfl, hma, hca, lm, lc, hia, few, hv, lay, q⟩ := h
  have nd := scFacts.nd
  refine ⟨_, (pss_cons (ps_if (pt_not (pt_val (pe_callB call_isi (by rfl) mI (by decide +kernel) (pa_cons (pv 3) (pa_cons (pe_bltn (v := .ty "list") (by rfl) mList (by decide +kernel) rfl) pa_nil))))) (pss_one (ps_ret pe_bl)) pss_nil)
    (pss_cons (ps_set (i := 4) nd rfl (.inr rfl) (pe_dc (own := [("item", 5)]) (g := gName 5) (tt := tYes) rfl nd (pi_list (pv 2)) (blkOk_by (own := [("item", 5)]) (N := NFs) (sc := defScope sFacts) (by decide +kernel)) (fun _ _ _ _ _ => pg_name (i := 5) nd rfl (Or.inl rfl)) (fun _ _ _ _ _ => pts_nil) (fun _ _ _ _ _ => pv 5) (fun _ _ _ _ _ => pe_bl)))
    (pss_cons (ps_if (pt_not (pt_val (pe_callB (cr_all rfl) (by rfl) mAll (by decide +kernel) (pa_cons (pe_lc (own := [("fact", 6)]) (g := gName 6) (tt := tYes) rfl nd (pi_list (pv 3)) (blkOk_by (own := [("fact", 6)]) (N := NFs) (sc := defScope sFacts) (by decide +kernel)) (fun _ _ _ _ _ => pg_name (i := 6) nd rfl (Or.inl rfl)) (fun _ _ _ _ _ => pts_nil)
      (fun _ _ _ _ _ => pe_call GF (hr.mono (by decide)) rfl mF kF' bF .nil pass0 (pa_cons (pv 0) (pa_cons (pv 1) (pa_cons (pv 4) (pa_cons (pv 6) pa_nil)))))) pa_nil)))) (pss_one (ps_ret pe_bl)) pss_nil)
    (pss_one (ps_ret (pe_and (pe_call GA (hr.mono (by decide)) rfl mA kA bA .nil pass0 (pa_cons (pv 3) pa_nil)) (pe_one (pe_cmpR op_isN (pe_call GC (hr.mono (by decide)) rfl mC kC bC .nil pass0 (pa_cons (pv 3) pa_nil)) pe_non (nomark _))))))))), ?_⟩
  rcases hv with ⟨a, xs, ds, rfl, rfl, hs, ha, fewd, parts, tups⟩ | ⟨hd, no⟩
  · have len := dpAll_len ha
    have ty := dp_ty (Dp.lst hs ha)
    refine ⟨_, rfl, .ref a, .ty "list", _, _, _, rfl, .ty "list", ty, kit_data (by simp) _, _, rfl, ?_⟩
    have il : isT "list" (.list ds) = true := by simp only [isT, tyN]; decide
    rw [il]
    refine ⟨_, rfl, ia, rfl, ⟨_, hia⟩, fun D nD => dc_known hia few nD (fun _ => rfl) (fun _ _ _ q => ⟨_, rfl, q⟩) fun H1 s1 kn => ?_⟩
    refine ⟨_, rfl, a, rfl, ⟨_, L2.Same.seq s1 hs⟩, fun D2 nD2 => lc_bools (walk_list (K := K) (a := a) (xs := xs)) (ds.map (isFactD ms cs ns)) (by rw [List.length_map, len]) (Nat.lt_of_le_of_lt (show xs.length ≤ 10000 by rw [len]; exact fewd) (by decide)) nD2 (fun _ s2 => L2.Same.seq (s1.trans s2) hs) (fun _ _ _ _ y => by rw [y.1]; exact fun _ _ h => h)
        (fun i v H2 H3 b hi hb s2 y R hR => ?_) (fun H2 s2 e2 => ?_) (fun _ _ _ _ _ m h => m _ _ h)⟩
    · obtain ⟨rfl, hv⟩ := y
      obtain ⟨e, he, rfl⟩ := all_at hb
      have s12 : L2.Same H H3 := s1.trans s2
      refine ⟨rfl, _, rfl, _, rfl, _, rfl, _, rfl, ma, ca, D, ms, cs, ns, v, e, rfl, L2.Same.seq s12 hma, L2.Same.seq s12 hca, lm, lc, ?_, dp_same s12 _ _ (dpAll_get ha hv he), parts e (List.mem_of_getElem? he), fun H' sm => hR H' sm⟩
      obtain ⟨kvs, ek, iff⟩ := kn
      exact ⟨kvs, s2 _ _ ek, iff⟩
    have s12 : L2.Same H H2 := s1.trans s2
    have yes : areFactsD ms cs ns (.list ds) = (ds.all (isFactD ms cs ns) && (ascB ds && noClashB (factsD ds))) := rfl
    rw [yes] at q
    refine ⟨D2, _, rfl, SqL.of e2, _, rfl, ?_⟩
    rw [List.all_map]
    refine ite2 (fun c1 => ?_) fun c1 => ?_
    · have c1 : (!ds.all (isFactD ms cs ns)) = true := c1
      have q := q H2 s12
      rw [show ds.all (isFactD ms cs ns) = false by simpa using c1, Bool.false_and] at q
      exact q
    have c1 : ds.all (isFactD ms cs ns) = true := by
      have c1 : ¬ (!ds.all (isFactD ms cs ns)) = true := c1
      simpa using c1
    rw [c1, Bool.true_and] at q
    obtain ⟨ed, hof⟩ := all_facts c1
    generalize factsD ds = fs at ed hof q
    have tp := tups fs ed
    have lfs : fs.length = ds.length := by rw [ed, List.length_map]
    refine ⟨_, rfl, a, xs, ds, rfl, L2.Same.seq s12 hs, dpAll_same s12 _ _ ha, ?_, ?_, fewd, fun H3 s3 => ⟨_, rfl, ite2 (fun c2 => ?_) fun c2 => ?_⟩⟩
    · intro d1 h1 d2 h2
      rw [ed] at h1 h2
      obtain ⟨x, _, rfl⟩ := List.mem_map.mp h1
      obtain ⟨y, _, rfl⟩ := List.mem_map.mp h2
      exact fact_alike x y
    · intro d1 h1
      rw [ed] at h1
      obtain ⟨x, _, rfl⟩ := List.mem_map.mp h1
      exact ⟨(fun e => by cases x <;> exact nomatch e), fact_depth x⟩
    · have s13 : L2.Same H H3 := s12.trans s3
      refine ⟨_, rfl, a, xs, fs, rfl, L2.Same.seq s13 hs, tp.keep (tk_same s13), fun x hx => lay _ (hof x hx).1, by omega, fun H4 s4 nc => ⟨rfl, ?_⟩, fun i y v H4 s4 hy hv _ cl => ⟨rfl, ?_⟩⟩
      · have q := q H4 (s13.trans s4)
        rw [c2, Bool.true_and, noClashB_iff.mpr nc] at q
        exact q
      · obtain ⟨x, hx, cl⟩ := cl
        have q := q H4 (s13.trans s4)
        obtain ⟨t, tt, rfl, _⟩ := tp.get hv
        have nb : noClashB fs = false := Bool.eq_false_iff.mpr fun e => by
          have := noClashB_iff.mp e x (List.mem_of_mem_take hx) y (List.mem_of_getElem? hy)
          rw [cl] at this
          exact nomatch this
        rw [c2, Bool.true_and, nb] at q
        exact q
    · have q := q H3 (s12.trans s3)
      rw [Bool.eq_false_iff.mpr c2, Bool.false_and] at q
      exact q
  · have ty := dp_ty hd
    refine ⟨_, rfl, v, .ty "list", _, _, _, rfl, .ty "list", ty, kit_data (by simp) _, _, rfl, ?_⟩
    rw [no]
    have e : areFactsD ms cs ns d = false := by
      cases d with
      | list ds => exact absurd no (by simp only [isT, tyN]; decide)
      | _ => rfl
    have q := q H fun _ _ h => h
    rw [e] at q
    exact q
end
end DQ

set_option Elab.async false
set_option linter.all false
set_option maxRecDepth 100000
set_option maxHeartbeats 400000
namespace DQ
open PySem PySem.Spec PyProof.Rows L2
abbrev sStoreP : Stmt := topS 28
abbrev NSt : List Str := ["value", "_", "marks", "columns", "items", "facts"]
theorem scStoreP : FnScope NSt ["value"] (defScope sStoreP) := ⟨rfl, rfl, rfl, by decide +kernel, rfl, by decide +kernel, by decide +kernel⟩
theorem factsAt_same {K : PySem.W.Frag} {H H' : Hp} {v : V} {d : PyData} (s : Same H H') (h : FactsAt K H v d) : FactsAt K H' v d := by
  rcases h with ⟨a, xs, ds, e1, e2, hs, ha, few, p, t⟩ | ⟨h, n⟩
  · exact .inl ⟨a, xs, ds, e1, e2, L2.Same.seq s hs, dpAll_same s _ _ ha, few, p, fun fs e => (t fs e).keep (tk_same s)⟩
  · exact .inr ⟨dp_same s _ _ h, n⟩
section
variable {P : Program} {w : World} {K : PySem.W.Frag} {mg : Str → Option Value} {base : Heap}
def spIsStore (K : PySem.W.Frag) : Sp := fun vs H Q _ => ∃ v : V, vs = [v] ∧
  ((∃ (d : PyData), Dp K H v d ∧ (∀ ds, d = .tuple ds → ds.length ≠ 5) ∧ ∀ H', Same H H' → Q (.bl false) H') ∨
   ∃ (t : Addr) (s m c i f : V) (ds dm dc di df : PyData), v = .ref t ∧ SqT K H t [s, m, c, i, f] ∧ Dp K H s ds ∧ SeqAt.shaped ds = true ∧ Dp K H m dm ∧ Fits dm ∧ Lays dm ∧ Dp K H c dc ∧ Fits dc ∧ Lays dc ∧ Dp K H i di ∧ Fits di ∧ FactsAt K H f df ∧
     ∀ H', Same H H' → Q (.bl (isStoreD ds dm dc di df)) H')
theorem ok_isStore {f f1 f2 f3 f4 f5 : Addr} {fd d1 d2 d3 d4 d5 : FuncData} {t1 : Tok} (F : Fun K "is_store" "is_store" sStoreP f fd)
    (G1 : FnOk P w K mg base CX0 4 f1 d1 ["value"] (spMarks K 4)) (b1 : Binds K d1 ["value"] []) (k1 : PySem.W.keepIn K (.ref f1) = true) (m1 : mg "are_marks" = some (.ref f1))
    (G2 : FnOk P w K mg base CX0 4 f2 d2 ["marks", "value"] (spColumns K)) (b2 : Binds K d2 ["marks", "value"] []) (k2 : PySem.W.keepIn K (.ref f2) = true) (m2 : mg "are_columns" = some (.ref f2))
    (G3 : FnOk P w K mg base CX0 4 f3 d3 ["value"] (spNumbers K)) (b3 : Binds K d3 ["value"] []) (k3 : PySem.W.keepIn K (.ref f3) = true) (m3 : mg "are_numbers" = some (.ref f3))
    (G4 : FnOk P w K mg base CX0 1 f4 d4 ["rows"] (spAscending K)) (b4 : Binds K d4 ["rows"] []) (k4 : PySem.W.keepIn K (.ref f4) = true) (m4 : mg "is_ascending" = some (.ref f4))
    (G5 : FnOk P w K mg base CX0 5 f5 d5 ["marks", "columns", "items", "value"] (spFacts K)) (b5 : Binds K d5 ["marks", "columns", "items", "value"] []) (k5 : PySem.W.keepIn K (.ref f5) = true) (m5 : mg "are_facts" = some (.ref f5))
    (mI : mg "isinstance" = none) (mTuple : mg "tuple" = none) (mLen : mg "len" = none) (mM : mg "MOST_ITEMS" = some (.int 2000 t1)) : FnOk P w K mg base CX0 6 f fd ["value"] (spIsStore K) := by
  refine F.ok scStoreP (fun vs H Q E h => ?_) (fun cdv A outer s H vs Q E hr h => ?_)
  · obtain ⟨_, rfl, _⟩ := h
    rfl
  obtain ⟨v, rfl, h⟩ := h
  have nd := scStoreP.nd
  refine ⟨_, (pss_cons (ps_if (PW.pt (pw_or (pt_not (pt_val (pe_callB call_isi (by rfl) mI (by decide +kernel) (pa_cons (pv 0) (pa_cons (pe_bltn (v := .ty "tuple") (by rfl) mTuple (by decide +kernel) rfl) pa_nil)))))
      (pw_or (pt_cmpR op_ne (pe_callB call_len_seq (by rfl) mLen PySem.boot_len (pa_cons (pv 0) pa_nil)) pe_int (nomark _)) (pw_or1 (pt_cmpR (op_neD hr.units) (pe_ix (r := rIxT K) ix_tup (pv 0) pe_int (fun _ _ => rfl)) pe_str (nomark _)))))) (pss_one (ps_ret pe_bl)) pss_nil)
    (pss_cons (ps_asg (pv 0) (pg_tup rfl (pgs_cons (pg_name (i := 1) nd rfl (.inl rfl)) (pgs_cons (pg_name (i := 2) nd rfl (.inl rfl)) (pgs_cons (pg_name (i := 3) nd rfl (.inl rfl)) (pgs_cons (pg_name (i := 4) nd rfl (.inl rfl)) (pgs_cons (pg_name (i := 5) nd rfl (.inl rfl)) pgs_nil)))))))
    (pss_cons (ps_if (PW.pt (pw_or (pt_not (pt_val (pe_call G1 (hr.mono (by decide)) rfl m1 k1 b1 .nil pass0 (pa_cons (pv 2) pa_nil)))) (pw_or1 (pt_not (pt_val (pe_call G2 (hr.mono (by decide)) rfl m2 k2 b2 .nil pass0 (pa_cons (pv 2) (pa_cons (pv 3) pa_nil)))))))) (pss_one (ps_ret pe_bl)) pss_nil)
    (pss_cons (ps_if (PW.pt (pw_or (pt_not (pt_val (pe_call G3 (hr.mono (by decide)) rfl m3 k3 b3 .nil pass0 (pa_cons (pv 4) pa_nil)))) (pw_or (pt_cmpR op_gt (pe_callB call_len_seq (by rfl) mLen PySem.boot_len (pa_cons (pv 4) pa_nil)) (pe_glob (v := .int 2000) (by rfl) mM ⟨_, rfl⟩) (nomark _)) (pw_or1 (pt_not (pt_val (pe_call G4 (hr.mono (by decide)) rfl m4 k4 b4 .nil pass0 (pa_cons (pv 4) pa_nil)))))))) (pss_one (ps_ret pe_bl)) pss_nil)
    (pss_one (ps_ret (pe_call G5 (hr.mono (by decide)) rfl m5 k5 b5 .nil pass0 (pa_cons (pv 2) (pa_cons (pv 3) (pa_cons (pv 4) (pa_cons (pv 5) pa_nil)))))))))) ), ?_⟩
  rcases h with ⟨d, hd, n5, q⟩ | ⟨t, s, m, c, i, fv, ds, dm, dc, di, df, rfl, ht, hs, shs, hm, fm, lm, hc, fc, lc, hi, fi, hf, q⟩
  · have q := q H fun _ _ h => h
    have ty := dp_ty hd
    refine ⟨_, rfl, v, .ty "tuple", _, _, _, rfl, .ty "tuple", ty, kit_data (by simp) d, _, rfl, ite2 (fun c1 => q) fun c1 => ?_⟩
    cases hd with
    | @tup a xs ds hs ha =>
      have ne := ne_int (show xs.length ≠ 5 by rw [dpAll_len ha]; exact n5 ds rfl)
      refine ⟨_, rfl, a, xs, rfl, .inr hs, rfl, _, rfl, ?_⟩
      rw [show decide (V.int ((xs.length : Nat) : Int) = V.int 5) = false from ne]
      exact q
    | _ => exact absurd rfl c1
  have tyT : TyX K H (.ref t) (.type "tuple") := by
    rcases ht with (h | ⟨o, h⟩) | ⟨o, _, _, h, cl, _⟩
    · exact .base (.tup h)
    · exact .fTuple h
    · exact .kTuple h cl
  refine ⟨_, rfl, .ref t, .ty "tuple", _, _, true, rfl, .ty "tuple", tyT, kit_ty (by decide +kernel), _, rfl, ?_⟩
  refine ⟨_, rfl, t, _, rfl, .inr ht, rfl, _, rfl, ?_⟩
  refine ⟨_, rfl, t, _, 0, s, rfl, rfl, ht, atI_nat (j := 0) rfl, ds, .str "store", hs, .str _, shs, by decide +kernel, _, rfl, ite2 (fun c1 => ?_) fun c1 => ?_⟩
  · have q := q H fun _ _ h => h
    unfold isStoreD at q
    rw [show PyData.eqv ds (.str "store") = false by simpa using c1, Bool.false_and] at q
    exact q
  have c1 : PyData.eqv ds (.str "store") = true := by simpa using c1
  unfold isStoreD at q
  rw [c1, Bool.true_and] at q
  refine ⟨_, rfl, t, _, rfl, ht, rfl, s, _, rfl, m, _, rfl, c, _, rfl, i, _, rfl, fv, _, rfl, rfl, ?_⟩
  refine ⟨_, rfl, m, dm, rfl, hm, fm, fun H1 s1 => ⟨_, rfl, ite2 (fun c2 => ?_) fun c2 => ?_⟩⟩
  · have q := q H1 s1
    rw [show wordsD 4 dm = false by simpa using c2, Bool.false_and, Bool.false_and] at q
    exact q
  have c2 : wordsD 4 dm = true := by simpa using c2
  obtain ⟨l1, rfl, w1⟩ := wordsD_list c2
  rw [c2, Bool.true_and] at q
  cases hm with
  | @lst ma x1 _ hma a1 =>
  obtain ⟨e1, n1⟩ := texts_all a1 w1
  rw [e1] at hma
  refine ⟨_, rfl, _, rfl, ma, texts l1, c, dc, rfl, L2.Same.seq s1 hma, dp_same s1 _ _ hc, fc, fun H2 s2 => ⟨_, rfl, ite2 (fun c3 => ?_) fun c3 => ?_⟩⟩
  · have q := q H2 (s1.trans s2)
    rw [show columnsD (texts (listD (.list l1))) dc = false by simpa [listD] using c3, Bool.false_and] at q
    exact q
  have c3 : columnsD (texts l1) dc = true := by simpa using c3
  have c3' : wordsD 2 dc = true := by
    cases e : wordsD 2 dc with
    | true => rfl
    | false =>
      rw [columns_no e] at c3
      exact nomatch c3
  obtain ⟨l2, rfl, w2⟩ := wordsD_list c3'
  rw [show columnsD (texts (listD (.list l1))) (.list l2) = true from c3, Bool.true_and] at q
  cases hc with
  | @lst ca x2 _ hca a2 =>
  obtain ⟨e2, n2⟩ := texts_all a2 w2
  rw [e2] at hca
  have s02 : L2.Same H H2 := s1.trans s2
  refine ⟨_, rfl, i, di, rfl, dp_same s02 _ _ hi, fi, fun H3 s3 => ⟨_, rfl, ite2 (fun c4 => ?_) fun c4 => ?_⟩⟩
  · have q := q H3 (s02.trans s3)
    rw [show numsD di = false by simpa using c4, Bool.false_and, Bool.false_and, Bool.false_and] at q
    exact q
  have c4 : numsD di = true := by simpa using c4
  rw [c4, Bool.true_and] at q
  have s03 : L2.Same H H3 := s02.trans s3
  cases hi with
  | @lst ia x3 l3 hia a3 =>
    obtain ⟨few3, _⟩ := fi l3 rfl
    obtain ⟨e3, n3, m3⟩ := ints_all a3 c4
    have len3 := dpAll_len a3
    have hia3 := L2.Same.seq s03 hia
    refine ⟨_, rfl, ia, _, rfl, .inl hia3, _, _, rfl, rfl, _, rfl, ite2 (fun c5 => ?_) fun c5 => ?_⟩
    · have c5 := of_decide_eq_true c5
      have q := q H3 s03
      rw [show decide ((listD (.list l3)).length ≤ 2000) = false from decide_eq_false (by show ¬ l3.length ≤ 2000; omega), Bool.false_and, Bool.false_and] at q
      exact q
    have c5 := of_decide_eq_false (Bool.eq_false_iff.mpr c5)
    rw [show decide ((listD (.list l3)).length ≤ 2000) = true from decide_eq_true (by show l3.length ≤ 2000; omega), Bool.true_and] at q
    refine ⟨_, rfl, ia, x3, l3, rfl, hia3, dpAll_same s03 _ _ a3, ?_, ?_, few3, fun H4 s4 => ⟨_, rfl, ite2 (fun c6 => ?_) fun c6 => ?_⟩⟩
    · intro d1 h1 d2 h2
      rw [m3] at h1 h2
      obtain ⟨x, _, rfl⟩ := List.mem_map.mp h1
      obtain ⟨y, _, rfl⟩ := List.mem_map.mp h2
      rfl
    · intro d1 h1
      rw [m3] at h1
      obtain ⟨x, _, rfl⟩ := List.mem_map.mp h1
      exact ⟨(fun e => nomatch e), Nat.zero_le _⟩
    · have q := q H4 (s03.trans s4)
      rw [show ascB (listD (.list l3)) = false by simpa [listD] using c6, Bool.false_and] at q
      exact q
    have c6 : ascB l3 = true := by simpa using c6
    rw [show ascB (listD (.list l3)) = true from c6, Bool.true_and] at q
    have s04 : L2.Same H H4 := s03.trans s4
    rw [e3] at hia
    refine ⟨_, rfl, _, rfl, _, rfl, _, rfl, ma, ca, ia, texts l1, texts l2, intsD l3, fv, df, rfl, L2.Same.seq s04 hma, L2.Same.seq s04 hca, shaped_texts w1 (lm _ rfl), shaped_texts w2 (lc _ rfl), L2.Same.seq s04 hia, by omega, factsAt_same s04 hf, fun x hx => ?_, fun H5 s5 => q H5 (s04.trans s5)⟩
    have md : ∀ {l : List PyData}, l.all wordD = true → x ∈ texts l → (PyData.str x) ∈ l := fun {l} h z => by
      rw [texts_data h]
      exact List.mem_map.mpr ⟨x, z, rfl⟩
    rcases hx with hx | hx
    · exact lm _ rfl _ (md w1 hx)
    · exact lc _ rfl _ (md w2 hx)
  | _ => exact nomatch c4
end
end DQ

set_option Elab.async false
set_option linter.all false
set_option maxRecDepth 100000
set_option maxHeartbeats 400000
namespace DQ
open PySem PySem.Spec PyProof.Rows L2
theorem intsD_ints : ∀ ns : List Int, intsD (ns.map PyData.int) = ns
  | [] => rfl
  | x :: r => by
    have ih := intsD_ints r
    unfold intsD at ih ⊢
    rw [List.map_cons, List.filterMap_cons_some (f := intD) (a := .int x) (b := x) rfl, ih]
theorem isStore_of {m : Nat} (hm : m ≤ 2000) {S : Store} (D : Drawn m S) : isStoreD (.str "store") (.list (S.marks.map PyData.str)) (.list (S.columns.map PyData.str)) (.list (S.items.map PyData.int)) (.list (S.facts.map Fact.d)) = true := by
  obtain ⟨b, k, hb, hk, ek⟩ := D.marks
  obtain ⟨j, h1, h2, ej⟩ := D.columns
  unfold isStoreD
  show (PyData.eqv (.str "store") (.str "store") && ((wordsD 4 (.list (S.marks.map PyData.str)) && columnsD (texts (S.marks.map PyData.str)) (.list (S.columns.map PyData.str))) && ((numsD (.list (S.items.map PyData.int)) && decide ((S.items.map PyData.int).length ≤ 2000) && ascB (S.items.map PyData.int)) && areFactsD (texts (S.marks.map PyData.str)) (texts (S.columns.map PyData.str)) (intsD (S.items.map PyData.int)) (.list (S.facts.map Fact.d))))) = true
  rw [texts_strs, texts_strs, intsD_ints, nums_of D.items.2, asc_ints D.items.1, areFacts_of D, List.length_map, decide_eq_true (show S.items.length ≤ 2000 by have := D.few; omega)]
  rw [ek, ej, marks_ok hb hk, columns_ok hb hk h1 h2]
  decide +kernel
end DQ

set_option Elab.async false
set_option linter.all false
set_option maxRecDepth 100000
set_option maxHeartbeats 400000
namespace DQ
open PySem PySem.Spec PyProof.Rows L2
/-- the store at v, part by part -/
theorem store_asks {K : PySem.W.Frag} {H : Hp} {v : V} {m : Nat} {S : Store} (hm : m ≤ 2000) (D : Drawn m S) (A : StoAt H v S) {Q : VK} {E : XK} (q : ∀ H', Same H H' → Q (.bl true) H') : spIsStore K [v] H Q E := by
  obtain ⟨t, ma, ca, ia, fa, rs, rfl, ht, hma, hca, hia, hfa, tp⟩ := A
  have fitsS : ∀ ms : List Str, ms.length ≤ 10000 → (∀ x ∈ ms, x ∈ drawnWords) → Fits (.list (ms.map PyData.str)) ∧ Lays (.list (ms.map PyData.str)) := fun ms l h => by
    refine ⟨fun ds e => ?_, fun ds e d hd => ?_⟩
    · injection e with e
      subst e
      refine ⟨by rw [List.length_map]; exact l, fun d hd x ex => ?_⟩
      obtain ⟨y, hy, e⟩ := List.mem_map.mp hd
      rw [ex] at e
      injection e with e
      rw [← e]
      exact (lay_words y (h y hy)).2
    · injection e with e
      subst e
      obtain ⟨y, hy, rfl⟩ := List.mem_map.mp hd
      exact (lay_words y (h y hy)).1
  obtain ⟨b, k, hb, hk, ek⟩ := D.marks
  obtain ⟨j, _, hj, ej⟩ := D.columns
  have lm : S.marks.length ≤ 10000 := by rw [ek, List.length_take]; omega
  have lc : S.columns.length ≤ 10000 := by rw [ej, List.length_take]; omega
  obtain ⟨f1, l1⟩ := fitsS S.marks lm fun x h => D.word (.inl h)
  obtain ⟨f2, l2⟩ := fitsS S.columns lc fun x h => D.word (.inr h)
  have f3 : Fits (.list (S.items.map PyData.int)) := fun ds e => by
    injection e with e
    subst e
    refine ⟨by rw [List.length_map]; have := D.few; omega, fun d hd x ex => ?_⟩
    obtain ⟨y, hy, e⟩ := List.mem_map.mp hd
    rw [ex] at e
    exact nomatch e
  refine ⟨_, rfl, .inr ⟨t, .str "store", .ref ma, .ref ca, .ref ia, .ref fa, .str "store", _, _, _, .list (S.facts.map Fact.d), rfl, .inl (.inl ht), .str _, by decide +kernel, .lst (SqL.of hma) (dp_texts S.marks), f1, l1, .lst (SqL.of hca) (dp_texts S.columns), f2, l2, .lst (SqL.of hia) (dp_intsL S.items), f3, ?_, fun H' sm => by rw [isStore_of hm D]; exact q H' sm⟩⟩
  refine .inl ⟨fa, rs, S.facts.map Fact.d, rfl, rfl, SqL.of hfa, dp_facts tp, by rw [List.length_map]; have := D.short; omega, fun e he => ?_, fun fs e => by rw [← facts_inj e]; exact tp⟩
  obtain ⟨x, hx, rfl⟩ := List.mem_map.mp he
  exact fact_parts x (lay_words _ (D.factWord hx)).1
end DQ

set_option Elab.async false
set_option linter.all false
set_option maxRecDepth 100000
set_option maxHeartbeats 400000
namespace DQ
open PySem PySem.Spec PyProof.Rows L2
/-- an error of the class at C goes out, v its value, all else as it was -/
def Throws (E : XK) (C : Addr) (v : V) (H : Hp) : Prop := ∀ (d : Addr) (H' : Hp), Same H H' → H d = none → H' d = some (.xd [("value", v)]) → E (.ref C) (some d) H'
theorem throw_read {K : PySem.W.Frag} {C : Addr} {H1 : Hp} {v : V} {Q : XK} (T : OexC K C) (noV : PySem.W.findIn K (.ref C) "value" = some none) (h : Throws Q C v H1) :
    ∀ a, H1 a = none → spInit K [.ref a, v] (upd H1 a (exo a C none)) (fun v H2 => v = .non ∧ ∃ (d : Addr) (fs : List (Str × V)), H2 a = some (exo a C (some d)) ∧ H2 d = some (exd d fs) ∧ H1 d = none ∧ Q (.ref C) (some d) (upd (del H2 a) d (.xd fs))) (fun _ _ _ => False) := fun a ha =>
  ⟨a, C, v, rfl, T, noV, upd_same, fun d hd ne => by
    have hd1 : H1 d = none := by
      rw [upd_ne ne] at hd
      exact hd
    refine ⟨rfl, d, _, upd_same, by rw [upd_ne ne, upd_same], hd1, h d _ (fun b o q => ?_) hd1 upd_same⟩
    have nb : b ≠ a := ne_of_none q ha
    have nd : b ≠ d := ne_of_none q hd1
    rw [upd_ne nd, del_ne nb, upd_ne nb, upd_ne nd, upd_ne nb]
    exact q⟩
end DQ

set_option Elab.async false
set_option linter.all false
set_option maxRecDepth 100000
set_option maxHeartbeats 400000
namespace DQ
open PySem PySem.Spec PyProof.Rows L2
abbrev sCheck : Stmt := topS 29
theorem scCheck : FnScope ["store"] ["store"] (defScope sCheck) := ⟨rfl, rfl, rfl, by decide +kernel, rfl, by decide +kernel, by decide +kernel⟩
theorem flat_intsV (ns : List Int) : (ns.map V.int).all flatV = true := List.all_eq_true.mpr fun v hv => by
  obtain ⟨x, _, rfl⟩ := List.mem_map.mp hv
  rfl
theorem inV_int (i : Int) : ∀ ns : List Int, inV (.int i) (ns.map V.int) = decide (i ∈ ns)
  | [] => rfl
  | x :: r => by
    have ih := inV_int i r
    show ((x == i) || inV (.int i) (r.map V.int)) = _
    rw [ih]
    by_cases h : x = i
    · rw [h]; simp
    · rw [beq_eq_false_iff_ne.mpr h, Bool.false_or]
      exact decide_eq_decide.mpr ⟨fun z => List.mem_cons_of_mem _ z, fun z => by
        rcases List.mem_cons.mp z with z | z
        · exact absurd z.symm h
        · exact z⟩
theorem isStore_mono {K : PySem.W.Frag} {vs : List V} {H : Hp} {Q Q2 : VK} {E E2 : XK} (h : spIsStore K vs H Q E) (m : ∀ x H1, Q x H1 → Q2 x H1) : spIsStore K vs H Q2 E2 := by
  obtain ⟨v, e, h⟩ := h
  refine ⟨v, e, ?_⟩
  rcases h with ⟨d, hd, n5, q⟩ | ⟨t, s, m', c, i, f, ds, dm, dc, di, df, e1, e2, e3, e4, e5, e6, e7, e8, e9, e10, e11, e12, e13, q⟩
  · exact .inl ⟨d, hd, n5, fun H' s => m _ _ (q H' s)⟩
  · exact .inr ⟨t, s, m', c, i, f, ds, dm, dc, di, df, e1, e2, e3, e4, e5, e6, e7, e8, e9, e10, e11, e12, e13, fun H' s => m _ _ (q H' s)⟩
section
variable {P : Program} {w : World} {K : PySem.W.Frag} {mg : Str → Option Value} {base : Heap}
def spCheck (K : PySem.W.Frag) (C : Addr) : Sp := fun vs H Q E => ∃ (v : V) (b : Bool), vs = [v] ∧ spIsStore K [v] H (fun x H1 => x = .bl b ∧ (b = true → Q .non H1) ∧ (b = false → Throws E C v H1)) (fun _ _ _ => False)
theorem ok_check {f fs C : Addr} {fd fds : FuncData} (F : Fun K "check_store" "check_store" sCheck f fd) (GS : FnOk P w K mg base CX0 6 fs fds ["value"] (spIsStore K)) (bS : Binds K fds ["value"] []) (kS : PySem.W.keepIn K (.ref fs) = true) (mS : mg "is_store" = some (.ref fs))
    (U : ErrUse P w K mg base "InvalidStore" C) : FnOk P w K mg base (L2.CX P w) 7 f fd ["store"] (spCheck K C) := by
  obtain ⟨fI, fdI, ds, iC, tI, oI, bI, _, _, _⟩ := U.ok
  refine F.okX scCheck (fun vs H Q E h => ?_) (fun cdv A outer s H vs Q E hr h => ?_)
  · obtain ⟨_, _, rfl, _⟩ := h
    rfl
  obtain ⟨v, b, rfl, h⟩ := h
  refine ⟨_, pss_one (ps_if (pt_not (pt_val (pe_call GS (hr.mono (by decide)) rfl mS kS bS .nil pass0 (pa_cons (pv 0) pa_nil)))) (pss_one (ps_raise rfl (takes_of rfl rfl rfl rfl) (pmk_oex U.T iC tI oI (hr.mono (by decide)) bI .nil pass0 (by rfl) U.g (pa_cons (pv 0) pa_nil)))) pss_nil), ?_⟩
  obtain ⟨_, e, h⟩ := h
  cases e
  refine ⟨_, rfl, v, rfl, ?_⟩
  rcases h with ⟨d, hd, n5, q⟩ | ⟨t, s, m', c, i, f, ds, dm, dc, di, df, e1, e2, e3, e4, e5, e6, e7, e8, e9, e10, e11, e12, e13, q⟩
  · refine .inl ⟨d, hd, n5, fun H1 sm => ?_⟩
    obtain ⟨e, h1, h2⟩ := q H1 sm
    injection e with e
    exact ⟨_, rfl, _, rfl, (show 1 ≤ 1000 by decide), throw_read U.T U.noV (h2 e.symm)⟩
  · refine .inr ⟨t, s, m', c, i, f, ds, dm, dc, di, df, e1, e2, e3, e4, e5, e6, e7, e8, e9, e10, e11, e12, e13, fun H1 sm => ?_⟩
    obtain ⟨e, h1, h2⟩ := q H1 sm
    injection e with e
    rw [e]
    refine ⟨b, rfl, ite2 (fun c => ?_) fun c => ?_⟩
    · have c : b = false := by simpa using c
      exact ⟨_, rfl, (show 1 ≤ 1000 by decide), throw_read U.T U.noV (h2 c)⟩
    · have c : b = true := by simpa using c
      exact h1 c
end
end DQ

set_option Elab.async false
set_option linter.all false
set_option maxRecDepth 100000
set_option maxHeartbeats 2000000
namespace DQ
open PySem PySem.Spec PyProof.Rows L2
/-! ### the end of a law whose def was shown for calls around which no guard is -/
section
variable {P : Program} {w : World} {K : PySem.W.Frag} {mg nb : Str → Option Value} {j : Nat} {law scr : Addr} {code : FuncData} {par : Str} {asks : Sp} {t : Shared} {its : List Value} {nums : List Int}
/-- the script may be the only thing that is tracked -/
structure Bare (K : PySem.W.Frag) (scr : Addr) (H : Hp) : Prop where
  only : Only H
  self : ∀ b, H b ≠ none → b = scr
  out : H scr ≠ none → K.lookup scr = none
theorem bare_none {H : Hp} (X : Bare K scr H) {b : Addr} {o : Obj} {es : Array DictEntry} {n : Nat} (hs : t.heap.get? scr = some { cls := .type "list", data := .seq its.toArray }) (e : t.heap.get? b = some o) (d : o.data = .dict es n) : H b = none := Classical.byContradiction fun z => by
  have q := X.self b z
  rw [q, hs] at e
  cases e
  exact nomatch d
theorem ends_with (H : Hp) (X : Bare K scr H) (inK : K.In t.heap) (names : t.heap.Ns mainGlobals mg) (bns : t.heap.Ns builtinsNs nb) (boot : ∀ y : Str, y ≠ "__name__" → nb y = bootBuiltins y) (free : t.heap.NoLimit) (noGen : t.gens = #[])
    (hs : t.heap.get? scr = some { cls := .type "list", data := .seq its.toArray }) (room : Room j callerA) (F : ∀ base : Heap, K.In base → base.Ns mainGlobals mg → FnG P w K mg base CX0 j law code [par] asks) (bind : ∀ (s : Shared) (u : Value), BindsTo s code ⟨[u], []⟩ [(par, u)])
    (ok : HOk P w H t.heap) (ask : asks [.ref scr] H (fun v _ => v = .bl true) fun _ _ _ => False) :
    codeAny (model P w) callerA (.call (.ref law) ⟨[.ref scr], []⟩) (fun r u => r = .ok (.ret (.bool true)) ∧ OldK t.heap u.heap ∧ u.os = t.os ∧ AllBare u.gens) t := by
  have kept : ∀ {b : Addr} {m : Str → Option Value}, t.heap.Ns b m → (hidT t.heap H).Ns b m := fun {b m} z => by
    obtain ⟨o, es, n, e, d, r⟩ := z
    exact ⟨o, es, n, hidT_get e (bare_none X hs e d), d, r⟩
  have inK' : K.In (hidT t.heap H) := fun b o e => by
    refine hidT_get (inK b o e) (Classical.byContradiction fun z => ?_)
    have q := X.self b z
    rw [q] at e z
    rw [X.out z] at e
    exact nomatch e
  have mod : Mod K mg (hidT t.heap H) := by
    obtain ⟨mc, l1, l2⟩ := free
    exact ⟨inK', kept names, ⟨nb, kept bns, boot⟩, ⟨mc, kept l1, l2⟩⟩
  have start : Env0 P w K mg (hidT t.heap H) callerA [] t H := ⟨rfl, mod, fun b o => of_hidT, Nat.le_of_eq (hidT_size _ _), trivial, fun b z => absurd (show b ∈ ([] : List Addr) from z) List.not_mem_nil, ok, .of_eq noGen⟩
  have run := (F _ inK' (kept names)).run callerA [] t H ⟨[.ref scr], []⟩ [.ref scr] [.ref scr] _ _ room rfl start (bind t (.ref scr)) (.cons rfl .nil) ask
  refine codeAny_mono run fun r u z => ?_
  match r, z with
  | .error _, z => exact False.elim z
  | .ok .next, z => exact False.elim z
  | .ok .brk, z => exact False.elim z
  | .ok .cont, z => exact False.elim z
  | .ok (.ret y), z =>
    obtain ⟨v, H', os, bare, un, ok', rv, q⟩ := z
    have q : v = .bl true := q
    rw [q] at rv
    obtain rfl : y = Value.bool true := rv
    refine ⟨rfl, OldK.of_keep fun b o e => ?_, os, bare⟩
    cases z : H b with
    | none => exact un.keep b o e z (fun m => absurd (show b ∈ ([] : List Addr) from m) List.not_mem_nil) List.not_mem_nil
    | some f =>
      rcases X.only b with n | ⟨ob, xs, n⟩
      · rw [n] at z
        cases z
      · obtain ⟨e1, _⟩ := ok b _ n
        obtain ⟨e2, _⟩ := ok' b _ (un.frzs b ob _ n)
        rw [e] at e1
        cases e1
        exact e2
theorem ends_of (inK : K.In t.heap) (names : t.heap.Ns mainGlobals mg) (bns : t.heap.Ns builtinsNs nb) (boot : ∀ y : Str, y ≠ "__name__" → nb y = bootBuiltins y) (free : t.heap.NoLimit) (noGen : t.gens = #[])
    (hs : t.heap.get? scr = some { cls := .type "list", data := .seq its.toArray }) (hi : IntsAre its nums) (len : nums.length ≤ sizeLine) (room : Room j callerA) (F : ∀ base : Heap, K.In base → base.Ns mainGlobals mg → FnG P w K mg base CX0 j law code [par] asks)
    (bind : ∀ (s : Shared) (u : Value), BindsTo s code ⟨[u], []⟩ [(par, u)]) (ask : ∀ H : Hp, Only H → SqL K H scr (nums.map V.int) → asks [.ref scr] H (fun v _ => v = .bl true) fun _ _ _ => False) :
    codeAny (model P w) callerA (.call (.ref law) ⟨[.ref scr], []⟩) (fun r u => r = .ok (.ret (.bool true)) ∧ OldK t.heap u.heap ∧ u.os = t.os ∧ AllBare u.gens) t := by
  have rel := vals_ints hi
  have sz := hi.length
  by_cases own : K.lookup scr = none
  · let H : Hp := fun b => if b = scr then some (.frz { cls := .type "list", data := .seq its.toArray } (.lst (nums.map V.int))) else none
    have at0 : H scr = some (.frz { cls := .type "list", data := .seq its.toArray } (.lst (nums.map V.int))) := if_pos rfl
    have off : ∀ b, b ≠ scr → H b = none := fun b n => if_neg n
    have X : Bare K scr H := ⟨fun b => by
      by_cases e : b = scr
      · exact .inr ⟨_, _, by rw [e]; exact at0⟩
      · exact .inl (off b e), fun b n => Classical.byContradiction fun e => n (off b e), fun _ => own⟩
    refine ends_with H X inK names bns boot free noGen hs room F bind (fun b u z => ?_) (ask H X.only (.inl (.inr ⟨_, at0⟩)))
    by_cases e : b = scr
    · rw [e, at0] at z
      cases z
      rw [e]
      exact ⟨hs, by rw [List.length_map]; exact len, its, _, rel, hs⟩
    · rw [off b e] at z
      cases z
  · obtain ⟨o, ho⟩ : ∃ o, K.lookup scr = some o := by
      cases e : K.lookup scr with
      | none => exact absurd e own
      | some o => exact ⟨o, rfl⟩
    have e := inK scr o ho
    rw [hs] at e
    cases e
    have X : Bare K scr (fun _ => none) := ⟨fun _ => .inl rfl, fun b n => absurd rfl n, fun n => absurd rfl n⟩
    exact ends_with _ X inK names bns boot free noGen hs room F bind (fun b u z => nomatch z) (ask _ X.only (.inr ⟨_, its.toArray, _, ho, rfl, rfl, rfl, by rw [List.size_toArray, sz]; exact len, by simpa using rel⟩))
end
theorem walkG {l : PySem.W.OpenLaw} {n j : Nat} {q : Program} {loose : List Str} {XP : (Str → Option Value) → Heap → Prop} {YP : World → Heap → Prop} {d : DefRec} {K : Params → PySem.W.Frag} {asks : PySem.W.Frag → Sp} {par : Str}
    (hn : l.most = some n) (small : n ≤ sizeLine) (hdf : d.params.defaults = []) (room : Room j callerA) (inK : ∀ (w : World) (h : Heap), YP w h → (K w.params).In h)
    (F : ∀ (w : World) (mg : Str → Option Value) (law : Addr) (h : Heap), (K w.params).In h → h.Ns mainGlobals mg → mg d.name = some (.ref law) →
      ∃ code : FuncData, (∀ (s : Shared) (u : Value), BindsTo s code ⟨[u], []⟩ [(par, u)]) ∧ ∀ base : Heap, (K w.params).In base → base.Ns mainGlobals mg → FnG l.prog w (K w.params) mg base CX0 j law code [par] (asks (K w.params)))
    (ask : ∀ (K : PySem.W.Frag) (H : Hp) (scr : Addr) (nums : List Int), nums.length ≤ n → Only H → SqL K H scr (nums.map V.int) → asks K [.ref scr] H (fun v _ => v = .bl true) fun _ _ _ => False) :
    PySem.W.WalkO q loose XP YP l.row.toRowW d [] (fun f vs => PySem.call f vs) := by
  refine Att.attach_call hn hdf fun w s₀ t mg nb law o pm cd doc scr its nums G Y ho hd hcd hmg hs hints len noGen => ?_
  obtain ⟨code, bind, hF⟩ := F w mg law _ (inK w _ Y) G.T.g hmg
  exact ends_of (inK w _ Y) G.T.g G.T.b G.T.builtins G.T.nolimit noGen hs hints (Nat.le_trans len small) room hF bind fun H => ask _ H scr nums len
end DQ

set_option Elab.async false
set_option linter.all false
set_option maxRecDepth 100000
set_option maxHeartbeats 2000000
namespace DQ
open PySem PySem.Spec PyProof.Rows L2
/-! ### what the top has left: defs, constants -/
/-- a def of the top, by its facts -/
structure DefAt (K : PySem.W.Frag) (mg : Str → Option Value) (x : Str) (st : Stmt) (f : Addr) (fd : FuncData) : Prop where
  g : mg x = some (.ref f)
  F : Fun K x x st f fd
theorem def_mk {K : PySem.W.Frag} {h : Heap} {mg : Str → Option Value} {x : Str} {st : Stmt} {f : Addr} {oc kV doc pm cdv ct : Value} {od an : Option Addr} {osl : Array (Option Value)} (X : K.In h) (G : h.Ns mainGlobals mg) (a : PySem.W.nsIn K mainGlobals x = some (some (.ref f)))
    (l : K.lookup f = some ⟨oc, od, .func (PySem.W.fnOf x x (defArgs st) (defBody st) (defScope st) .none kV doc pm an cdv ct), osl⟩) (c : PySem.W.codeIn K cdv x = true) (k : PySem.W.keepIn K (.ref f) = true) : ∃ fd, DefAt K mg x st f fd :=
  ⟨_, PySem.W.mg_of X G a, fun_mk (st := st) l c k⟩
section
variable {K : PySem.W.Frag} {h : Heap} {mg : Str → Option Value}
theorem str_mk {x z v : Str} {t : Tok} (X : K.In h) (G : h.Ns mainGlobals mg) (a : PySem.W.nsIn K mainGlobals x = some (some (.str v t))) (e : v = z) : ∃ t, mg x = some (.str z t) := ⟨t, by rw [← e]; exact PySem.W.mg_of X G a⟩
theorem int_mk {x : Str} {z v : Int} {t : Tok} (X : K.In h) (G : h.Ns mainGlobals mg) (a : PySem.W.nsIn K mainGlobals x = some (some (.int v t))) (e : v = z) : ∃ t, mg x = some (.int z t) := ⟨t, by rw [← e]; exact PySem.W.mg_of X G a⟩
theorem rel_abs {u : Value} {x : V} (h : absV u = some x) : RelV x u := by
  cases u with
  | none => cases h; rfl
  | bool b => cases h; rfl
  | int i t => cases h; exact ⟨t, rfl⟩
  | str s t => cases h; exact ⟨t, rfl⟩
  | ref a => cases h; rfl
  | _ => first | cases h; rfl | (cases h; exact ⟨_, rfl⟩) | exact nomatch h
theorem vals_abs : ∀ {us : List Value} {xs : List V}, us.map absV = xs.map some → Vals xs us
  | [], [], _ => .nil
  | [], _ :: _, h => nomatch h
  | _ :: _, [], h => nomatch h
  | u :: us, x :: xs, h => by
    rw [List.map_cons, List.map_cons] at h
    injection h with h1 h2
    exact .cons (rel_abs h1) (vals_abs h2)
theorem tup_mk {x : Str} {r : Addr} {o : Obj} {its : Array Value} {n : Nat} {xs : List V} (X : K.In h) (G : h.Ns mainGlobals mg) (a : PySem.W.nsIn K mainGlobals x = some (some (.ref r))) (l : K.lookup r = some o) (c : o.cls = .type "tuple") (d : o.data = .seq its n) (z : its.size ≤ 1000) (e : its.toList.map absV = xs.map some) :
    ∃ r, mg x = some (.ref r) ∧ ∀ H, SqT K H r xs := ⟨r, PySem.W.mg_of X G a, fun H => .inr ⟨o, its, n, l, c, d, Nat.le_trans z (by decide), vals_abs e⟩⟩
end
end DQ

set_option Elab.async false
set_option linter.all false
set_option maxRecDepth 100000
set_option maxHeartbeats 2000000
namespace DQ
open PySem PySem.Spec PyProof.Rows L2
/-! ### what the top has left: classes of errors -/
section
variable {K : PySem.W.Frag} {h : Heap} {mg : Str → Option Value}
theorem cls_mk {C N : Addr} {nm q : Str} {bs bm : List Value} {sn : List Str} {sub : List Value} {ab : Bool} {col : Option Bool} {dd : Option Addr} {m0 m1 m2 m3 m5 : Option Value}
    (xL : K.lookup C = some (excClassObj nm q C N bs bm true sn sub ab col dd m0 m1 m2 m3 m5 "ValueError.__new__")) (rv : PySem.HandSPX.refsVE bm = true) (sa : PySem.W.findIn K (.ref C) "__setattr__" = some (some (.builtin "object.__setattr__")))
    (eC : PySem.W.subIn K (.ref C) (.type "BaseException") = some true) (tC : PySem.W.typeIn K (.ref C) = some (.type "type")) (kC : PySem.W.keepIn K (.ref C) = true)
    (ga : PySem.W.findIn K (.ref C) "__getattribute__" = some (some (.builtin "BaseException.__getattribute__"))) (gg : PySem.W.findIn K (.ref C) "__getattr__" = some none)
    (ca : PySem.W.findIn K (.ref C) "__class__" = some (some (.builtin "object.__class__"))) (cg : PySem.W.specialIn K (.builtin "object.__class__") "__get__" = some (some (.builtin "getset_descriptor.__get__"))) (ct : PySem.W.takesIn K (.builtin "object.__class__") = some true)
    (mo : PySem.W.mroIn K C (.type "object") = some true) : OexC K C ∧ ErrC K C :=
  ⟨⟨⟨nm, q, N, bs, bm, sn, sub, ab, col, dd, m0, m1, m2, m3, m5, xL, rv⟩, sa, eC, tC, kC⟩, ⟨by unfold PySem.W.clsIn; rw [xL]; rfl, ga, gg, eC, ca, cg, ct, mo⟩⟩
theorem err_mk {name qual : Str} {st : Stmt} {C fI T : Addr} {oT : Obj} {n : Nat} {oc kV doc pm cdv ct' : Value} {od an : Option Addr} {osl : Array (Option Value)} (X : K.In h) (G : h.Ns mainGlobals mg) (a : PySem.W.nsIn K mainGlobals name = some (some (.ref C))) (c : OexC K C ∧ ErrC K C)
    (hd : PySem.W.hasDictIn K C = true) (nv : PySem.W.findIn K (.ref C) "value" = some none) (eq : PySem.W.findIn K (.ref C) "__eq__" = some (some (.builtin "object.__eq__")))
    (ic : PySem.W.findIn K (.ref C) "__init__" = some (some (.ref fI))) (ti : PySem.W.typeIn K (.ref fI) = some (.type "function"))
    (lf : K.lookup fI = some ⟨oc, od, .func (PySem.W.fnOf "__init__" qual (defArgs st) (defBody st) (defScope st) (.ref T) kV doc pm an cdv ct'), osl⟩) (cf : PySem.W.codeIn K cdv qual = true) (kf : PySem.W.keepIn K (.ref fI) = true)
    (lT : K.lookup T = some oT) (dT : oT.data = .seq #[.none] n) : ErrAt K mg name qual st C :=
  ⟨PySem.W.mg_of X G a, c.1, ⟨c.2.ga, c.2.gg, c.2.sub, hd⟩, nv, c.2, eq, fI, _, ic, ti, ⟨⟨oc, od, _, kV, doc, pm, an, cdv, ct', osl, rfl, lf, cf, .inr ⟨by simp, T, oT, [.none], n, rfl, lT, dT, .cons rfl .nil⟩, .inl rfl⟩, kf⟩⟩
end
end DQ

set_option Elab.async false
set_option linter.all false
set_option maxRecDepth 100000
set_option maxHeartbeats 2000000
namespace DQ
open PySem PySem.Spec PyProof.Rows L2
abbrev sLineOf : Stmt := topS 46
abbrev NLf : List Str := ["store", "table", "written", "line", "item", "start", "end"]
theorem scLineOf : FnScope NLf ["store"] (defScope sLineOf) := ⟨rfl, rfl, rfl, by decide +kernel, rfl, by decide +kernel, by decide +kernel⟩
/-- a piece's letters, its items in this order -/
def emitI (bits : Int → List Int) (s : Nat) : List Int → Line
  | [] => []
  | x :: r => ⟨s, bits x⟩ :: r.map fun y => ⟨0, bits y⟩
def rotI (p : Nat × List Int) : List Int := rotL p.1 (p.2.idxOf (minI p.2)) p.2
def outI (bits : Int → List Int) (Ls : List (Nat × List Int)) : Line := Ls.flatMap fun p => emitI bits p.1 (rotI p)
theorem emit_len (bits : Int → List Int) (s : Nat) (r : List Int) : (emitI bits s r).length = r.length := by
  cases r with
  | nil => rfl
  | cons x r => simp [emitI]
theorem emit_get {bits : Int → List Int} {s t : Nat} {r : List Int} {x : Int} (h : r[t]? = some x) : (emitI bits s r)[t]? = some ⟨if t = 0 then s else 0, bits x⟩ := by
  cases r with
  | nil => cases h
  | cons y r =>
    cases t with
    | zero => cases h; rfl
    | succ t =>
      have h : r[t]? = some x := by simpa using h
      show ((⟨s, bits y⟩ : Letter) :: r.map fun y => (⟨0, bits y⟩ : Letter))[t + 1]? = _
      rw [List.getElem?_cons_succ, List.getElem?_map, h]
      rfl
/-- letters, as they stand in a list -/
def LetV (H : Hp) (v : V) (a : Letter) : Prop := ∃ t b, v = .ref t ∧ H t = some (.tup [.int (a.s : Nat), .ref b]) ∧ H b = some (.tup (a.bits.map V.int))
abbrev Lets (H : Hp) (rs : List V) (l : Line) : Prop := Paired (LetV H) rs l
theorem Lets.keep {H H' : Hp} (k : TupKeep H H') {rs : List V} {l : Line} (h : Lets H rs l) : Lets H' rs l := paired_mono (fun v a ⟨t, b, e, h1, h2⟩ => ⟨t, b, e, k _ _ h1, k _ _ h2⟩) h
theorem tk_dk {H : Hp} {D : Addr} {kvs kvs' : List (Key × V)} (h : H D = some (.dK kvs)) : TupKeep H (upd H D (.dK kvs')) := fun a t e => by
  rw [upd_ne (fun z => by rw [z, h] at e; cases e)]
  exact e
/-- the items that are written -/
def wrK (done : List Int) : List (Key × V) := done.map fun x => ((Sum.inl x : Key), V.bl true)
theorem wr_val (y : Int) : ∀ done : List Int, (valV (wrK done) (.inl y)).isSome = decide (y ∈ done)
  | [] => rfl
  | x :: r => by
    have ih := wr_val y r
    unfold wrK at ih ⊢
    rw [List.map_cons]
    by_cases e : x = y
    · subst e
      simp [valV]
    · simp only [valV] at ih ⊢
      simpa [e, Ne.symm e] using ih
theorem wr_put {done : List Int} {y : Int} (h : y ∉ done) : putK (wrK done) (.inl y) (.bl true) = wrK (done ++ [y]) := by
  rw [putK_new]
  · unfold wrK
    rw [List.map_append]
    rfl
  · have := wr_val y done
    rw [decide_eq_false h] at this
    cases q : valV (wrK done) (.inl y) with
    | none => rfl
    | some v => rw [q] at this; cases this
/-- the order in which a piece is written: where it begins, and on -/
theorem rot_head {p : Nat × List Int} {x : Int} (ne : p.2 ≠ []) (e : x = minI p.2) : p.2[p.2.idxOf (minI p.2)]? = some x ∧ (rotI p)[0]? = some (if p.1 = 2 then x else p.2.headD 0) ∧ p.2.idxOf (minI p.2) < p.2.length := by
  have hi := List.idxOf_lt_length_of_mem (min_mem ne)
  have hx : p.2[p.2.idxOf (minI p.2)]? = some x := by
    rw [List.getElem?_eq_getElem hi, List.getElem_idxOf hi, e]
  refine ⟨hx, ?_, hi⟩
  unfold rotI rotL
  split
  · rw [rot_get hi (by omega), if_pos (by omega)]
    exact hx
  · cases q : p.2 with
    | nil => exact absurd q ne
    | cons y r => rfl
section
variable {P : Program} {w : World} {K : PySem.W.Frag} {mg : Str → Option Value} {base : Heap}
def spLineOf (K : PySem.W.Frag) : Sp := fun vs H Q _ => ∃ (v : V) (S : Store) (m : Nat) (Ls : List (Nat × List Int)), vs = [v] ∧ m ≤ 2000 ∧ Drawn m S ∧ StoAt H v S ∧ S.marks.length ≤ 2 ∧ S.columns = [("next" : Str)] ∧ Plan S.items (fwdOf S.facts "next") (bwdOf S.facts "next") Ls ∧ (∀ p ∈ Ls, p.1 = 1 ∨ p.1 = 2) ∧
  ∀ (p : Addr) (rs : List V) (H' : Hp), Same H H' → H' p = some (.lst rs) → Lets H' rs (outI (bitsOf S.marks S.facts) Ls) → Q (.ref p) H'
theorem ok_lineOf {f fC fT fF C0 CU : Addr} {fd dC dT dF : FuncData} {t1 t2 t3 : Tok} (F : Fun K "line_of" "line_of" sLineOf f fd)
    (GC : FnOk P w K mg base (L2.CX P w) 7 fC dC ["store"] (spCheck K C0)) (bC : Binds K dC ["store"] []) (kC : PySem.W.keepIn K (.ref fC) = true) (mC : mg "check_store" = some (.ref fC))
    (GT : FnOk P w K mg base CX0 1 fT dT ["store"] spTable) (bT : Binds K dT ["store"] []) (kT : PySem.W.keepIn K (.ref fT) = true) (mT : mg "table_of" = some (.ref fT))
    (GF : FnOk P w K mg base CX0 1 fF dF ["table", "item"] spFirst) (bF : Binds K dF ["table", "item"] []) (kF : PySem.W.keepIn K (.ref fF) = true) (mF : mg "first_of_piece" = some (.ref fF))
    (U : ErrUse P w K mg base "Unlike" CU) (mLen : mg "len" = none) (mN : mg "NOWHERE" = some (.int (-1) t1)) (mG : mg "GOES_ON" = some (.int 0 t2)) (mM : mg "MOST_LINE_MARKS" = some (.int 2 t3)) : FnOk P w K mg base (L2.CX P w) 8 f fd ["store"] (spLineOf K) := by
  obtain ⟨fI, fdI, ds, iC, tI, oI, bI, _, _, _⟩ := U.ok
  refine F.okX scLineOf (fun vs H Q E h => ?_) (fun cdv A outer s0 H vs Q E hr h => ?_)
  · obtain ⟨_, _, _, _, rfl, _⟩ := h
    rfl
  obtain ⟨v, S, m, Ls, rfl, hm, D, A0, m2, c1, PL, sOk, qq⟩ := h
  have nd := scLineOf.nd
  have hu := room1 hr
  refine ⟨_, pss_cons (ps_expr (pe_callS GC hr rfl mC kC bC (fun σ => passAt (takes_of rfl rfl rfl rfl) σ) (pa_cons (pv 0) pa_nil)))
    (pss_cons (ps_if (PW.pt (pw_or (pt_cmpR op_gt (pe_callB call_len_seq (by rfl) mLen PySem.boot_len (pa_cons (pe_ix (r := rIxT K) ix_tup (pv 0) pe_int (fun _ _ => rfl)) pa_nil)) (pe_glob (v := .int 2) (by rfl) mM ⟨_, rfl⟩) (nomark _))
        (pw_or1 (pt_cmpR op_ne (pe_callB call_len_seq (by rfl) mLen PySem.boot_len (pa_cons (pe_ix (r := rIxT K) ix_tup (pv 0) pe_int (fun _ _ => rfl)) pa_nil)) pe_int (nomark _))))) (pss_one (ps_raise rfl (takes_of rfl rfl rfl rfl) (pmk_oex U.T iC tI oI (hr.mono (by decide)) bI .nil pass0 (by rfl) U.g (pa_cons (pv 0) pa_nil)))) pss_nil)
    (pss_cons (ps_set (i := 1) nd rfl (.inl rfl) (pe_call GT (hr.mono (by decide)) rfl mT kT bT .nil pass0 (pa_cons (pv 0) pa_nil)))
    (pss_cons (ps_set (i := 2) nd rfl (.inl rfl) pe_dnewK)
    (pss_cons (ps_set (i := 3) nd rfl (.inl rfl) (pe_lst pa_nil))
    (pss_cons (ps_for (passes_of rfl) rfl (pi_list (pe_ix (r := rIxT K) ix_tup (pv 0) pe_int (fun _ _ => rfl))) (pg_name (i := 4) nd rfl (.inl rfl))
      (pss_one (ps_if (pt_cmp (pc_dnotin hu (pv 4) (pv 2)) (by rfl))
        (pss_cons (ps_asg (pe_call GF (hr.mono (by decide)) rfl mF kF bF .nil pass0 (pa_cons (pv 1) (pa_cons (pv 4) pa_nil))) (pg_tup rfl (pgs_cons (pg_name (i := 5) nd rfl (.inl rfl)) (pgs_cons (pg_name (i := 6) nd rfl (.inl rfl)) pgs_nil))))
        (pss_one (ps_while (passes_of rfl) (PW.pt (pw_and (pt_cmpR op_ne (pv 6) (pe_glob (v := .int (-1)) (by rfl) mN ⟨_, rfl⟩) (nomark _)) (pw_and1 (pt_cmp (pc_dnotin hu (pv 6) (pv 2)) (by rfl)))))
          (pss_cons (ps_dput hu (pv 2) (pv 6) pe_bl (by rfl))
          (pss_cons (ps_expr (pe_bm PySem.F.plainAttrs_list PySem.F.slot_list_append PySem.F.type_list_append mt_append (pv 3) (pa_cons (pe_tup (pa_cons (pv 5) (pa_cons (pe_ix (r := rIxT K) ix_tup (pe_dget hu (pv 1) (pv 6) (fun _ _ => rfl)) pe_int (fun _ _ => rfl)) pa_nil))) pa_nil)))
          (pss_one (ps_par (i := 5) (j := 6) rfl nd rfl rfl (by decide) rfl rfl (pa_cons (pe_glob (v := .int 0) (by rfl) mG ⟨_, rfl⟩) (pa_cons (pe_ix (r := rIxT K) ix_tup (pe_dget hu (pv 1) (pv 6) (fun _ _ => rfl)) pe_int (fun _ _ => rfl)) pa_nil)) (by rfl)))))))) pss_nil)))
    (pss_one (ps_ret (pv 3)))))))), ?_⟩
  refine ⟨_, rfl, v, true, rfl, store_asks hm D A0 fun H1 s1 => ⟨rfl, fun _ => ?_, (fun e => nomatch e)⟩⟩
  obtain ⟨t, ma, ca, ia, fa, rs0, rfl, ht, hma, hca, hia, hfa, tp⟩ := id (stoAt_same s1 A0)
  have A1 := stoAt_same s1 A0
  refine ⟨_, rfl, t, _, 1, .ref ma, rfl, rfl, .inl (.inl ht), atI_nat (j := 1) rfl, ma, _, rfl, .inl (SqL.of hma), _, _, rfl, rfl, false, ?_, iteF' rfl ?_⟩
  · rw [List.length_map]
    exact congrArg V.bl (decide_eq_false (by omega))
  refine ⟨_, rfl, t, _, 2, .ref ca, rfl, rfl, .inl (.inl ht), atI_nat (j := 2) rfl, ca, _, rfl, .inl (SqL.of hca), rfl, false, ?_, iteF' rfl ?_⟩
  · rw [c1]
    rfl
  refine ⟨_, rfl, .ref t, S, m, rfl, hm, D, A1, fun d H2 kvs0 ft fb s2 nd2 e2 tb => ?_⟩
  have tab2 : TabD H2 d (tabOf S) := ⟨_, _, _, e2, tb⟩
  refine fun wD nwD => ?_
  have g3 := same_new nwD (o := .dK [])
  have f3 : L2.upd H2 wD (.dK []) wD = some (.dK []) := upd_same
  refine ⟨by decide, fun pL npL => ?_⟩
  have npL2 : H2 pL = none := by
    cases z : H2 pL with
    | none => rfl
    | some o => rw [g3 _ _ z] at npL; cases npL
  have ne34 : wD ≠ pL := fun e => by rw [← e, f3] at npL; cases npL
  have g4 := same_new npL (o := .lst [])
  have f4 : L2.upd (L2.upd H2 wD (.dK [])) pL (.lst []) pL = some (.lst []) := upd_same
  have f34 := g4 _ _ f3
  have g24 := g3.trans g4
  generalize L2.upd (L2.upd H2 wD (.dK [])) pL (.lst []) = H4 at f4 f34 g24 ⊢
  have few := D.few
  have hiaW : ∀ {J : Hp}, Same H2 J → SqL K J ia (S.items.map V.int) := fun s => SqL.of (s _ _ (s2 _ _ hia))
  refine ⟨_, rfl, t, _, 3, .ref ia, rfl, rfl, .inl (.inl (g24 _ _ (s2 _ _ ht))), atI_nat (j := 3) rfl, ia, rfl, ⟨_, hiaW g24⟩, for_list (K := K) (a := ia) (xs := S.items.map V.int) (fun k σ J => ∃ j y4 y5 y6 rs, σ = [some (.ref t), some (.ref d), some (.ref wD), some (.ref pL), y4, y5, y6] ∧ Same H2 J ∧ J wD = some (.dK (wrK ((Ls.take j).flatMap rotI))) ∧ J pL = some (.lst rs) ∧ Lets J rs (outI (bitsOf S.marks S.facts) (Ls.take j)) ∧ Met S.items Ls j k)
    ⟨0, none, none, none, [], rfl, g24, f34, f4, .nil, met_zero PL⟩ (fun k σ J _ hP => ?_) (fun k x σ J hx hP => ?_) fun σ J hP => ?_⟩
  · obtain ⟨_, _, _, _, _, _, sJ, _⟩ := hP
    exact hiaW sJ
  · obtain ⟨j, y4, y5, y6, rs, rfl, sJ, eW, eL, lets, M⟩ := hP
    obtain ⟨xi, hxi, rfl⟩ := at_map hx
    have memR : ∀ {x : Int}, x ∈ (Ls.take j).flatMap rotI ↔ x ∈ (Ls.take j).flatMap (·.2) := fun {x} => by
      rw [List.mem_flatMap, List.mem_flatMap]
      exact ⟨fun ⟨p, h1, h2⟩ => ⟨p, h1, (rotL_perm _ _ _).mem_iff.mp h2⟩, fun ⟨p, h1, h2⟩ => ⟨p, h1, (rotL_perm _ _ _).mem_iff.mpr h2⟩⟩
    refine ⟨_, rfl, _, rfl, wD, _, rfl, .inl ⟨_, .inl xi, .inl eW, rfl, rfl⟩, _, rfl, ?_⟩
    rw [wr_val]
    by_cases c : xi ∈ (Ls.take j).flatMap rotI
    · rw [decide_eq_true c]
      exact iteF' rfl ⟨j, _, _, _, rs, rfl, sJ, eW, eL, lets, met_skip PL M hxi (memR.mp c)⟩
    · rw [decide_eq_false c]
      refine iteT' rfl ?_
      obtain ⟨p, hp, ex, M'⟩ := met_next PL M hxi (fun h => c (memR.mpr h))
      have pm := List.mem_of_getElem? hp
      have C := PL.chain p pm
      obtain ⟨hi, hr0, li⟩ := rot_head C.ne ex
      have inI : ∀ y ∈ p.2, y ∈ S.items := fun y hy => PL.inI pm hy
      have nneg : ∀ y ∈ p.2, y ≠ -1 := fun y hy e => by have := D.items.2 y (inI y hy); omega
      have ndq : p.2.Nodup := (List.pairwise_flatMap.mp PL.nd).1 p pm
      have en : ∀ y, (tabOf S).ends y = [fwdOf S.facts "next" y, bwdOf S.facts "next" y] := fun y => by
        show endsOf S.columns S.facts y = _
        rw [c1]
        rfl
      refine ⟨_, rfl, _, rfl, d, tabOf S, _, _, p.1, _, p.2, xi, rfl, tab2.same sJ, fun y hy => ⟨inI y hy, en y, nneg y hy⟩, C, ndq, hi, fun pt J1 sJ1 ept => ?_⟩
      refine ⟨pt, _, rfl, .inl (.inl ept), rfl, _, _, rfl, _, _, rfl, rfl, ?_⟩
      have es : (if p.1 = 2 then (2 : Int) else 1) = ((p.1 : Nat) : Int) := by
        rcases sOk p pm with e | e <;> rw [e] <;> rfl
      rw [es]
      have eW1 := sJ1 _ _ eW
      have eL1 := sJ1 _ _ eL
      have lets1 := lets.keep (tk_same sJ1)
      have sJ21 := sJ.trans sJ1
      generalize hr' : rotI p = r at hr0
      have lr : r.length = p.2.length := by rw [← hr']; exact (rotL_perm _ _ _).length_eq
      have mr : ∀ y, y ∈ r ↔ y ∈ p.2 := fun y => by rw [← hr']; exact (rotL_perm _ _ _).mem_iff
      have ndr : r.Nodup := by rw [← hr']; exact (rotL_perm _ _ _).nodup_iff.mpr ndq
      generalize hd0 : (Ls.take j).flatMap rotI = done at eW1 c memR
      have dis : ∀ y ∈ r, y ∉ done := fun y hy hd => by
        obtain ⟨z, hz, hyz⟩ := List.mem_flatMap.mp (memR.mp hd)
        obtain ⟨n, hn, e⟩ := List.mem_iff_getElem.mp hz
        rw [List.length_take] at hn
        have hn2 : Ls[n]? = some z := by rw [List.getElem?_eq_getElem (by omega), ← e, List.getElem_take]
        have := flat_nd PL.nd hn2 hp hyz ((mr y).mp hy)
        omega
      have lsum : done.length + r.length ≤ 2000 := by
        have l1 : ((Ls.take (j + 1)).flatMap rotI).length ≤ S.items.length := by
          have q1 : ((Ls.take (j + 1)).flatMap (·.2)).length ≤ (Ls.flatMap (·.2)).length := by
            have z : (((Ls.take (j + 1)) ++ (Ls.drop (j + 1))).flatMap (·.2)).length = (Ls.flatMap (·.2)).length := by rw [List.take_append_drop]
            rw [List.flatMap_append, List.length_append] at z
            omega
          rw [PL.perm.length_eq] at q1
          have q2 : ∀ l : List (Nat × List Int), (l.flatMap rotI).length = (l.flatMap (·.2)).length := fun l => by
            induction l with
            | nil => rfl
            | cons z l ih =>
              rw [List.flatMap_cons, List.flatMap_cons, List.length_append, List.length_append, ih]
              rw [show (rotI z).length = z.2.length from (rotL_perm _ _ _).length_eq]
          rw [q2]
          exact q1
        rw [take_next hp, List.flatMap_append, List.length_append, hd0] at l1
        have : ([p].flatMap rotI).length = r.length := by simp [hr']
        omega
      refine while_by (fun σ' J' => ∃ (tt : Nat) (st e : Int) (rs' : List V), σ' = [some (.ref t), some (.ref d), some (.ref wD), some (.ref pL), some (.int xi), some (.int st), some (.int e)] ∧ tt ≤ r.length ∧ Same H2 J' ∧ J' wD = some (.dK (wrK (done ++ r.take tt))) ∧ J' pL = some (.lst rs') ∧ Lets J' rs' (outI (bitsOf S.marks S.facts) (Ls.take j) ++ (emitI (bitsOf S.marks S.facts) p.1 r).take tt) ∧ rs'.length = rs.length + tt ∧
          ((tt < r.length ∧ r[tt]? = some e ∧ st = (((if tt = 0 then p.1 else 0) : Nat) : Int)) ∨ (tt = r.length ∧ (e = -1 ∨ e ∈ r)))) (fun _ J' => rs.length + r.length - size J' pL)
        ⟨0, _, _, rs, rfl, Nat.zero_le _, sJ21, by rw [List.take_zero, List.append_nil]; exact eW1, eL1, by rw [List.take_zero, List.append_nil]; exact lets1, rfl, .inl ⟨by rw [lr]; exact Nat.lt_of_le_of_lt (Nat.zero_le _) li, hr0, rfl⟩⟩ (fun σ' J' hP => ?_) fun σ' J' Q Q' mo h => ?_
      · obtain ⟨tt, st, e, rs', rfl, htt, sJ', eW', eL', lets', lrs, way⟩ := hP
        have fin : tt = r.length → ∃ j' z4 z5 z6 rs2, ([some (.ref t), some (.ref d), some (.ref wD), some (.ref pL), some (.int xi), some (.int st), some (.int e)] : L2.St) = [some (.ref t), some (.ref d), some (.ref wD), some (.ref pL), z4, z5, z6] ∧ Same H2 J' ∧ J' wD = some (.dK (wrK ((Ls.take j').flatMap rotI))) ∧ J' pL = some (.lst rs2) ∧ Lets J' rs2 (outI (bitsOf S.marks S.facts) (Ls.take j')) ∧ Met S.items Ls j' (k + 1) := fun et => by
          subst et
          rw [List.take_length] at eW'
          rw [show (emitI (bitsOf S.marks S.facts) p.1 r).take r.length = emitI (bitsOf S.marks S.facts) p.1 r from List.take_of_length_le (by rw [emit_len]; exact Nat.le_refl _)] at lets'
          refine ⟨j + 1, _, _, _, rs', rfl, sJ', ?_, eL', ?_, M'⟩
          · rw [take_next hp, List.flatMap_append, hd0]
            simpa [hr'] using eW'
          · rw [take_next hp]
            unfold outI at lets' ⊢
            rw [List.flatMap_append]
            simpa [hr'] using lets'
        rcases way with ⟨lt, he, est⟩ | ⟨et, way⟩
        · have her : e ∈ r := List.mem_of_getElem? he
          have hep := (mr e).mp her
          have nin : e ∉ done ++ r.take tt := fun h => by
            rcases List.mem_append.mp h with h | h
            · exact dis e her h
            · obtain ⟨n, hn, e2⟩ := List.mem_iff_getElem.mp h
              rw [List.length_take] at hn
              rw [List.getElem_take] at e2
              have h1 : r[n]? = some e := by rw [List.getElem?_eq_getElem (by omega), e2]
              have := idx_at ndr h1
              rw [idx_at ndr he] at this
              omega
          refine ⟨_, rfl, rfl, true, by simp [eqV, nneg e hep], iteT' rfl ?_⟩
          refine ⟨_, rfl, _, rfl, wD, _, rfl, .inl ⟨_, .inl e, .inl eW', rfl, rfl⟩, true, by rw [wr_val, decide_eq_false nin]; rfl, iteT' rfl ?_⟩
          refine ⟨_, rfl, _, rfl, wD, _, rfl, DPut.k (k := .inl e) eW' (by
            unfold wrK
            rw [List.length_map, List.length_append, List.length_take]
            exact Nat.lt_of_le_of_lt (show _ ≤ 2000 by omega) (by decide)), ?_⟩
          rw [wr_put nin]
          have ne1 : pL ≠ wD := fun z => by rw [z, eW'] at eL'; cases eL'
          have eW5 : L2.upd J' wD (.dK (wrK (done ++ r.take tt ++ [e]))) wD = some (.dK (wrK (done ++ r.take tt ++ [e]))) := upd_same
          have eL5 : L2.upd J' wD (.dK (wrK (done ++ r.take tt ++ [e]))) pL = some (.lst rs') := by rw [upd_ne ne1]; exact eL'
          have s5 : Same H2 (L2.upd J' wD (.dK (wrK (done ++ r.take tt ++ [e])))) := same_upd sJ' nwD
          have lets5 := lets'.keep (tk_dk (kvs' := wrK (done ++ r.take tt ++ [e])) eW')
          generalize L2.upd J' wD (.dK (wrK (done ++ r.take tt ++ [e]))) = J5 at eW5 eL5 s5 lets5 ⊢
          obtain ⟨t', b, g, ht', hb⟩ := (tab2.same s5).get (i := e) (inI e hep)
          rw [en e] at ht'
          refine ⟨_, rfl, .inl ⟨rfl, _, SqL.of eL5⟩, _, rfl, _, rfl, _, rfl, d, _, rfl, g, t', _, 0, .ref b, rfl, rfl, .inl (.inl ht'), atI_nat (j := 0) rfl, by show 2 ≤ sizeLine; decide, fun qn nqn => ?_⟩
          have g6 := same_new nqn (o := .tup [.int st, .ref b])
          have f6 : L2.upd J5 qn (.tup [.int st, .ref b]) qn = some (.tup [.int st, .ref b]) := upd_same
          have eL6 := g6 _ _ eL5
          have eW6 := g6 _ _ eW5
          have lets6 := lets5.keep (tk_same g6)
          have ht6 := g6 _ _ ht'
          have hb6 := g6 _ _ hb
          have gd6 := g
          have s6 := s5.trans g6
          generalize L2.upd J5 qn (.tup [.int st, .ref b]) = J6 at f6 eL6 eW6 lets6 ht6 hb6 s6 ⊢
          refine nil_read ⟨pL, rs', .ref qn, rfl, rfl, eL6, Nat.lt_of_le_of_lt (show rs'.length ≤ 5000 by
            have z : rs.length ≤ 2000 := by
              have q3 : ∀ (l : List (Nat × List Int)), (outI (bitsOf S.marks S.facts) l).length = (l.flatMap rotI).length := fun l => by
                unfold outI
                induction l with
                | nil => rfl
                | cons z l ih => rw [List.flatMap_cons, List.flatMap_cons, List.length_append, List.length_append, ih, emit_len]
              rw [Paired.length lets, q3, hd0]
              omega
            omega) (by decide), ?_⟩
          have tkL := tk_lst (ys := rs' ++ [V.ref qn]) eL6
          have s7 : Same H2 (L2.upd J6 pL (.lst (rs' ++ [V.ref qn]))) := same_upd s6 npL2
          have eW7 : L2.upd J6 pL (.lst (rs' ++ [V.ref qn])) wD = some (.dK (wrK (done ++ r.take tt ++ [e]))) := by rw [upd_ne ne34]; exact eW6
          have eL7 : L2.upd J6 pL (.lst (rs' ++ [V.ref qn])) pL = some (.lst (rs' ++ [V.ref qn])) := upd_same
          have lets7 := lets6.keep tkL
          have lv : LetV (L2.upd J6 pL (.lst (rs' ++ [V.ref qn]))) (.ref qn) ⟨if tt = 0 then p.1 else 0, bitsOf S.marks S.facts e⟩ := ⟨qn, b, rfl, by rw [tkL _ _ f6, est], tkL _ _ hb6⟩
          generalize L2.upd J6 pL (.lst (rs' ++ [V.ref qn])) = J7 at s7 eW7 eL7 lets7 lv ⊢
          obtain ⟨t2, b2, g2, ht2, hb2⟩ := (tab2.same s7).get (i := e) (inI e hep)
          rw [en e] at ht2
          refine ⟨_, rfl, _, rfl, d, _, rfl, g2, t2, _, 1, .int (fwdOf S.facts "next" e), rfl, rfl, .inl (.inl ht2), atI_nat (j := 1) rfl, _, _, rfl, ?_⟩
          refine ⟨⟨tt + 1, 0, fwdOf S.facts "next" e, rs' ++ [.ref qn], rfl, lt, s7, ?_, eL7, ?_, ?_, ?_⟩, ?_⟩
          · rw [take_next he, ← List.append_assoc]
            exact eW7
          · rw [take_next (emit_get he), ← List.append_assoc]
            exact paired_snoc lv lets7
          · rw [List.length_append, List.length_singleton]
            omega
          · by_cases q : tt + 1 < r.length
            · obtain ⟨y, hn⟩ : ∃ y, r[tt + 1]? = some y := ⟨_, List.getElem?_eq_getElem q⟩
              refine .inl ⟨q, ?_, rfl⟩
              rw [hn, run_next C li (j := tt) (x := e) (y := y) (by rw [← hr'] at he; exact he) (by rw [← hr'] at hn; exact hn)]
            · refine .inr ⟨by omega, ?_⟩
              have hl : r[r.length - 1]? = some e := by rw [show r.length - 1 = tt by omega]; exact he
              rcases run_last C li (by rw [← hr'] at hr0; exact hr0) (by rw [← hr'] at hl; exact hl) with z | z
              · exact .inl z
              · exact .inr (by rw [z]; exact List.mem_of_getElem? hr0)
          · show rs.length + r.length - size J7 pL < rs.length + r.length - size J' pL
            rw [size_of eL7, size_of eL', List.length_append, List.length_singleton]
            omega
        · by_cases z : e = -1
          · refine ⟨_, rfl, rfl, false, by simp [eqV, z], iteF' rfl (iteF' rfl ?_)⟩
            exact fin et
          · have her := way.resolve_left z
            refine ⟨_, rfl, rfl, true, by simp [eqV, z], iteT' rfl ?_⟩
            refine ⟨_, rfl, _, rfl, wD, _, rfl, .inl ⟨_, .inl e, .inl eW', rfl, rfl⟩, false, ?_, iteF' rfl ?_⟩
            · rw [wr_val, decide_eq_true (List.mem_append.mpr (.inr (by rw [et, List.take_length]; exact her)))]
              rfl
            · exact fin et
      · obtain ⟨v1, e1, hs, kk, ek, z⟩ := h
        refine ⟨v1, e1, hs, kk, ek, ?_⟩
        cases kk with
        | false => exact mo _ _ z
        | true =>
          obtain ⟨v2, e2, v3, e3, a, o, ea, g, k2, e4, z⟩ := z
          exact ⟨v2, e2, v3, e3, a, o, ea, g, k2, e4, mo _ _ z⟩
  · obtain ⟨j, y4, y5, y6, rs, rfl, sJ, eW, eL, lets, M⟩ := hP
    rw [List.length_map] at M
    rw [met_end PL M] at lets
    exact ⟨_, rfl, qq pL rs J ((s1.trans s2).trans sJ) eL lets⟩
end
end DQ

set_option Elab.async false
set_option linter.all false
set_option maxRecDepth 100000
set_option maxHeartbeats 2000000
namespace DQ
open PySem PySem.Spec PyProof.Rows L2
abbrev sLM : Stmt := topS 40
abbrev sLS : Stmt := topS 41
abbrev sLetters : Stmt := topS 42
theorem scLM : FnScope ["marks"] ["marks"] (defScope sLM) := ⟨rfl, rfl, rfl, by decide +kernel, rfl, by decide +kernel, by decide +kernel⟩
theorem scLS : FnScope ["marks", "columns"] ["marks", "columns"] (defScope sLS) := ⟨rfl, rfl, rfl, by decide +kernel, rfl, by decide +kernel, by decide +kernel⟩
abbrev NLt : List Str := ["marks", "start", "bits"]
theorem scLetters : FnScope NLt ["marks"] (defScope sLetters) := ⟨rfl, rfl, rfl, by decide +kernel, rfl, by decide +kernel, by decide +kernel⟩
/-- the marks of a line: at most two -/
def MarksOk (ms : List Str) : Prop := ∃ b k, b ∈ markLists ∧ k ≤ 2 ∧ ms = List.take k b
theorem marks_facts {ms : List Str} (h : MarksOk ms) : wordsD 2 (.list (ms.map PyData.str)) = true ∧ Fits (.list (ms.map PyData.str)) ∧ ms.Nodup ∧ ms.length ≤ 2 ∧ inV (.str "next") (ms.map V.str) = false ∧ ∃ b k, b ∈ markLists ∧ k ≤ 3 ∧ ms = List.take k b := by
  obtain ⟨b, k, hb, hk, rfl⟩ := h
  have l2 : (List.take k b).length ≤ 2 := by rw [List.length_take]; omega
  refine ⟨?_, fun ds e => ?_, ?_, l2, ?_, b, k, hb, by omega, rfl⟩
  · have c : k = 0 ∨ k = 1 ∨ k = 2 := by omega
    simp only [markLists, List.mem_cons, List.not_mem_nil, or_false] at hb
    rcases hb with rfl | rfl <;> rcases c with rfl | rfl | rfl <;> decide +kernel
  · injection e with e
    subst e
    refine ⟨by rw [List.length_map]; omega, fun d hd x ex => ?_⟩
    obtain ⟨y, hy, e⟩ := List.mem_map.mp hd
    rw [ex] at e
    injection e with e
    subst e
    have hy := List.mem_of_mem_take hy
    refine (lay_words y ?_).2
    simp only [markLists, List.mem_cons, List.not_mem_nil, or_false] at hb
    rcases hb with rfl | rfl <;> simp only [List.mem_cons, List.not_mem_nil, or_false] at hy
    · rcases hy with rfl | rfl | rfl <;> decide
    · rcases hy with rfl | rfl <;> decide
  · refine (List.take_sublist _ _).nodup ?_
    simp only [markLists, List.mem_cons, List.not_mem_nil, or_false] at hb
    rcases hb with rfl | rfl <;> decide
  · have c : k = 0 ∨ k = 1 ∨ k = 2 := by omega
    simp only [markLists, List.mem_cons, List.not_mem_nil, or_false] at hb
    rcases hb with rfl | rfl <;> rcases c with rfl | rfl | rfl <;> decide +kernel
def lettersOf (many : Nat) : Line := (List.range 3).flatMap fun s => (rowsN [0, 1] many).map fun r => ⟨s, r⟩
section
variable {P : Program} {w : World} {K : PySem.W.Frag} {mg : Str → Option Value} {base : Heap}
def spLM (K : PySem.W.Frag) : Sp := fun vs H Q _ => ∃ (a : Addr) (ms : List Str), vs = [.ref a] ∧ SqL K H a (ms.map V.str) ∧ MarksOk ms ∧ ∀ H', Same H H' → Q .non H'
theorem ok_LM {f fW CL : Addr} {fd dW : FuncData} {t1 : Tok} (F : Fun K "check_line_marks" "check_line_marks" sLM f fd) (GW : FnOk P w K mg base CX0 3 fW dW ["value", "most"] (spWords K)) (bW : Binds K dW ["value", "most"] []) (kW : PySem.W.keepIn K (.ref fW) = true) (mW : mg "are_words" = some (.ref fW))
    (U : ErrUse P w K mg base "InvalidList" CL) (mM : mg "MOST_LINE_MARKS" = some (.int 2 t1)) : FnOk P w K mg base (L2.CX P w) 4 f fd ["marks"] (spLM K) := by
  obtain ⟨fI, fdI, ds, iC, tI, oI, bI, _, _, _⟩ := U.ok
  refine F.okX scLM (fun vs H Q E h => ?_) (fun cdv A outer s H vs Q E hr h => ?_)
  · obtain ⟨_, _, rfl, _⟩ := h
    rfl
  obtain ⟨a, ms, rfl, sq, ok, q⟩ := h
  refine ⟨_, pss_one (ps_if (pt_not (pt_val (pe_call GW (hr.mono (by decide)) rfl mW kW bW .nil pass0 (pa_cons (pv 0) (pa_cons (pe_glob (v := .int 2) (by rfl) mM ⟨_, rfl⟩) pa_nil))))) (pss_one (ps_raise rfl (takes_of rfl rfl rfl rfl) (pmk_oex U.T iC tI oI (hr.mono (by decide)) bI .nil pass0 (by rfl) U.g (pa_cons (pv 0) pa_nil)))) pss_nil), ?_⟩
  obtain ⟨w2, fit, _⟩ := marks_facts ok
  refine ⟨_, rfl, .ref a, .list (ms.map PyData.str), 2, rfl, by decide, .lst sq (dp_texts ms), fit, fun H' s' => ?_⟩
  rw [w2]
  exact ⟨true, rfl, iteF' rfl (q H' s')⟩
def spLS (K : PySem.W.Frag) : Sp := fun vs H Q _ => ∃ (a c : Addr) (ms : List Str), vs = [.ref a, .ref c] ∧ SqL K H a (ms.map V.str) ∧ SqL K H c [.str "next"] ∧ MarksOk ms ∧ ∀ H', Same H H' → Q .non H'
theorem ok_LS {f fW fM CL : Addr} {fd dW dM : FuncData} (F : Fun K "check_line_signs" "check_line_signs" sLS f fd) (GW : FnOk P w K mg base CX0 3 fW dW ["value", "most"] (spWords K)) (bW : Binds K dW ["value", "most"] []) (kW : PySem.W.keepIn K (.ref fW) = true) (mW : mg "are_words" = some (.ref fW))
    (GM : FnOk P w K mg base (L2.CX P w) 4 fM dM ["marks"] (spLM K)) (bM : Binds K dM ["marks"] []) (kM : PySem.W.keepIn K (.ref fM) = true) (mM : mg "check_line_marks" = some (.ref fM))
    (U : ErrUse P w K mg base "InvalidList" CL) (mLen : mg "len" = none) : FnOk P w K mg base (L2.CX P w) 5 f fd ["marks", "columns"] (spLS K) := by
  obtain ⟨fI, fdI, ds, iC, tI, oI, bI, _, _, _⟩ := U.ok
  refine F.okX scLS (fun vs H Q E h => ?_) (fun cdv A outer s H vs Q E hr h => ?_)
  · obtain ⟨_, _, _, rfl, _⟩ := h
    rfl
  obtain ⟨a, c, ms, rfl, sq, sqc, ok, q⟩ := h
  refine ⟨_, pss_cons (ps_expr (pe_callS GM (hr.mono (by decide)) rfl mM kM bM (fun σ => passAt (takes_of rfl rfl rfl rfl) σ) (pa_cons (pv 0) pa_nil)))
    (pss_one (ps_if (PW.pt (pw_or (pt_not (pt_val (pe_call GW (hr.mono (by decide)) rfl mW kW bW .nil pass0 (pa_cons (pv 1) (pa_cons pe_int pa_nil)))))
      (pw_or (pt_cmpR op_ne (pe_callB call_len_seq (by rfl) mLen PySem.boot_len (pa_cons (pv 1) pa_nil)) pe_int (nomark _)) (pw_or1 (pt_cmpR (r := rIn K false) op_in_seq (pe_ix (r := rIxL K) ix_list (pv 1) pe_int (fun _ _ => rfl)) (pv 0) (by rfl))))))
      (pss_one (ps_raise rfl (takes_of rfl rfl rfl rfl) (pmk_oex U.T iC tI oI (hr.mono (by decide)) bI .nil pass0 (by rfl) U.g (pa_cons (pv 1) pa_nil)))) pss_nil)), ?_⟩
  obtain ⟨w2, fit, _, l2, nin, _⟩ := marks_facts ok
  refine ⟨_, rfl, a, ms, rfl, sq, ok, fun H1 s1 => ?_⟩
  have sqc1 : SqL K H1 c [.str "next"] := L2.Same.seq s1 sqc
  have sq1 : SqL K H1 a (ms.map V.str) := L2.Same.seq s1 sq
  have e1 : wordsD 1 (.list [.str "next"]) = true := by decide +kernel
  refine ⟨_, rfl, .ref c, .list [.str "next"], 1, rfl, by decide, .lst sqc1 (.cons (.str _) .nil), fun ds e => ?_, fun H2 s2 => ?_⟩
  · injection e with e
    subst e
    refine ⟨by decide, fun d hd x ex => ?_⟩
    rw [List.mem_singleton.mp hd] at ex
    injection ex with ex
    subst ex
    decide +kernel
  rw [e1]
  refine ⟨true, rfl, iteF' rfl ?_⟩
  have sqc2 : SqL K H2 c [.str "next"] := L2.Same.seq s2 sqc1
  refine ⟨_, rfl, c, _, rfl, .inl sqc2, rfl, false, rfl, iteF' rfl ?_⟩
  refine ⟨_, rfl, c, _, 0, .str "next", rfl, rfl, sqc2, atI_nat (j := 0) rfl, _, rfl, a, _, rfl, .inl (L2.Same.seq s2 sq1), rfl, flat_strs ms, ?_⟩
  rw [nin]
  exact ⟨false, rfl, iteF' rfl (q H2 (s1.trans s2))⟩
def spLetters (K : PySem.W.Frag) : Sp := fun vs H Q _ => ∃ (a : Addr) (ms : List Str), vs = [.ref a] ∧ SqL K H a (ms.map V.str) ∧ MarksOk ms ∧ ∀ p rs H', Same H H' → H p = none → H' p = some (.lst rs) → Lets H' rs (lettersOf ms.length) → Q (.ref p) H'
theorem ok_letters {f fR fM : Addr} {fd dR dM : FuncData} {t1 : Tok} (F : Fun K "letters" "letters" sLetters f fd) (GR : FnOk P w K mg base CX0 1 fR dR ["items", "many"] (spRows K)) (bR : Binds K dR ["items", "many"] []) (kR : PySem.W.keepIn K (.ref fR) = true) (mR : mg "rows_of_items" = some (.ref fR))
    (GM : FnOk P w K mg base (L2.CX P w) 4 fM dM ["marks"] (spLM K)) (bM : Binds K dM ["marks"] []) (kM : PySem.W.keepIn K (.ref fM) = true) (mM : mg "check_line_marks" = some (.ref fM))
    (mLen : mg "len" = none) (mRange : mg "range" = none) (mRg : mg "RING" = some (.int 2 t1)) : FnOk P w K mg base (L2.CX P w) 5 f fd ["marks"] (spLetters K) := by
  refine F.okX scLetters (fun vs H Q E h => ?_) (fun cdv A outer s H vs Q E hr h => ?_)
  · obtain ⟨_, _, rfl, _⟩ := h
    rfl
  obtain ⟨a, ms, rfl, sq, ok, q⟩ := h
  have nd := scLetters.nd
  refine ⟨_, pss_cons (ps_expr (pe_callS GM (hr.mono (by decide)) rfl mM kM bM (fun σ => passAt (takes_of rfl rfl rfl rfl) σ) (pa_cons (pv 0) pa_nil)))
    (pss_one (ps_ret (pe_lc2 (own := [("start", 1), ("bits", 2)]) (vs1 := [2]) (wi1 := iList K (tCall (spRows K) [] E0 (tCons (tLst (tCons (tC (.int 0)) (tCons (tC (.int 1)) tNil))) (tCons (tCB (rLenS K) (tCons (tVar 0) tNil)) tNil)))) (te := tTup (tCons (tVar 1) (tCons (tVar 2) tNil))) (g := gName 1) (g1 := gName 2) (tt := tYes) (tt1 := tYes) rfl nd (pi_range1 (by rfl) mRange (pa_cons (pe_op op_add (pe_glob (v := .int 2) (by rfl) mRg ⟨_, rfl⟩) pe_int) pa_nil)) (blkOk_by (own := [("start", 1), ("bits", 2)]) (N := NLt) (sc := defScope sLetters) (by decide +kernel)) (by decide)
        (fun _ _ _ _ _ => pg_name (i := 1) nd rfl (Or.inl rfl)) (fun _ _ _ _ _ => pts_nil) (fun _ _ _ _ _ => by exact pi_list (pe_call GR (hr.mono (by decide)) rfl mR kR bR .nil pass0 (pa_cons (pe_lst (pa_cons pe_int (pa_cons pe_int pa_nil))) (pa_cons (pe_callB (r := rLenS K) call_len_seq (by rfl) mLen PySem.boot_len (pa_cons (pv 0) pa_nil)) pa_nil)))) (fun _ _ _ _ _ => pg_name (i := 2) nd rfl (Or.inl rfl)) (fun _ _ _ _ _ => pts_nil)
        (fun _ _ _ _ _ => pe_tup (pa_cons (pv 1) (pa_cons (pv 2) pa_nil)))))), ?_⟩
  obtain ⟨w2, fit, _, l2, _, _⟩ := marks_facts ok
  refine ⟨_, rfl, a, ms, rfl, sq, ok, fun H1 s1 => ?_⟩
  have rl : (rowsN [0, 1] ms.length).length ≤ 4 := Nat.le_trans (rows_len [0, 1] (by decide) _) (Nat.le_trans (Nat.pow_le_pow_right (by decide) l2) (by decide))
  refine ⟨2, 1, rfl, rfl, 3, rfl, by decide, by decide, fun D nD => ?_⟩
  refine it_by (walk_range (lo := 0) (n := 3)) (fun o J => Same H1 J ∧ ∃ acc, J D = some (.lst acc) ∧ Lets J acc ((List.range o).flatMap fun s => (rowsN [0, 1] ms.length).map fun r => ⟨s, r⟩)) ⟨same_new nD, [], upd_same, .nil⟩ (fun _ _ _ _ => trivial) (fun o x J' J ho hP y => ?_) fun J hP => ?_
  · obtain ⟨sJ, acc, eD, lt⟩ := hP
    obtain ⟨rfl, hx⟩ := y
    have hx : x = .int (o : Nat) := hx.trans (congrArg V.int (Int.zero_add _))
    subst hx
    refine ⟨rfl, ?_⟩
    refine ⟨by show 2 ≤ sizeLine; decide, fun li nli => ?_⟩
    have b1 := same_new nli (o := .lst [V.int 0, .int 1])
    have f1 : L2.upd J li (.lst [V.int 0, .int 1]) li = some (.lst [V.int 0, .int 1]) := upd_same
    have eD1 := b1 _ _ eD
    have lt1 := lt.keep (tk_same b1)
    generalize L2.upd J li (.lst [V.int 0, .int 1]) = J1 at b1 f1 eD1 lt1 ⊢
    refine ⟨_, rfl, a, _, rfl, .inl (L2.Same.seq (s1.trans (sJ.trans b1)) sq), ?_⟩
    rw [List.length_map]
    refine ⟨li, [0, 1], ms.length, rfl, SqL.of f1, by decide, by omega, fun p rs J2 s2 np ep tp => ?_⟩
    have neD : p ≠ D := ne_some np eD1
    have eD2 := s2 _ _ eD1
    have lt2 := lt1.keep (tk_same s2)
    have sJ2 := (sJ.trans b1).trans s2
    have lrs : rs.length = (rowsN [0, 1] ms.length).length := by rw [Paired.length tp, List.length_map]
    refine ⟨p, rfl, ⟨_, SqL.of ep⟩, ?_⟩
    refine it_by (walk_list (K := K) (a := p) (xs := rs)) (fun j J' => J' p = some (.lst rs) ∧ Tups J' rs (rowsV (rowsN [0, 1] ms.length)) ∧ Same H1 J' ∧ ∃ acc, J' D = some (.lst acc) ∧ Lets J' acc (((List.range o).flatMap fun s => (rowsN [0, 1] ms.length).map fun r => ⟨s, r⟩) ++ ((rowsN [0, 1] ms.length).take j).map fun r => ⟨o, r⟩)) ?_ (fun j J' _ p => SqL.of p.1) (fun j x J'' J' hj hP y => ?_) fun J' hP => ?_
    · exact ⟨ep, tp, sJ2, acc, eD2, by simpa using lt2⟩
    · obtain ⟨ep1, tp1, s3, acc1, eD3, lt3⟩ := hP
      obtain ⟨rfl, hx⟩ := y
      obtain ⟨ra, t, rfl, ht, hra⟩ := tups_at tp1 hx
      obtain ⟨row, hrow, rfl⟩ := at_map ht
      refine ⟨rfl, ?_⟩
      refine ⟨_, rfl, _, rfl, by show 2 ≤ sizeLine; decide, fun tn ntn => ?_⟩
      have b4 := same_new ntn (o := .tup [.int (o : Nat), .ref ra])
      have f4 : L2.upd J' tn (.tup [.int (o : Nat), .ref ra]) tn = some (.tup [.int (o : Nat), .ref ra]) := upd_same
      have eD4 := b4 _ _ eD3
      have lt4 := lt3.keep (tk_same b4)
      have tp4 := tp1.keep (tk_same b4)
      have ep4 := b4 _ _ ep1
      have hra4 := b4 _ _ hra
      generalize L2.upd J' tn (.tup [.int (o : Nat), .ref ra]) = J4 at b4 f4 eD4 lt4 tp4 ep4 hra4 ⊢
      have tk := tk_lst (ys := acc1 ++ [V.ref tn]) eD4
      refine ⟨acc1, eD4, ?_, by rw [upd_ne neD]; exact ep4, tp4.keep tk, same_upd (s3.trans b4) nD, acc1 ++ [.ref tn], upd_same, ?_⟩
      · have l := Paired.length lt3
        rw [List.length_append, List.length_map, List.length_take] at l
        have z : ∀ o, ((List.range o).flatMap fun s => (rowsN [0, 1] ms.length).map fun r => (⟨s, r⟩ : Letter)).length = o * (rowsN [0, 1] ms.length).length := fun o => by
          induction o with
          | zero => simp
          | succ o ih => rw [List.range_succ, List.flatMap_append, List.length_append, ih, Nat.add_mul]; simp
        rw [z] at l
        have : o * (rowsN [0, 1] ms.length).length ≤ 3 * 4 := Nat.mul_le_mul (by omega) rl
        exact Nat.lt_of_le_of_lt (show acc1.length ≤ 20 by omega) (by decide)
      · rw [take_next hrow, List.map_append, ← List.append_assoc]
        exact paired_snoc ⟨tn, ra, rfl, tk _ _ f4, tk _ _ hra4⟩ (lt4.keep tk)
    · obtain ⟨ep1, tp1, s3, acc1, eD3, lt3⟩ := hP
      refine ⟨s3, acc1, eD3, ?_⟩
      rw [lrs, List.take_length] at lt3
      rw [List.range_succ, List.flatMap_append]
      simpa using lt3
  · obtain ⟨sJ, acc, eD, lt⟩ := hP
    exact q D acc J (s1.trans sJ) (s1.free nD) eD lt
end
end DQ

set_option Elab.async false
set_option linter.all false
set_option maxRecDepth 100000
set_option maxHeartbeats 2000000
namespace DQ
open PySem PySem.Spec PyProof.Rows L2
/-! ### sum([a list for ..], []): lists of lists put together -/
theorem tk_trans {H H' H2 : Hp} (a : TupKeep H H') (b : TupKeep H' H2) : TupKeep H H2 := fun x t e => b x t (a x t e)
theorem lc_groups {α : Type} (R : Hp → V → α → Prop) (hR : ∀ {H H'}, TupKeep H H' → ∀ v a, R H v a → R H' v a) {J : It} {n : Nat} {G : Hp → Prop} {Y : Nat → Hp → V → Hp → Prop} (w : Walk J n G Y) {g : TG} {te : TE} {vs : List Nat} {σ : L2.St} {H1 : Hp} {D : Addr} {Qd : Hp → Prop} (gs : List (List α)) (hn : gs.length = n) (few : n < sizeLine) (nD : H1 D = none)
    (hG : ∀ H, Same H1 H → G H) (hY : ∀ i H x H', Y i H x H' → Same H H')
    (turn : ∀ i x H H' u, i < n → gs[i]? = some u → Same H1 H → Y i H x H' → ∀ R' : V → Hp → Prop, (∀ b ys H4, Same H' H4 → H' b = none → H4 b = some (.lst ys) → Paired (R H4) ys u → R' (.ref b) H4) → g x (wipe σ vs) H' fun σ2 H2 => wipe σ2 vs = wipe σ vs ∧ te σ2 H2 R')
    (mono : ∀ x H' (A B : L2.St → Hp → Prop), (∀ σ2 H2, A σ2 H2 → B σ2 H2) → g x (wipe σ vs) H' A → g x (wipe σ vs) H' B)
    (after : ∀ (H : Hp) (bs : List Addr) (yss : List (List V)), Same H1 H → H D = some (.lst (bs.map V.ref)) → yss.length = bs.length → (∀ (i : Nat) (b : Addr) (y : List V), bs[i]? = some b → yss[i]? = some y → H b = some (.lst y)) → Paired (R H) yss.flatten gs.flatten → Qd H) :
    ∃ W : Nat → Nat → Hp → Prop, (∃ m, W 0 m (upd H1 D (.lst []))) ∧ ∀ i m H, W i m H →
      (J.stop i H ∧ Qd H) ∨ (J.go i H ∧ ∃ Nx : Hp → Prop, (∀ H', Nx H' → ∃ m', m' < m ∧ W (i + 1) m' H') ∧ ∀ x H', J.yld i H x H' → g x (wipe σ vs) H' fun σ2 H2 => wipe σ2 vs = wipe σ vs ∧ tYes σ2 H2 fun b H3 =>
        if b = true then te σ2 H3 fun y H4 => ∃ acc, H4 D = some (.lst acc) ∧ acc.length < sizeLine ∧ Nx (upd H4 D (.lst (acc ++ [y]))) else Nx H3) := by
  refine lc_it w (fun i H => Same H1 H ∧ ∃ (bs : List Addr) (yss : List (List V)), H D = some (.lst (bs.map V.ref)) ∧ bs.length = i ∧ Paired (fun b ys => del H D b = some (.lst ys)) bs yss ∧ Paired (R H) yss.flatten (gs.take i).flatten) ⟨same_new nD, [], [], upd_same, rfl, .nil, .nil⟩ (fun i H _ p => hG H p.1) (fun i x H H' hi p y => ?_) fun H p => ?_
  · obtain ⟨sm, bs, yss, eD, lb, p1, p2⟩ := p
    have hu : gs[i]? = some gs[i] := List.getElem?_eq_getElem (by omega)
    generalize gs[i] = u at hu
    refine mono x H' _ _ (fun σ2 H2 z => ⟨z.1, z.2⟩) (turn i x H H' u hi hu sm y (fun y H4 => ∃ acc, H4 D = some (.lst acc) ∧ acc.length < sizeLine ∧ Same H1 (upd H4 D (.lst (acc ++ [y]))) ∧ ∃ (bs2 : List Addr) (yss2 : List (List V)), upd H4 D (.lst (acc ++ [y])) D = some (.lst (bs2.map V.ref)) ∧ bs2.length = i + 1 ∧ Paired (fun b ys => del (upd H4 D (.lst (acc ++ [y]))) D b = some (.lst ys)) bs2 yss2 ∧ Paired (R (upd H4 D (.lst (acc ++ [y])))) yss2.flatten (gs.take (i + 1)).flatten) fun b ys H4 s4 nb eb pv => ?_)
    have s0 := hY _ _ _ _ y
    have s' := s0.trans s4
    have eD4 := s' _ _ eD
    have nbD : b ≠ D := fun z => by rw [z, s0 _ _ eD] at nb; cases nb
    have tk := tk_lst (ys := bs.map V.ref ++ [V.ref b]) eD4
    refine ⟨_, eD4, by rw [List.length_map]; omega, same_upd (sm.trans s') nD, bs ++ [b], yss ++ [ys], by rw [List.map_append]; exact upd_same, by rw [List.length_append, List.length_singleton, lb], ?_, ?_⟩
    · rw [del_upd]
      exact paired_snoc (R := fun b ys => del H4 D b = some (.lst ys)) (by rw [del_ne nbD]; exact eb) (paired_mono (fun b ys h => same_del s' _ _ h) p1)
    · rw [take_next hu, List.flatten_append, List.flatten_append, List.flatten_singleton, List.flatten_singleton]
      have app : ∀ {xs ys : List V} {as bs : List α} {R : V → α → Prop}, Paired R xs as → Paired R ys bs → Paired R (xs ++ ys) (as ++ bs) := fun h1 h2 => by
        induction h1 with
        | nil => exact h2
        | cons r _ ih => exact .cons r ih
      exact app (paired_mono (fun v a h => hR tk v a (hR (tk_same s') v a h)) p2) (paired_mono (fun v a h => hR tk v a h) pv)
  · obtain ⟨sm, bs, yss, eD, lb, p1, p2⟩ := p
    rw [← hn, List.take_length] at p2
    refine after H bs yss sm eD (Paired.length p1).symm (fun i b y hb hy => ?_) p2
    obtain ⟨y', hy', h⟩ := paired_at p1 hb
    rw [hy] at hy'
    cases hy'
    exact del_le _ _ h
end DQ

set_option Elab.async false
set_option linter.all false
set_option maxRecDepth 100000
set_option maxHeartbeats 2000000
namespace DQ
open PySem PySem.Spec PyProof.Rows L2
abbrev sLawLetters : Stmt := topS 56
abbrev NLL : List Str := ["many", "rows", "turn", "row", "start"]
theorem scLawLetters : FnScope NLL ["many"] (defScope sLawLetters) := ⟨rfl, rfl, rfl, by decide +kernel, rfl, by decide +kernel, by decide +kernel⟩
abbrev scLL : Scope := { kind := .function, names := [(".0", .local), ("start", .cell), ("rows", .cell)], isGenerator := false, isCoroutine := false, more := [] }
theorem rows_flat (ns : List Int) (k : Nat) : rowsN ns (k + 1) = ((rowsN ns k).map fun r => ns.map fun n => r ++ [n]).flatten := by rw [rowsN, List.flatMap_def]
theorem letters_flat (many : Nat) : lettersOf many = ((List.range 3).map fun s => (rowsN [0, 1] many).map fun r => (⟨s, r⟩ : Letter)).flatten := by rw [lettersOf, List.flatMap_def]
def RowV (H : Hp) (v : V) (t : List Int) : Prop := ∃ a, v = .ref a ∧ H a = some (.tup (t.map V.int))
theorem rowV_keep {H H' : Hp} (k : TupKeep H H') (v : V) (t : List Int) (h : RowV H v t) : RowV H' v t := by
  obtain ⟨a, e, h⟩ := h
  exact ⟨a, e, k _ _ h⟩
theorem letV_keep {H H' : Hp} (k : TupKeep H H') (v : V) (t : Letter) (h : LetV H v t) : LetV H' v t := by
  obtain ⟨a, b, e, h, h2⟩ := h
  exact ⟨a, b, e, k _ _ h, k _ _ h2⟩
theorem paired_of {α β : Type} {R : α → β → Prop} : ∀ (xs : List α) (ys : List β), xs.length = ys.length → (∀ (i : Nat) a b, xs[i]? = some a → ys[i]? = some b → R a b) → Paired R xs ys
  | [], [], _, _ => .nil
  | [], _ :: _, e, _ => by cases e
  | _ :: _, [], e, _ => by cases e
  | x :: xs, y :: ys, e, h => .cons (h 0 x y rfl rfl) (paired_of xs ys (by simpa using e) fun i a b ha hb => h (i + 1) a b (by simpa using ha) (by simpa using hb))
/-- a tuple with another behind it -/
theorem catA_by {K : PySem.W.Frag} {H : Hp} {a b : Addr} {xs ys : List V} {Q : VK} (ha : H a = some (.tup xs)) (hb : H b = some (.tup ys)) (ne : ys ≠ []) (few : xs.length + ys.length ≤ 1000) (go : ∀ p H', Same H H' → H' p = some (.tup (xs ++ ys)) → Q (.ref p) H') : rCatA K (.ref a) (.ref b) H Q :=
  ⟨a, b, xs, ys, rfl, rfl, .inl (.inl ha), .inl (.inl hb), Nat.le_trans few (by decide), fun z => go b H (fun _ _ h => h) (by rw [z]; exact hb), fun _ z => absurd z ne, fun _ _ p np => go p _ (same_new np) upd_same⟩
theorem row_len (ns : List Int) : ∀ k, ∀ r ∈ rowsN ns k, r.length = k := fun k => by
  induction k with
  | zero => intro r hr; rw [List.mem_singleton.mp hr]; rfl
  | succ k ih =>
    intro r hr
    obtain ⟨r', hr', h⟩ := List.mem_flatMap.mp hr
    obtain ⟨n, _, rfl⟩ := List.mem_map.mp h
    rw [List.length_append, List.length_singleton, ih r' hr']
section
variable {P : Program} {w : World} {K : PySem.W.Frag} {mg : Str → Option Value} {base : Heap}
def spLawLetters : Sp := fun vs H Q _ => ∃ (many : Nat), vs = [.int (many : Nat)] ∧ many ≤ 2 ∧ ∀ p rs H', Same H H' → H' p = some (.lst rs) → Lets H' rs (lettersOf many) → Q (.ref p) H'
theorem ok_lawLetters {f : Addr} {fd : FuncData} (F : Fun K "_law_letters" "_law_letters" sLawLetters f fd) (mRange : mg "range" = none) (mSum : mg "sum" = none) : FnOk P w K mg base CX0 1 f fd ["many"] spLawLetters := by
  refine F.ok scLawLetters (fun vs H Q E h => ?_) (fun cdv A outer s H vs Q E hr h => ?_)
  · obtain ⟨_, rfl, _⟩ := h
    rfl
  obtain ⟨many, rfl, m2, q⟩ := h
  have nd := scLawLetters.nd
  refine ⟨_, pss_cons (ps_set (i := 1) nd rfl (.inr rfl) (pe_lst (pa_cons (pe_tup pa_nil) pa_nil)))
    (pss_cons (ps_for PassesOwn.never rfl (pi_range1 (by rfl) mRange (pa_cons (pv 0) pa_nil)) (pg_name (i := 2) nd rfl (.inl rfl))
      (pss_one (ps_set (i := 1) nd rfl (.inr rfl) (pe_callB (cr_sumL rfl) (by rfl) mSum (by decide +kernel) (pa_cons (pe_lc (own := [("row", 3)]) (g := gName 3) (tt := tYes) rfl nd (pi_list (pv 1)) (blkOk_by (own := [("row", 3)]) (N := NLL) (sc := defScope sLawLetters) (by decide +kernel)) (fun _ _ _ _ _ => pg_name (i := 3) nd rfl (Or.inl rfl)) (fun _ _ _ _ _ => pts_nil)
        (fun _ _ _ _ _ => pe_lst (pa_cons (pe_op (r := rCatA K) op_catA (pv 3) (pe_tup (pa_cons pe_int pa_nil))) (pa_cons (pe_op (r := rCatA K) op_catA (pv 3) (pe_tup (pa_cons pe_int pa_nil))) pa_nil)))) (pa_cons (pe_lst pa_nil) pa_nil))))))
    (pss_one (ps_ret (pe_callB (cr_sumL rfl) (by rfl) mSum (by decide +kernel) (pa_cons (pe_lc (own := [("start", 4)]) (g := gName 4) (tt := tYes) rfl nd (pi_list (pe_lst (pa_cons pe_int (pa_cons pe_int (pa_cons pe_int pa_nil))))) (blkOk_by (own := [("start", 4)]) (N := NLL) (sc := defScope sLawLetters) (by decide +kernel)) (fun _ _ _ _ _ => pg_name (i := 4) nd rfl (Or.inr rfl)) (fun _ _ _ _ _ => pts_nil)
        (fun _ _ _ _ _ => by
          refine pe_lc (own := [("row", 3)]) (wi := iList K (tVar 1)) (te := tTup (tCons (tVar 4) (tCons (tVar 3) tNil))) (g := gName 3) (tt := tYes) rfl nd ?_ (blkOk_by (own := [("row", 3)]) (N := NLL) (sc := scLL) (by decide +kernel)) ?_ ?_ ?_
          · exact pi_list (pv 1)
          · exact fun _ _ _ _ _ => pg_name (i := 3) nd rfl (Or.inl rfl)
          · exact fun _ _ _ _ _ => pts_nil
          · exact fun _ _ _ _ _ => pe_tup (pa_cons (pv 4) (pa_cons (pv 3) pa_nil)))) (pa_cons (pe_lst pa_nil) pa_nil)))))), ?_⟩
  refine ⟨by decide, fun p0 n0 => ⟨by show 1 ≤ sizeLine; decide, fun r0 nr0 => ?_⟩⟩
  have b0 := same_new n0 (o := .tup [])
  have f0 : L2.upd H p0 (.tup []) p0 = some (.tup []) := upd_same
  generalize L2.upd H p0 (.tup []) = H1 at b0 f0 nr0 ⊢
  have b1 := same_new nr0 (o := .lst [V.ref p0])
  have f1 : L2.upd H1 r0 (.lst [V.ref p0]) r0 = some (.lst [V.ref p0]) := upd_same
  have f01 := b1 _ _ f0
  generalize L2.upd H1 r0 (.lst [V.ref p0]) = H2 at b1 f1 f01 ⊢
  have s02 := b0.trans b1
  refine ⟨_, rfl, (many : Nat), rfl, by omega, by omega, ?_⟩
  refine for_range (lo := 0) (n := ((many : Nat) : Int).toNat) (fun i σ J => ∃ (y : Option V) (a : Addr) (rs : List V), σ = [some (.int (many : Nat)), some (.ref a), y, none, none] ∧ Same H J ∧ J a = some (.lst rs) ∧ Paired (RowV J) rs (rowsN [0, 1] i))
    ⟨none, r0, _, rfl, s02, f1, .cons ⟨p0, rfl, f01⟩ .nil⟩ (fun i σ J hi hP => ?_) fun σ J hP => ?_
  · obtain ⟨y, a, rs, rfl, sJ, ea, tp⟩ := hP
    have lrs : rs.length = (rowsN [0, 1] i).length := Paired.length tp
    have ll : (rowsN [0, 1] i).length ≤ 4 := Nat.le_trans (rows_len [0, 1] (by decide) i) (Nat.le_trans (Nat.pow_le_pow_right (by decide) (show i ≤ 2 by omega)) (by decide))
    refine ⟨_, rfl, a, rfl, ⟨_, SqL.of ea⟩, fun D nD => lc_groups RowV rowV_keep (walk_list (K := K) (a := a) (xs := rs)) ((rowsN [0, 1] i).map fun r => [0, 1].map fun n => r ++ [n]) (by rw [List.length_map, lrs]) (Nat.lt_of_le_of_lt (show rs.length ≤ 4 by omega) (by decide)) nD (fun _ s => SqL.of (s _ _ ea)) (fun _ _ _ _ y => by rw [y.1]; exact fun _ _ h => h) (fun j x J' J2 u hj hu s2 y R' hR => ?_) (fun _ _ _ _ m h => m _ _ h) fun J2 bs yss s2 eD ly parts flat => ?_⟩
    · obtain ⟨rfl, hx⟩ := y
      obtain ⟨row, hrow, ra, rfl, hra⟩ := paired_at tp hx
      rw [List.getElem?_map, hrow] at hu
      injection hu with hu
      subst hu
      have lrow := row_len [0, 1] i row (List.mem_of_getElem? hrow)
      refine ⟨rfl, _, rfl, by show 1 ≤ sizeLine; decide, fun t1 n1 => ?_⟩
      have g1 := same_new n1 (o := .tup [V.int 0])
      have e1 : L2.upd J2 t1 (.tup [V.int 0]) t1 = some (.tup [V.int 0]) := upd_same
      refine catA_by (g1 _ _ (s2 _ _ hra)) e1 (by simp) (by rw [List.length_map]; simp; omega) fun p1 J3 s3 ep1 => ?_
      have s23 := g1.trans s3
      refine ⟨_, rfl, by show 1 ≤ sizeLine; decide, fun t2 n2 => ?_⟩
      have g2 := same_new n2 (o := .tup [V.int 1])
      have e2 : L2.upd J3 t2 (.tup [V.int 1]) t2 = some (.tup [V.int 1]) := upd_same
      refine catA_by (g2 _ _ (s23 _ _ (s2 _ _ hra))) e2 (by simp) (by rw [List.length_map]; simp; omega) fun p2 J4 s4 ep2 => ?_
      have s34 := g2.trans s4
      have s24 := s23.trans s34
      refine ⟨by show 2 ≤ sizeLine; decide, fun li nli => ?_⟩
      have g5 := same_new nli (o := .lst [V.ref p1, .ref p2])
      refine hR li [.ref p1, .ref p2] _ (s24.trans g5) (s24.free nli) upd_same (.cons ⟨p1, rfl, g5 _ _ (s34 _ _ ?_)⟩ (.cons ⟨p2, rfl, g5 _ _ ?_⟩ .nil))
      · rw [List.map_append]
        exact ep1
      · rw [List.map_append]
        exact ep2
    · refine ⟨by decide, fun t nt => nil_read ?_⟩
      have g3 := same_new nt (o := .lst [])
      have e3 : L2.upd J2 t (.lst []) t = some (.lst []) := upd_same
      refine ⟨D, t, bs, yss, rfl, SqL.of (g3 _ _ eD), e3, ly, fun i b y h1 h2 => g3 _ _ (parts i b y h1 h2), ?_, fun p J4 s4 ep => ⟨_, p, yss.flatten, rfl, sJ.trans (s2.trans (g3.trans s4)), ep, ?_⟩⟩
      · rw [Paired.length flat, ← rows_flat]
        exact Nat.le_trans (rows_len [0, 1] (by decide) (i + 1)) (Nat.le_trans (Nat.pow_le_pow_right (by decide) (show i + 1 ≤ 3 by omega)) (by decide))
      · rw [rows_flat]
        exact paired_mono (fun v t h => rowV_keep (tk_same (g3.trans s4)) v t h) flat
  · obtain ⟨y, a, rs, rfl, sJ, ea, tp⟩ := hP
    rw [show ((many : Nat) : Int).toNat = many from Int.toNat_natCast _] at tp
    have lrs : rs.length = (rowsN [0, 1] many).length := Paired.length tp
    have ll : (rowsN [0, 1] many).length ≤ 4 := Nat.le_trans (rows_len [0, 1] (by decide) many) (Nat.le_trans (Nat.pow_le_pow_right (by decide) m2) (by decide))
    refine ⟨by show 3 ≤ sizeLine; decide, fun l3 n3 => ?_⟩
    have g3 := same_new n3 (o := .lst [V.int 0, .int 1, .int 2])
    have e3 : L2.upd J l3 (.lst [V.int 0, .int 1, .int 2]) l3 = some (.lst [V.int 0, .int 1, .int 2]) := upd_same
    have ea3 := g3 _ _ ea
    have tp3 := paired_mono (fun v t h => rowV_keep (tk_same g3) v t h) tp
    generalize L2.upd J l3 (.lst [V.int 0, .int 1, .int 2]) = J3 at g3 e3 ea3 tp3 ⊢
    refine ⟨l3, rfl, ⟨_, SqL.of e3⟩, fun D nD => lc_groups LetV letV_keep (walk_list (K := K) (a := l3) (xs := [V.int 0, .int 1, .int 2])) ((List.range 3).map fun s => (rowsN [0, 1] many).map fun r => (⟨s, r⟩ : Letter)) rfl (by decide) nD (fun _ s => SqL.of (s _ _ e3)) (fun _ _ _ _ y => by rw [y.1]; exact fun _ _ h => h) (fun j x J' J4 u hj hu s4 y R' hR => ?_) (fun _ _ _ _ m h => m _ _ h) fun J4 bs yss s4 eD ly parts flat => ?_⟩
    · obtain ⟨rfl, hx⟩ := y
      have j3 : j < 3 := hj
      have ex : x = .int (j : Nat) := by
        have c : j = 0 ∨ j = 1 ∨ j = 2 := by omega
        rcases c with rfl | rfl | rfl <;> (cases hx; rfl)
      subst ex
      rw [List.getElem?_map, List.getElem?_range j3] at hu
      injection hu with hu
      subst hu
      have ea4 := s4 _ _ ea3
      have tp4 := paired_mono (fun v t h => rowV_keep (tk_same s4) v t h) tp3
      refine ⟨rfl, _, rfl, a, rfl, ⟨_, SqL.of ea4⟩, fun L nL => lc_rel (walk_list (K := K) (a := a) (xs := rs)) (fun i H v => ∃ r, (rowsN [0, 1] many)[i]? = some r ∧ LetV H v ⟨j, r⟩) (fun i H H' v s h => ?_) (Nat.lt_of_le_of_lt (show rs.length ≤ 4 by omega) (by decide)) nL (fun _ s => SqL.of (s _ _ ea4)) (fun _ _ _ _ y => by rw [y.1]; exact fun _ _ h => h) (fun i x J' J5 hi s5 hD y R2 hR2 => ?_) (fun _ _ _ _ m h => m _ _ h) fun J5 acc s5 eL lac pr => ?_⟩
      · obtain ⟨r, hr, h⟩ := h
        exact ⟨r, hr, letV_keep (tk_same s) _ _ h⟩
      · obtain ⟨rfl, hx⟩ := y
        obtain ⟨r, hr, ra, rfl, hra⟩ := paired_at tp4 hx
        refine ⟨rfl, _, rfl, _, rfl, by show 2 ≤ sizeLine; decide, fun t nt => ?_⟩
        have g6 := same_new nt (o := .tup [V.int (j : Nat), .ref ra])
        refine hR2 (.ref t) _ g6 ⟨r, hr, t, ra, rfl, ?_, ?_⟩
        · obtain ⟨acc, eD⟩ := hD
          rw [del_ne (ne_some nt (show J5 L = _ from eD))]
          exact upd_same
        · obtain ⟨acc, eD⟩ := hD
          have e1 := s5 _ _ hra
          rw [del_ne (fun z => by rw [z, eD] at e1; cases e1)]
          exact g6 _ _ e1
      · refine hR L acc J5 s5 nL eL (paired_of _ _ (by rw [lac, List.length_map, lrs]) fun i v b hv hb => ?_)
        obtain ⟨r, hr, h⟩ := pr i v hv
        rw [List.getElem?_map, hr] at hb
        injection hb with hb
        subst hb
        exact letV_keep (tk_same del_le) _ _ h
    · refine ⟨by decide, fun t nt => nil_read ?_⟩
      have g5 := same_new nt (o := .lst [])
      have e5 : L2.upd J4 t (.lst []) t = some (.lst []) := upd_same
      refine ⟨D, t, bs, yss, rfl, SqL.of (g5 _ _ eD), e5, ly, fun i b y h1 h2 => g5 _ _ (parts i b y h1 h2), ?_, fun p J6 s6 ep => q p yss.flatten J6 ((sJ.trans g3).trans (s4.trans (g5.trans s6))) ep ?_⟩
      · rw [Paired.length flat, ← letters_flat]
        have z : (lettersOf many).length ≤ 12 := by
          rw [lettersOf]
          have := flat_len (f := fun s => (rowsN [0, 1] many).map fun r => (⟨s, r⟩ : Letter)) (b := 4) (fun s => by rw [List.length_map]; exact ll) (List.range 3)
          exact this
        exact Nat.le_trans z (by decide)
      · rw [letters_flat]
        exact Lets.keep (tk_same (g5.trans s6)) flat
end
end DQ

set_option Elab.async false
set_option linter.all false
set_option maxRecDepth 100000
set_option maxHeartbeats 2000000
namespace DQ
open PySem PySem.Spec PyProof.Rows L2
abbrev sIsLetter : Stmt := topS 43
abbrev sIsLine : Stmt := topS 44
abbrev NIl : List Str := ["many", "value", "bit"]
theorem scIsLetter : FnScope NIl ["many", "value"] (defScope sIsLetter) := ⟨rfl, rfl, rfl, by decide +kernel, rfl, by decide +kernel, by decide +kernel⟩
abbrev NIn : List Str := ["marks", "value", "letter"]
theorem scIsLine : FnScope NIn ["marks", "value"] (defScope sIsLine) := ⟨rfl, rfl, rfl, by decide +kernel, rfl, by decide +kernel, by decide +kernel⟩
theorem dp_at {K : PySem.W.Frag} {H : Hp} : ∀ {xs : List V} {ds : List PyData} {k : Nat} {v : V}, DpAll K H xs ds → xs[k]? = some v → ∃ d, ds[k]? = some d ∧ Dp K H v d
  | _, _, _, _, .nil, h => by simp at h
  | _, _, 0, _, .cons a r, h => by
    cases h
    exact ⟨_, rfl, a⟩
  | _, _, k + 1, _, .cons a r, h => by
    obtain ⟨d, e, q⟩ := dp_at (k := k) r (by simpa using h)
    exact ⟨d, by simpa using e, q⟩
def bitsD (many : Nat) : PyData → Bool
  | .tuple bs => decide (bs.length = many) && bs.all (betweenD 0 1)
  | _ => false
def letterD (many : Nat) : PyData → Bool
  | .tuple [a, b] => betweenD 0 2 a && bitsD many b
  | _ => false
def headD (ds : List PyData) : Bool := match ds with
  | .tuple (.int i :: _) :: _ => decide (i ≠ 0)
  | _ => true
def lineD (many : Nat) : PyData → Bool
  | .list ds => ds.all (letterD many) && headD ds
  | _ => false
section
variable {P : Program} {w : World} {K : PySem.W.Frag} {mg : Str → Option Value} {base : Heap}
def spIsLetter (K : PySem.W.Frag) : Sp := fun vs H Q _ => ∃ (many : Nat) (v : V) (d : PyData), vs = [.int (many : Nat), v] ∧ many ≤ 10 ∧ Dp K H v d ∧ ∀ H', Same H H' → Q (.bl (letterD many d)) H'
theorem ok_isLetter {f fB : Addr} {fd dB : FuncData} {t1 t2 : Tok} (F : Fun K "is_letter" "is_letter" sIsLetter f fd) (GB : FnOk P w K mg base CX0 2 fB dB ["value", "least", "most"] (spBetween K)) (bB : Binds K dB ["value", "least", "most"] []) (kB : PySem.W.keepIn K (.ref fB) = true) (mB : mg "is_between" = some (.ref fB))
    (mI : mg "isinstance" = none) (mTuple : mg "tuple" = none) (mLen : mg "len" = none) (mAll : mg "all" = none) (mG : mg "GOES_ON" = some (.int 0 t1)) (mR : mg "RING" = some (.int 2 t2)) : FnOk P w K mg base CX0 3 f fd ["many", "value"] (spIsLetter K) := by
  refine F.ok scIsLetter (fun vs H Q E h => ?_) (fun cdv A outer s H vs Q E hr h => ?_)
  · obtain ⟨_, _, _, rfl, _⟩ := h
    rfl
  obtain ⟨many, v, d, rfl, m10, hd, q⟩ := h
  have nd := scIsLetter.nd
  refine ⟨_, pss_cons (ps_if (PW.pt (pw_or (pt_not (pt_val (pe_callB call_isi (by rfl) mI (by decide +kernel) (pa_cons (pv 1) (pa_cons (pe_bltn (v := .ty "tuple") (by rfl) mTuple (by decide +kernel) rfl) pa_nil)))))
      (pw_or (pt_cmpR op_ne (pe_callB call_len_seq (by rfl) mLen PySem.boot_len (pa_cons (pv 1) pa_nil)) pe_int (nomark _)) (pw_or1 (pt_not (pt_val (pe_call GB (hr.mono (by decide)) rfl mB kB bB .nil pass0 (pa_cons (pe_ix (r := rIxT K) ix_tup (pv 1) pe_int (fun _ _ => rfl)) (pa_cons (pe_glob (v := .int 0) (by rfl) mG ⟨_, rfl⟩) (pa_cons (pe_glob (v := .int 2) (by rfl) mR ⟨_, rfl⟩) pa_nil)))))))))) (pss_one (ps_ret pe_bl)) pss_nil)
    (pss_cons (ps_if (PW.pt (pw_or (pt_not (pt_val (pe_callB call_isi (by rfl) mI (by decide +kernel) (pa_cons (pe_ix (r := rIxT K) ix_tup (pv 1) pe_int (fun _ _ => rfl)) (pa_cons (pe_bltn (v := .ty "tuple") (by rfl) mTuple (by decide +kernel) rfl) pa_nil)))))
      (pw_or1 (pt_cmpR op_ne (pe_callB call_len_seq (by rfl) mLen PySem.boot_len (pa_cons (pe_ix (r := rIxT K) ix_tup (pv 1) pe_int (fun _ _ => rfl)) pa_nil)) (pv 0) (nomark _))))) (pss_one (ps_ret pe_bl)) pss_nil)
    (pss_one (ps_ret (pe_callB (cr_all rfl) (by rfl) mAll (by decide +kernel) (pa_cons (pe_lc (own := [("bit", 2)]) (g := gName 2) (tt := tYes) rfl nd (pi_tup (pe_ix (r := rIxT K) ix_tup (pv 1) pe_int (fun _ _ => rfl))) (blkOk_by (own := [("bit", 2)]) (N := NIl) (sc := defScope sIsLetter) (by decide +kernel)) (fun _ _ _ _ _ => pg_name (i := 2) nd rfl (Or.inl rfl)) (fun _ _ _ _ _ => pts_nil)
      (fun _ _ _ _ _ => pe_call GB (hr.mono (by decide)) rfl mB kB bB .nil pass0 (pa_cons (pv 2) (pa_cons pe_int (pa_cons pe_int pa_nil))))) pa_nil))))), ?_⟩
  have s0 : Same H H := fun _ _ h => h
  have ty := dp_ty hd
  refine ⟨_, rfl, v, .ty "tuple", _, _, _, rfl, .ty "tuple", ty, kit_data (by simp) d, _, rfl, ite2 (fun c1 => ?_) fun c1 => ?_⟩
  · have e : letterD many d = false := by
      cases hd with
      | tup hs ha => exact absurd c1 (by simp only [isT, tyN]; decide)
      | _ => rfl
    rw [e] at q
    exact q H s0
  · cases hd with
    | @tup a xs ds hs ha =>
      have len := dpAll_len ha
      refine ⟨_, rfl, a, xs, rfl, .inr hs, rfl, _, rfl, ?_⟩
      by_cases l2 : xs.length = 2
      · obtain ⟨x0, x1, rfl⟩ : ∃ x0 x1, xs = [x0, x1] := by
          match xs, l2 with
          | [x0, x1], _ => exact ⟨x0, x1, rfl⟩
        cases ha with
        | @cons _ _ d0 ds0 h0 ha =>
        cases ha with
        | @cons _ _ d1 ds1 h1 ha =>
        cases ha
        have e : letterD many (.tuple [d0, d1]) = (betweenD 0 2 d0 && bitsD many d1) := rfl
        rw [e] at q
        refine iteF' (by rfl) ?_
        refine ⟨_, rfl, a, _, 0, x0, rfl, rfl, hs, atI_nat (j := 0) rfl, x0, d0, 0, 2, rfl, h0, _, rfl, ite2 (fun c2 => ?_) fun c2 => ?_⟩
        · rw [show betweenD 0 2 d0 = false by simpa using c2, Bool.false_and] at q
          exact q H s0
        rw [show betweenD 0 2 d0 = true by simpa using c2, Bool.true_and] at q
        have ty1 := dp_ty h1
        refine ⟨_, rfl, a, _, 1, x1, rfl, rfl, hs, atI_nat (j := 1) rfl, x1, .ty "tuple", _, _, _, rfl, .ty "tuple", ty1, kit_data (by simp) d1, _, rfl, ite2 (fun c3 => ?_) fun c3 => ?_⟩
        · have e : bitsD many d1 = false := by
            cases h1 with
            | tup hs ha => exact absurd c3 (by simp only [isT, tyN]; decide)
            | _ => rfl
          rw [e] at q
          exact q H s0
        · cases h1 with
          | @tup b ys bs hb hy =>
            have lb := dpAll_len hy
            refine ⟨_, rfl, a, _, 1, .ref b, rfl, rfl, hs, atI_nat (j := 1) rfl, b, ys, rfl, .inr hb, _, rfl, rfl, _, rfl, ?_⟩
            have e : bitsD many (.tuple bs) = (decide (bs.length = many) && bs.all (betweenD 0 1)) := rfl
            rw [e] at q
            refine ite2 (fun c4 => ?_) fun c4 => ?_
            · have ne : bs.length ≠ many := fun z => by
                rw [lb, z] at c4
                simp at c4
              rw [decide_eq_false ne, Bool.false_and] at q
              exact q H s0
            · have eq : bs.length = many := by
                rw [lb] at c4
                have c4 : ((bs.length : Nat) : Int) = (many : Int) := by simpa using c4
                omega
              rw [decide_eq_true eq, Bool.true_and] at q
              refine ⟨_, rfl, a, _, 1, .ref b, rfl, rfl, hs, atI_nat (j := 1) rfl, b, rfl, ⟨_, hb⟩, fun D nD => lc_bools (walk_tup (K := K) (a := b) (xs := ys)) (bs.map (betweenD 0 1)) (by rw [List.length_map, lb]) (Nat.lt_of_le_of_lt (show ys.length ≤ 10 by omega) (by decide)) nD (fun _ s2 => DQ.Same.seqT s2 hb) (fun _ _ _ _ y => by rw [y.1]; exact fun _ _ h => h)
                (fun i v' H2 H3 b' hi hb' s2 y R hR => ?_) (fun H2 s2 e2 => ?_) (fun _ _ _ _ _ m h => m _ _ h)⟩
              · obtain ⟨rfl, hv⟩ := y
                obtain ⟨di, hdi, dpi⟩ := dp_at hy hv
                rw [List.getElem?_map, hdi] at hb'
                cases hb'
                exact ⟨rfl, _, rfl, v', di, 0, 1, rfl, dp_same s2 _ _ dpi, hR _ fun _ _ h => h⟩
              · refine ⟨D, _, rfl, SqL.of e2, ?_⟩
                rw [List.all_map]
                exact q H2 s2
          | _ => exact absurd rfl c3
      · have e : letterD many (.tuple ds) = false := by
          match ds, len with
          | [], _ => rfl
          | [_], _ => rfl
          | [_, _], h => exact absurd h (by intro h; exact l2 (by simpa using h))
          | _ :: _ :: _ :: _, _ => rfl
        rw [e] at q
        refine iteT' ?_ (q H s0)
        simp
        omega
    | _ => exact absurd rfl c1
def spIsLine (K : PySem.W.Frag) : Sp := fun vs H Q _ => ∃ (a : Addr) (ms : List Str) (v : V) (d : PyData), vs = [.ref a, v] ∧ SqL K H a (ms.map V.str) ∧ MarksOk ms ∧ Dp K H v d ∧ (∀ ds, d = .list ds → ds.length ≤ 10000) ∧ ∀ H', Same H H' → Q (.bl (lineD ms.length d)) H'
theorem ok_isLine {f fL fM : Addr} {fd dL dM : FuncData} {t1 : Tok} (F : Fun K "is_line" "is_line" sIsLine f fd) (GL : FnOk P w K mg base CX0 3 fL dL ["many", "value"] (spIsLetter K)) (bL : Binds K dL ["many", "value"] []) (kL : PySem.W.keepIn K (.ref fL) = true) (mL : mg "is_letter" = some (.ref fL))
    (GM : FnOk P w K mg base (L2.CX P w) 4 fM dM ["marks"] (spLM K)) (bM : Binds K dM ["marks"] []) (kM : PySem.W.keepIn K (.ref fM) = true) (mM : mg "check_line_marks" = some (.ref fM))
    (mI : mg "isinstance" = none) (mList : mg "list" = none) (mLen : mg "len" = none) (mAll : mg "all" = none) (mG : mg "GOES_ON" = some (.int 0 t1)) : FnOk P w K mg base (L2.CX P w) 5 f fd ["marks", "value"] (spIsLine K) := by
  refine F.okX scIsLine (fun vs H Q E h => ?_) (fun cdv A outer s H vs Q E hr h => ?_)
  · obtain ⟨_, _, _, _, rfl, _⟩ := h
    rfl
  obtain ⟨a, ms, v, d, rfl, sq, ok, hd, few, q⟩ := h
  have nd := scIsLine.nd
  refine ⟨_, pss_cons (ps_expr (pe_callS GM (hr.mono (by decide)) rfl mM kM bM (fun σ => passAt (takes_of rfl rfl rfl rfl) σ) (pa_cons (pv 0) pa_nil)))
    (pss_cons (ps_if (PW.pt (pw_or (pt_not (pt_val (pe_callB call_isi (by rfl) mI (by decide +kernel) (pa_cons (pv 1) (pa_cons (pe_bltn (v := .ty "list") (by rfl) mList (by decide +kernel) rfl) pa_nil)))))
      (pw_or1 (pt_not (pt_val (pe_callB (cr_all rfl) (by rfl) mAll (by decide +kernel) (pa_cons (pe_lc (own := [("letter", 2)]) (g := gName 2) (tt := tYes) rfl nd (pi_list (pv 1)) (blkOk_by (own := [("letter", 2)]) (N := NIn) (sc := defScope sIsLine) (by decide +kernel)) (fun _ _ _ _ _ => pg_name (i := 2) nd rfl (Or.inl rfl)) (fun _ _ _ _ _ => pts_nil)
      (fun _ _ _ _ _ => pe_call GL (hr.mono (by decide)) rfl mL kL bL .nil pass0 (pa_cons (pe_callB (r := rLenS K) call_len_seq (by rfl) mLen PySem.boot_len (pa_cons (pv 0) pa_nil)) (pa_cons (pv 2) pa_nil)))) pa_nil))))))) (pss_one (ps_ret pe_bl)) pss_nil)
    (pss_one (ps_ret (pe_or (pe_cmpR op_eq (pe_callB call_len_seq (by rfl) mLen PySem.boot_len (pa_cons (pv 1) pa_nil)) pe_int (by rfl)) (pe_one (pe_cmpR op_ne (pe_ix (r := rIxT K) ix_tup (pe_ix (r := rIxL K) ix_list (pv 1) pe_int (fun _ _ => rfl)) pe_int (fun _ _ => rfl)) (pe_glob (v := .int 0) (by rfl) mG ⟨_, rfl⟩) (by rfl))))))), ?_⟩
  refine ⟨_, rfl, a, ms, rfl, sq, ok, fun H1 s1 => ?_⟩
  obtain ⟨_, _, _, l2, _, _⟩ := marks_facts ok
  have sq1 : SqL K H1 a (ms.map V.str) := L2.Same.seq s1 sq
  have hd1 := dp_same s1 _ _ hd
  clear hd
  have ty := dp_ty hd1
  refine ⟨_, rfl, v, .ty "list", _, _, _, rfl, .ty "list", ty, kit_data (by simp) d, _, rfl, ite2 (fun c1 => ?_) fun c1 => ?_⟩
  · have e : lineD ms.length d = false := by
      cases hd1 with
      | lst hs ha => exact absurd c1 (by simp only [isT, tyN]; decide)
      | _ => rfl
    rw [e] at q
    exact q H1 s1
  cases hd1 with
  | @lst b xs ds hs ha =>
    have len := dpAll_len ha
    have l1 := few ds rfl
    refine ⟨_, rfl, b, rfl, ⟨_, hs⟩, fun D nD => lc_bools (walk_list (K := K) (a := b) (xs := xs)) (ds.map (letterD ms.length)) (by rw [List.length_map, len]) (Nat.lt_of_le_of_lt (show xs.length ≤ 10000 by omega) (by decide)) nD (fun _ s2 => L2.Same.seq s2 hs) (fun _ _ _ _ y => by rw [y.1]; exact fun _ _ h => h)
      (fun i v' H2 H3 b' hi hb s2 y R hR => ?_) (fun H2 s2 e2 => ?_) (fun _ _ _ _ _ m h => m _ _ h)⟩
    · obtain ⟨rfl, hv⟩ := y
      obtain ⟨di, hdi, dpi⟩ := dp_at ha hv
      rw [List.getElem?_map, hdi] at hb
      cases hb
      refine ⟨rfl, _, rfl, a, _, rfl, .inl (L2.Same.seq s2 sq1), _, rfl, nil_read ⟨ms.length, v', di, by rw [List.length_map]; rfl, by omega, dp_same s2 _ _ dpi, fun H4 s4 => hR _ s4⟩⟩
    · refine ⟨D, _, rfl, SqL.of e2, ?_⟩
      rw [List.all_map]
      have q := q H2 (s1.trans s2)
      have eL : lineD ms.length (.list ds) = (ds.all (letterD ms.length) && headD ds) := rfl
      rw [eL] at q
      refine ⟨_, rfl, ite2 (fun c2 => ?_) fun c2 => ?_⟩
      · rw [show ds.all (letterD ms.length) = false by simpa using c2, Bool.false_and] at q
        exact q
      have c2 : ds.all (letterD ms.length) = true := by simpa using c2
      rw [c2, Bool.true_and] at q
      have hs2 := L2.Same.seq s2 hs
      cases ha with
      | nil =>
        refine ⟨_, rfl, b, _, rfl, .inl hs2, rfl, true, rfl, iteT' rfl q⟩
      | @cons x0 xs d0 ds h0 hr0 =>
        refine ⟨_, rfl, b, _, rfl, .inl hs2, rfl, false, by simp; omega, iteF' rfl ?_⟩
        rw [List.all_cons, Bool.and_eq_true] at c2
        obtain ⟨c3, _⟩ := c2
        cases h0 with
        | @tup t ys ts ht hy =>
          cases hy with
          | nil => cases c3
          | @cons y0 ys e0 ts hy0 hyr =>
            cases hyr with
            | nil => cases c3
            | @cons y1 ys e1 ts hy1 hyr =>
              cases hyr with
              | nil =>
                cases hy0 with
                | int i =>
                  refine ⟨_, rfl, b, _, 0, .ref t, rfl, rfl, hs2, atI_nat (j := 0) rfl, t, _, 0, .int i, rfl, rfl, DQ.Same.seqT s2 ht, atI_nat (j := 0) rfl, rfl, ?_⟩
                  have e : headD (.tuple [.int i, e1] :: ds) = decide (i ≠ 0) := rfl
                  rw [e] at q
                  show Q (V.bl (!decide (V.int i = V.int 0))) H2
                  rw [show (!decide (V.int i = V.int 0)) = decide (i ≠ 0) by simp]
                  exact q
                | _ => cases c3
              | cons => cases c3
        | _ => cases c3
  | _ => exact absurd rfl c1
end
end DQ

set_option Elab.async false
set_option linter.all false
set_option maxRecDepth 100000
set_option maxHeartbeats 2000000
namespace DQ
open PySem
open PySem.Sem (wp)
/-! ### zip of two sources of any kind -/
def Kp (cs : List Addr) (h h' : Heap) : Prop := ∀ c o, c ∉ cs → h.get? c = some o → h'.get? c = some o
theorem Kp.trans {cs : List Addr} {h h' h2 : Heap} (a : Kp cs h h') (b : Kp cs h' h2) : Kp cs h h2 := fun c o n e => b c o n (a c o n e)
theorem kp_one {cs : List Addr} {a : Addr} {h h' : Heap} (e : Heap.ExtBut a h h') (m : a ∈ cs) : Kp cs h h' := fun c o n q => e c o (fun z => n (z ▸ m)) q
/-- what stands behind the iterator i over l: it gives the items one by one -/
structure Feed (prog : Program) (w : World) (i l : Addr) (its : Array Value) (St : Nat → Heap → Prop) : Prop where
  keep : ∀ k h h', St k h → (∀ c o, c = i ∨ c = l → h.get? c = some o → h'.get? c = some o) → St k h'
  item : ∀ {A : Around} {E : Value → Shared → Prop} {k : Nat} {s : Shared} {x : Value} {Q : Value → Shared → Prop}, St k s.heap → its[k]? = some x → (∀ h', St (k + 1) h' → Heap.SameBut i s.heap h' → Q x { s with heap := h' }) → wpAny (model prog w) A (Builtin.SmallTypes.nextOf (.ref i)) Q E s
  done : ∀ {A : Around} {E : Value → Shared → Prop} {k : Nat} {s : Shared} {Q : Value → Shared → Prop}, A.handled = none → St k s.heap → its[k]? = none → (∀ h' e, Heap.ExtBut i s.heap h' → (∃ o, h'.get? e = some o ∧ o.cls = .type "StopIteration") → E (.ref e) { s with heap := h' }) → wpAny (model prog w) A (Builtin.SmallTypes.nextOf (.ref i)) Q E s
variable {prog : Program} {w : World}
theorem feed_list {i l : Addr} {its : Array Value} (ne : l ≠ i) : Feed prog w i l its fun k h => h.IsListIter i l k ∧ h.IsList l its :=
  ⟨fun k h h' st kp => ⟨st.1.at fun o e => kp i o (.inl rfl) e, st.2.at fun o e => kp l o (.inr rfl) e⟩,
    fun st hx go => wpAny_nextOf_list_item st.1 st.2 hx fun h' a b => go h' ⟨a, st.2.extBut b.extBut ne⟩ b,
    fun hh st hx go => wpAny_nextOf_list_end hh st.1 st.2 hx go⟩
theorem feed_tup {i l : Addr} {its : Array Value} (ne : l ≠ i) : Feed prog w i l its fun k h => h.IsTupleIter i l k ∧ h.IsTuple l its :=
  ⟨fun k h h' st kp => ⟨st.1.at fun o e => kp i o (.inl rfl) e, st.2.at fun o e => kp l o (.inr rfl) e⟩,
    fun st hx go => RZ.nextOf_tuple_item st.1 st.2 hx fun h' a b => go h' ⟨a, st.2.extBut b.extBut ne⟩ b,
    fun hh st hx go => RZ.nextOf_tuple_end hh st.1 st.2 hx go⟩
section
variable {A : Around} {E : Value → Shared → Prop} {s : Shared} {z TI TO i1 i2 l1 l2 : Addr} {k1 k2 : Nat} {xs ys : Array Value} {S1 S2 : Nat → Heap → Prop} {a b : Value}
theorem zipG_item {x y : Value} {Q : Value → Shared → Prop} (D : ZipApart z TI TO i1 i2 l1 l2) (W1 : Feed prog w i1 l1 xs S1) (W2 : Feed prog w i2 l2 ys S2)
    (hz : IsZip s.heap z TI TO .none) (hTI : IsPair s.heap TI (.ref i1) (.ref i2)) (hTO : IsPair s.heap TO a b) (st1 : S1 k1 s.heap) (st2 : S2 k2 s.heap) (hx : xs[k1]? = some x) (hy : ys[k2]? = some y)
    (hQ : ∀ h', IsZip h' z TI TO (rawInt s.heap.objs.size) → IsPair h' TO x y → S1 (k1 + 1) h' → S2 (k2 + 1) h' → IsPair h' s.heap.objs.size x y → h'.objs.size = s.heap.objs.size + 1 → Kp [z, TO, i1, i2] s.heap h' → Q (.ref s.heap.objs.size) { s with heap := h' }) :
    wpAny (model prog w) A (Builtin.«zip.__next__» ⟨[.ref z], []⟩) (fun fin s' => ∃ v, fin = .done (.ret v) ∧ Q v s') E s := by
  have m1 : z ∈ [z, TO, i1, i2] := by simp
  have m2 : TO ∈ [z, TO, i1, i2] := by simp
  have m3 : i1 ∈ [z, TO, i1, i2] := by simp
  have m4 : i2 ∈ [z, TO, i1, i2] := by simp
  refine wpAny_bind (m := field (.ref z) 2) (wpAny_field hz rfl (x := .bool false) rfl (wpAny_bind (m := field (.ref z) 3) (wpAny_field hz rfl (x := .ref TI) rfl (wpAny_bind (wpAny_seqItems hTI rfl (wpAny_bind (m := Builtin.SmallTypes.ownedTupleIsFree (.ref z)) ?_))))))
  unfold Builtin.SmallTypes.ownedTupleIsFree
  refine wpAny_bind (wpAny_field hz rfl (x := .none) rfl (wpAny_pure ?_))
  simp only [if_true]
  refine wpAny_bind (wpAny_rule (wpAny_bind (wpAny_field hz rfl (x := .ref TO) rfl (wpAny_bind (wpAny_setField_rec hz (by simp) fun g1 zg1 sb1 => ?_)))))
  have zg1 : IsZip g1 z TI TO .ellipsis := zg1
  refine wpAny_bind ?_
  simp only [List.zipIdx_cons, List.zipIdx_nil, List.forIn_cons, List.forIn_nil]
  have t1 := W1.keep _ _ g1 st1 fun c o q e => sb1.extBut c o (by rcases q with q | q <;> rw [q]; exact D.i1z; exact D.l1z) e
  have t2 := W2.keep _ _ g1 st2 fun c o q e => sb1.extBut c o (by rcases q with q | q <;> rw [q]; exact D.i2z; exact D.l2z) e
  have O1 : IsPair g1 TO a b := sb1.extBut _ _ D.TOz hTO
  refine wpAny_bind (wpAny_bind (wpAny_onRaise (wpAny_bind (m := Builtin.SmallTypes.nextOf (.ref i1)) (W1.item (s := { s with heap := g1 }) t1 hx fun g2 t1 sb2 => wpAny_pure ?_))))
  have O2 : IsPair g2 TO a b := sb2.extBut _ _ D.TOi1 O1
  have t2 := W2.keep _ _ g2 t2 fun c o q e => sb2.extBut c o (by rcases q with q | q <;> rw [q]; exact D.i12.symm; exact D.l2i1) e
  refine wpAny_bind (wpAny_seqItems O2 rfl (wpAny_bind (wpAny_updateSeq_pair O2 fun g3 O3 sb3 => ?_)))
  have O3 : IsPair g3 TO x b := O3
  have t1 := W1.keep _ _ g3 t1 fun c o q e => sb3.extBut c o (by rcases q with q | q <;> rw [q]; exact D.TOi1.symm; exact D.l1TO) e
  have t2 := W2.keep _ _ g3 t2 fun c o q e => sb3.extBut c o (by rcases q with q | q <;> rw [q]; exact D.TOi2.symm; exact D.l2TO) e
  refine wpAny_bind (wpAny_letGo (wpAny_pure (wpAny_bind (wpAny_bind (wpAny_onRaise (wpAny_bind (m := Builtin.SmallTypes.nextOf (.ref i2)) (W2.item (s := { s with heap := g3 }) t2 hy fun g4 t2 sb4 => wpAny_pure ?_)))))))
  have O4 : IsPair g4 TO x b := sb4.extBut _ _ D.TOi2 O3
  have t1 := W1.keep _ _ g4 t1 fun c o q e => sb4.extBut c o (by rcases q with q | q <;> rw [q]; exact D.i12; exact D.l1i2) e
  refine wpAny_bind (wpAny_seqItems O4 rfl (wpAny_bind (wpAny_updateSeq_pair O4 fun g5 O5 sb5 => ?_)))
  have O5 : IsPair g5 TO x y := O5
  have t1 := W1.keep _ _ g5 t1 fun c o q e => sb5.extBut c o (by rcases q with q | q <;> rw [q]; exact D.TOi1.symm; exact D.l1TO) e
  have t2 := W2.keep _ _ g5 t2 fun c o q e => sb5.extBut c o (by rcases q with q | q <;> rw [q]; exact D.TOi2.symm; exact D.l2TO) e
  refine wpAny_bind (wpAny_letGo (wpAny_pure (wpAny_pure (wpAny_bind (wpAny_seqItems O5 rfl (wpAny_bind (wpAny_newTuple (wpAny_bind (m := Builtin.SmallTypes.ownedTupleHandOut (.ref z) (.ref g5.objs.size)) ?_))))))))
  have size : g5.objs.size = s.heap.objs.size := by rw [sb5.1, sb4.1, sb3.1, sb2.1, sb1.1]
  have kp5 : Kp [z, TO, i1, i2] s.heap g5 := (kp_one sb1.extBut m1).trans ((kp_one sb2.extBut m3).trans ((kp_one sb3.extBut m2).trans ((kp_one sb4.extBut m4).trans (kp_one sb5.extBut m2))))
  have zg5 : IsZip g5 z TI TO .ellipsis := sb5.extBut _ _ D.TOz.symm (sb4.extBut _ _ D.i2z.symm (sb3.extBut _ _ D.TOz.symm (sb2.extBut _ _ D.i1z.symm zg1)))
  have zl : z < g5.objs.size := Heap.lt_size zg5
  unfold Builtin.SmallTypes.ownedTupleHandOut
  have zg6 : IsZip (g5.push { cls := .type "tuple", data := .seq #[x, y] }) z TI TO .ellipsis := Heap.get?_push_of_some _ zg5
  refine wpAny_bind (wpAny_setField_rec zg6 (by simp) fun g7 zg7 sb7 => ?_)
  have zg7 : IsZip g7 z TI TO (rawInt g5.objs.size) := zg7
  refine wpAny_setField_rec zg7 (by simp) fun g8 zg8 sb8 => ?_
  have zg8 : IsZip g8 z TI TO (rawInt g5.objs.size) := zg8
  have up : ∀ c o, c ≠ z → g5.get? c = some o → g8.get? c = some o := fun c o n e => sb8.extBut _ _ n (sb7.extBut _ _ n (Heap.get?_push_of_some _ e))
  have new : IsPair g8 g5.objs.size x y := sb8.extBut _ _ (Nat.ne_of_gt zl) (sb7.extBut _ _ (Nat.ne_of_gt zl) (Heap.get?_push_size _ rfl))
  have size8 : g8.objs.size = g5.objs.size + 1 := by rw [sb8.1, sb7.1, Heap.size_push]
  have t1 := W1.keep _ _ g8 t1 fun c o q e => up c o (by rcases q with q | q <;> rw [q]; exact D.i1z; exact D.l1z) e
  have t2 := W2.keep _ _ g8 t2 fun c o q e => up c o (by rcases q with q | q <;> rw [q]; exact D.i2z; exact D.l2z) e
  rw [size] at zg8 new size8
  refine wpAny_pure ⟨_, rfl, ?_⟩
  rw [size]
  exact hQ g8 zg8 (up _ _ D.TOz O5) t1 t2 new size8 fun c o n e => up c o (fun q => n (q ▸ m1)) (kp5 c o n e)
theorem zipG_end {Q : Fin → Shared → Prop} (hh : A.handled = none) (D : ZipApart z TI TO i1 i2 l1 l2) (W1 : Feed prog w i1 l1 xs S1) (W2 : Feed prog w i2 l2 ys S2)
    (hz : IsZip s.heap z TI TO .none) (hTI : IsPair s.heap TI (.ref i1) (.ref i2)) (hTO : IsPair s.heap TO a b) (st1 : S1 k1 s.heap) (st2 : S2 k2 s.heap) (over : xs[k1]? = none ∨ ys[k2]? = none)
    (hE : ∀ h' e, Kp [z, TO, i1, i2] s.heap h' → (∃ o, h'.get? e = some o ∧ o.cls = .type "StopIteration") → E (.ref e) { s with heap := h' }) : wpAny (model prog w) A (Builtin.«zip.__next__» ⟨[.ref z], []⟩) Q E s := by
  have m1 : z ∈ [z, TO, i1, i2] := by simp
  have m2 : TO ∈ [z, TO, i1, i2] := by simp
  have m3 : i1 ∈ [z, TO, i1, i2] := by simp
  have m4 : i2 ∈ [z, TO, i1, i2] := by simp
  refine wpAny_bind (m := field (.ref z) 2) (wpAny_field hz rfl (x := .bool false) rfl (wpAny_bind (m := field (.ref z) 3) (wpAny_field hz rfl (x := .ref TI) rfl (wpAny_bind (wpAny_seqItems hTI rfl (wpAny_bind (m := Builtin.SmallTypes.ownedTupleIsFree (.ref z)) ?_))))))
  unfold Builtin.SmallTypes.ownedTupleIsFree
  refine wpAny_bind (wpAny_field hz rfl (x := .none) rfl (wpAny_pure ?_))
  simp only [if_true]
  refine wpAny_bind (wpAny_rule (wpAny_bind (wpAny_field hz rfl (x := .ref TO) rfl (wpAny_bind (wpAny_setField_rec hz (by simp) fun g1 zg1 sb1 => ?_)))))
  have zg1 : IsZip g1 z TI TO .ellipsis := zg1
  refine wpAny_bind ?_
  simp only [List.zipIdx_cons, List.zipIdx_nil, List.forIn_cons, List.forIn_nil]
  have t1 := W1.keep _ _ g1 st1 fun c o q e => sb1.extBut c o (by rcases q with q | q <;> rw [q]; exact D.i1z; exact D.l1z) e
  have t2 := W2.keep _ _ g1 st2 fun c o q e => sb1.extBut c o (by rcases q with q | q <;> rw [q]; exact D.i2z; exact D.l2z) e
  have O1 : IsPair g1 TO a b := sb1.extBut _ _ D.TOz hTO
  have last : ∀ (g : Heap) (e : Addr), IsZip g z TI TO .ellipsis → Kp [z, TO, i1, i2] s.heap g → (∃ o, g.get? e = some o ∧ o.cls = .type "StopIteration") → ∀ g2, Heap.SameBut z g g2 → E (.ref e) { s with heap := g2 } := fun g e zg kp st g2 sb => by
    obtain ⟨o, ho, hc⟩ := st
    have ne : e ≠ z := fun q => by
      rw [q, zg] at ho
      injection ho with ho
      rw [← ho] at hc
      simp at hc
    exact hE g2 e (kp.trans (kp_one sb.extBut m1)) ⟨o, sb.extBut _ _ ne ho, hc⟩
  refine wpAny_bind (wpAny_bind (wpAny_onRaise (wpAny_bind (m := Builtin.SmallTypes.nextOf (.ref i1)) ?_)))
  cases hx : xs[k1]? with
  | none =>
    refine W1.done (s := { s with heap := g1 }) hh t1 hx fun g2 e ex so => ?_
    have zg2 : IsZip g2 z TI TO .ellipsis := ex _ _ D.i1z.symm zg1
    exact wpAny_setField_rec zg2 (by simp) fun g3 _ sb3 => last g2 e zg2 ((kp_one sb1.extBut m1).trans (kp_one ex m3)) so g3 sb3
  | some x =>
    have hy : ys[k2]? = none := over.resolve_left fun q => by rw [hx] at q; cases q
    refine W1.item (s := { s with heap := g1 }) t1 hx fun g2 t1 sb2 => wpAny_pure ?_
    have O2 : IsPair g2 TO a b := sb2.extBut _ _ D.TOi1 O1
    have t2 := W2.keep _ _ g2 t2 fun c o q e => sb2.extBut c o (by rcases q with q | q <;> rw [q]; exact D.i12.symm; exact D.l2i1) e
    refine wpAny_bind (wpAny_seqItems O2 rfl (wpAny_bind (wpAny_updateSeq_pair O2 fun g3 O3 sb3 => ?_)))
    have t2 := W2.keep _ _ g3 t2 fun c o q e => sb3.extBut c o (by rcases q with q | q <;> rw [q]; exact D.TOi2.symm; exact D.l2TO) e
    refine wpAny_bind (wpAny_letGo (wpAny_pure (wpAny_bind (wpAny_bind (wpAny_onRaise (wpAny_bind (m := Builtin.SmallTypes.nextOf (.ref i2)) ?_))))))
    refine W2.done (s := { s with heap := g3 }) hh t2 hy fun g4 e ex so => ?_
    have zg4 : IsZip g4 z TI TO .ellipsis := ex _ _ D.i2z.symm (sb3.extBut _ _ D.TOz.symm (sb2.extBut _ _ D.i1z.symm zg1))
    exact wpAny_setField_rec zg4 (by simp) fun g5 _ sb5 => last g4 e zg4 ((kp_one sb1.extBut m1).trans ((kp_one sb2.extBut m3).trans ((kp_one sb3.extBut m2).trans (kp_one ex m4)))) so g5 sb5
end
end DQ

set_option Elab.async false
set_option linter.all false
set_option maxRecDepth 100000
set_option maxHeartbeats 2000000
namespace DQ
open PySem PySem.Spec PyProof.Rows L2
/-! ### zip of a list with a tuple, as a source of turns -/
section
variable {prog : Program} {w : World} {A : Around} {E : Value → Shared → Prop} {s : Shared} {z TI TO i1 i2 l1 l2 : Addr} {k1 k2 : Nat} {xs ys : Array Value} {S1 S2 : Nat → Heap → Prop} {a b : Value}
theorem nextG_item {x y : Value} {Q : Option Value → Shared → Prop} (D : ZipApart z TI TO i1 i2 l1 l2) (W1 : Feed prog w i1 l1 xs S1) (W2 : Feed prog w i2 l2 ys S2)
    (hz : IsZip s.heap z TI TO .none) (hTI : IsPair s.heap TI (.ref i1) (.ref i2)) (hTO : IsPair s.heap TO a b) (st1 : S1 k1 s.heap) (st2 : S2 k2 s.heap) (hx : xs[k1]? = some x) (hy : ys[k2]? = some y)
    (hQ : ∀ h', IsZip h' z TI TO (rawInt s.heap.objs.size) → IsPair h' TO x y → S1 (k1 + 1) h' → S2 (k2 + 1) h' → IsPair h' s.heap.objs.size x y → h'.objs.size = s.heap.objs.size + 1 → Kp [z, TO, i1, i2] s.heap h' → Q (some (.ref s.heap.objs.size)) { s with heap := h' }) : wpAny (model prog w) A (pyNext (.ref z)) Q E s := by
  have ty : s.TypeIs (.ref z) "zip" := ⟨_, hz, rfl⟩
  unfold pyNext
  exact wpAny_bind (wpAny_attempt (wpAny_callSpecial?_slot (name := Str.ofString "__next__") ty F.slot_zip_next (wpAny_call_entry F.slot_zip_next ty F.entry_zip_next (zipG_item D W1 W2 hz hTI hTO st1 st2 hx hy fun h' q1 q2 q3 q4 q5 q6 q7 => wpAny_pure (hQ h' q1 q2 q3 q4 q5 q6 q7)) (F.args_zip_next_1 _))))
theorem nextG_end {Q : Option Value → Shared → Prop} (hh : A.handled = none) (D : ZipApart z TI TO i1 i2 l1 l2) (W1 : Feed prog w i1 l1 xs S1) (W2 : Feed prog w i2 l2 ys S2)
    (hz : IsZip s.heap z TI TO .none) (hTI : IsPair s.heap TI (.ref i1) (.ref i2)) (hTO : IsPair s.heap TO a b) (st1 : S1 k1 s.heap) (st2 : S2 k2 s.heap) (over : xs[k1]? = none ∨ ys[k2]? = none)
    (hQ : ∀ h', Kp [z, TO, i1, i2] s.heap h' → Q none { s with heap := h' }) : wpAny (model prog w) A (pyNext (.ref z)) Q E s := by
  have ty : s.TypeIs (.ref z) "zip" := ⟨_, hz, rfl⟩
  unfold pyNext
  refine wpAny_bind (wpAny_attempt (wpAny_callSpecial?_slot (name := Str.ofString "__next__") ty F.slot_zip_next (wpAny_call_entry F.slot_zip_next ty F.entry_zip_next (zipG_end hh D W1 W2 hz hTI hTO st1 st2 over fun h' e kp he => ?_) (F.args_zip_next_1 _))))
  obtain ⟨o, ho, hc⟩ := he
  exact wpAny_bind (wpAny_isInstance (T := "StopIteration") (b := true) ⟨o, ho, hc⟩ isSubtype_stop (wpAny_pure (hQ _ kp)))
/-- the five objects of a new zip -/
abbrev zmA (h : Heap) (a : Addr) : Heap := h.push { cls := .type "list_iterator", data := .fields #[.ref a, .int 0 0] }
abbrev zmB (h : Heap) (a b : Addr) : Heap := (zmA h a).push { cls := .type "tuple_iterator", data := .fields #[.ref b, .int 0 0] }
abbrev zmC (h : Heap) (a b : Addr) : Heap := (zmB h a b).push { cls := .type "tuple", data := .seq #[.ref h.objs.size, .ref (zmA h a).objs.size] }
abbrev zmD (h : Heap) (a b : Addr) : Heap := (zmC h a b).push { cls := .type "tuple", data := .seq #[.none, .none] }
abbrev zmE (h : Heap) (a b : Addr) : Heap := (zmD h a b).push { cls := .type "zip", data := .fields #[.none, .bool false, .bool false, .ref (zmB h a b).objs.size, .ref (zmC h a b).objs.size] }
theorem zm_new (p q : Addr) (xs ys : Array Value) : Meets (Builtin.«zip.__new__» ⟨[.type "zip", .ref p, .ref q], []⟩) (fun _ R s => s.heap.IsList p xs ∧ s.heap.IsTuple q ys ∧ R (.ok (.ret (.ref (zmD s.heap p q).objs.size))) { s with heap := zmE s.heap p q }) :=
  .of_wp fun prog w A R s h => by
    obtain ⟨hp, g, d, tk, os⟩ := s
    obtain ⟨f1, f2, h⟩ := h
    have sb := sub_zip
    have g1 : Heap.IsList (Shared.heap ⟨hp, g, d, tk, os⟩) p xs := f1
    have g2 : Heap.IsTuple (Shared.heap ⟨hp.push { cls := .type "list_iterator", data := .fields #[.ref p, .int 0 0] }, g, d, tk, os⟩) q ys := Heap.IsTuple.push f2 _
    wp_walk using wpAny_pyIter_list g1, wpAny_pyIter_tuple g2
    exact ⟨_, rfl, h⟩
theorem zm_size (h : Heap) (p q : Addr) : (zmA h p).objs.size = h.objs.size + 1 ∧ (zmB h p q).objs.size = h.objs.size + 2 ∧ (zmC h p q).objs.size = h.objs.size + 3 ∧ (zmD h p q).objs.size = h.objs.size + 4 := by
  have q1 : (zmA h p).objs.size = h.objs.size + 1 := Heap.size_push ..
  have q2 : (zmB h p q).objs.size = (zmA h p).objs.size + 1 := Heap.size_push ..
  have q3 : (zmC h p q).objs.size = (zmB h p q).objs.size + 1 := Heap.size_push ..
  have q4 : (zmD h p q).objs.size = (zmC h p q).objs.size + 1 := Heap.size_push ..
  omega
theorem call_zipM {p q : Addr} {Q : Value → Shared → Prop} (hp : s.heap.IsList p xs) (hq : s.heap.IsTuple q ys)
    (go : ∀ h', IsZip h' (s.heap.objs.size + 4) (s.heap.objs.size + 2) (s.heap.objs.size + 3) .none → IsPair h' (s.heap.objs.size + 2) (.ref s.heap.objs.size) (.ref (s.heap.objs.size + 1)) → IsPair h' (s.heap.objs.size + 3) .none .none →
      h'.IsListIter s.heap.objs.size p 0 → h'.IsTupleIter (s.heap.objs.size + 1) q 0 → (∀ c o, s.heap.get? c = some o → h'.get? c = some o) → Q (.ref (s.heap.objs.size + 4)) { s with heap := h' }) : wpAny (model prog w) A (call (.type "zip") [.ref p, .ref q]) Q E s := by
  refine callType_new F.called_zip (by decide) (F.typeCall_zip_2 _ _) (F.newCall_zip_2 _ _) (fun obj => F.args_object_init_3 obj _ _) F.entry_zip_new (zm_new p q xs ys) ⟨hp, hq, ?_⟩
  obtain ⟨q1, q2, q3, q4⟩ := zm_size s.heap p q
  have up : ∀ {h : Heap} {c : Addr} {o o2 : Obj}, h.get? c = some o → (h.push o2).get? c = some o := fun e => Heap.get?_push_of_some _ e
  have e5 : (zmE s.heap p q).get? (zmD s.heap p q).objs.size = some _ := Heap.get?_push_size _ rfl
  have e4 : (zmE s.heap p q).get? (zmC s.heap p q).objs.size = some _ := up (Heap.get?_push_size _ rfl)
  have e3 : (zmE s.heap p q).get? (zmB s.heap p q).objs.size = some _ := up (up (Heap.get?_push_size _ rfl))
  have e2 : (zmE s.heap p q).get? (zmA s.heap p).objs.size = some _ := up (up (up (Heap.get?_push_size _ rfl)))
  have e1 : (zmE s.heap p q).get? s.heap.objs.size = some _ := up (up (up (up (Heap.get?_push_size _ rfl))))
  show _ ∧ _
  rw [q2, q3, q4] at e5
  rw [q3] at e4
  rw [q1, q2] at e3
  rw [q1] at e2
  rw [q4]
  exact ⟨⟨_, e5, rfl⟩, go _ e5 e3 e4 ⟨_, e1, rfl, rfl⟩ ⟨_, e2, rfl, rfl⟩ fun c o e => up (up (up (up (up e))))⟩
end
/-- the list at a and the tuple at b -/
def ItM (K : PySem.W.Frag) (a b : Addr) : It :=
  ⟨fun i H => ∃ (xs ys : List V) (x y : V), SqL K H a xs ∧ SqT K H b ys ∧ xs[i]? = some x ∧ ys[i]? = some y,
    fun i H v H' => ∃ T x y, v = .ref T ∧ H T = none ∧ H' = upd H T (.tup [x, y]) ∧ (∀ xs, SqL K H a xs → xs[i]? = some x) ∧ ∀ ys, SqT K H b ys → ys[i]? = some y,
    fun i H => ∃ xs ys : List V, SqL K H a xs ∧ SqT K H b ys ∧ (xs.length ≤ i ∨ ys.length ≤ i)⟩
theorem walk_zipM {K : PySem.W.Frag} {a b : Addr} {xs ys : List V} {n : Nat} (h1 : xs.length = n) (h2 : ys.length = n) : Walk (ItM K a b) n (fun H => SqL K H a xs ∧ SqT K H b ys) (YPair (fun i => xs[i]?) (fun i => ys[i]?)) :=
  ⟨fun i _ hi q => ⟨xs, ys, xs[i]'(by omega), ys[i]'(by omega), q.1, q.2, List.getElem?_eq_getElem _, List.getElem?_eq_getElem _⟩, fun _ q => ⟨xs, ys, q.1, q.2, .inl (Nat.le_of_eq h1)⟩, fun i H v H' _ q y => by
    obtain ⟨T, x, y, e, f, g, fx, fy⟩ := y
    exact ⟨T, x, y, e, f, g, fx xs q.1, fy ys q.2⟩⟩
def five (n : Addr) : List Addr := [n + 4, n + 2, n + 3, n, n + 1]
theorem turn_zipM {P : Program} {w : World} {K : PySem.W.Frag} {elts : List Expr} {kk : Nat} {tpos : Pos} {a b z TI TO i1 i2 : Addr} (D : ZipApart z TI TO i1 i2 a b) :
    Turn P w K (.Tuple elts kk tpos) (ItM K a b) [z, TI, TO, i1, i2] z (fun i h => IsZip h z TI TO .none ∧ IsPair h TI (.ref i1) (.ref i2) ∧ (∃ x y, IsPair h TO x y) ∧ h.IsListIter i1 a i ∧ h.IsTupleIter i2 b i) where
  mem := List.mem_cons_self
  obj := fun i h ⟨hz, hI, ⟨x, y, hO⟩, ⟨o1, g1, _, d1⟩, ⟨o2, g2, _, d2⟩⟩ c hc => by
    have no : ∀ {o : Obj} {fs : Array Value}, o.data = .fields fs → ∀ v, o.data ≠ .cell v := fun d v q => by rw [d] at q; cases q
    simp only [List.mem_cons, List.not_mem_nil, or_false] at hc
    rcases hc with rfl | rfl | rfl | rfl | rfl
    · exact ⟨_, hz, fun v q => nomatch q⟩
    · exact ⟨_, hI, fun v q => nomatch q⟩
    · exact ⟨_, hO, fun v q => nomatch q⟩
    · exact ⟨o1, g1, no d1⟩
    · exact ⟨o2, g2, no d2⟩
  keep := fun i h h' ⟨hz, hI, ⟨x, y, hO⟩, s1, s2⟩ k => ⟨k z (by simp) _ hz, k TI (by simp) _ hI, ⟨x, y, k TO (by simp) _ hO⟩, s1.at fun o q => k i1 (by simp) o q, s2.at fun o q => k i2 (by simp) o q⟩
  item := by
    intro X hP hw hK hc i pins σ' σ H E I hf st hg
    subst hP hw hK
    obtain ⟨hz, hI, ⟨_, _, hO⟩, s1, s2⟩ := st
    obtain ⟨xs, ys, x, y, qx, qy, hx, hy⟩ := hg
    obtain ⟨us, r1, p1, _⟩ := I.list qx
    obtain ⟨vs, r2, p2, _⟩ := I.tuple qy
    obtain ⟨u, hu, ru⟩ := r1.get hx
    obtain ⟨v, hv, rv⟩ := r2.get hy
    have zl := Heap.lt_size hz
    refine nextG_item D (feed_list D.l1i1) (feed_tup D.l2i2) hz hI hO ⟨s1, p1.isList⟩ ⟨s2, p2⟩ (x := u) (y := v) (by simpa using hu) (by simpa using hv) fun h' zz OO t1 t2 new _ kp => ⟨_, rfl, ?_⟩
    refine wpAny_letOwnedTupleGo_zip (s := { σ' with heap := h' }) zz fun h2 z2 sb => ?_
    have kp2 : ∀ c o, c ∉ [z, TI, TO, i1, i2] → σ'.heap.get? c = some o → h2.get? c = some o := fun c o n e => by
      simp only [List.mem_cons, List.not_mem_nil, or_false, not_or] at n
      exact (sb.2 c n.1).trans (kp c o (by simp [n]) e)
    have ok : ObjOk X.prog X.w (upd H σ'.heap.objs.size (.tup [x, y])) h2 σ'.heap.objs.size (.tup [x, y]) := ⟨by show 2 ≤ sizeLine; decide, [u, v], .cons ru (.cons rv .nil), ⟨_, (sb.2 _ (Nat.ne_of_gt zl)).trans new, rfl, _, rfl⟩⟩
    have I1 : Inv X pins σ (upd H σ'.heap.objs.size (.tup [x, y])) { σ' with heap := h2 } := I.turnedNew (t' := σ'.toks) (ch := [z, TI, TO, i1, i2]) kp2 hf (Nat.le_refl _) ok
    refine ⟨.ref σ'.heap.objs.size, _, I1, rfl, ⟨_, x, y, rfl, I.hok.fresh (Nat.le_refl _), rfl, fun l hl => by rw [I.list_inj hl qx]; exact hx, fun l hl => by rw [I.tuple_inj hl qy]; exact hy⟩, ⟨z2, (sb.2 _ D.TIz).trans (kp _ _ (by simp [D.TIz, D.TITO, D.TIi1, D.TIi2]) hI), ⟨u, v, (sb.2 _ D.TOz).trans OO⟩, t1.1.at fun o q => (sb.2 _ D.i1z).trans q, t2.1.at fun o q => (sb.2 _ D.i2z).trans q⟩, fun c hcm => ?_⟩
    have cl : c < σ'.heap.objs.size := by
      simp only [List.mem_cons, List.not_mem_nil, or_false] at hcm
      obtain ⟨_, w1, _⟩ := s1
      obtain ⟨_, w2, _⟩ := s2
      rcases hcm with rfl | rfl | rfl | rfl | rfl
      · exact zl
      · exact Heap.lt_size hI
      · exact Heap.lt_size hO
      · exact Heap.lt_size w1
      · exact Heap.lt_size w2
    rw [upd_ne (Nat.ne_of_lt cl)]
    exact (hf c hcm).1
  done := by
    intro X hP hw hK hc i pins σ' σ H E I hf st hg
    subst hP hw hK
    obtain ⟨hz, hI, ⟨_, _, hO⟩, s1, s2⟩ := st
    obtain ⟨xs, ys, qx, qy, over⟩ := hg
    obtain ⟨us, r1, p1, _⟩ := I.list qx
    obtain ⟨vs, r2, p2, _⟩ := I.tuple qy
    have n1 := r1.length
    have n2 := r2.length
    refine nextG_end (I.ok.hd hc) D (feed_list D.l1i1) (feed_tup D.l2i2) hz hI hO ⟨s1, p1.isList⟩ ⟨s2, p2⟩ (over.imp (fun q => by simp; omega) fun q => by simp; omega) fun h' kp => ⟨rfl, I.turnedL (t' := σ'.toks) (ch := [z, TI, TO, i1, i2]) (fun c o n e => kp c o (fun m => n ?_) e) hf⟩
    simp only [List.mem_cons, List.not_mem_nil, or_false] at m ⊢
    rcases m with m | m | m | m <;> simp [m]
  self := fun A i s Q E st h => wpAny_pyIter_zip st.1 h
def iZipM (K : PySem.W.Frag) (ta : TA) : TI := fun σ H R => ta σ H fun vs H1 => ∃ a b xs ys, vs = [.ref a, .ref b] ∧ SqL K H1 a xs ∧ SqT K H1 b ys ∧ R (ItM K a b) H1
theorem pi_zipM {X : Cx} {e e2 : Expr} {ta : TA} {p pos tpos : Pos} {elts : List Expr} {kk : Nat} (hg : Gl X "zip") (hm : X.mg "zip" = none) (ha : PA X [e, e2] ta)
    (hs : starEach [e, e2] X.env = (false, eval e X.env) :: starEach [e2] X.env := by rfl) (hpl : (backTo pos (starEach [e2] X.env)).any (·.1) = false := by rfl) : PI X (.Tuple elts kk tpos) (.Call (.Name "zip" p) [e, e2] [] pos) (iZipM X.K ta) := by
  refine ⟨fun pins s σ H R I h => Call_ (ld_blt I hg hm PyProof.Rows.boot_zip (PyProof.Rows.callWith_type1 (thn (ha.run pos pins s σ H _ I h) fun us s1 ⟨vs, H1, I1, r1, q1⟩ => ?_) hs hpl))⟩
  obtain ⟨a, b, xs, ys, rfl, qx, qy, q⟩ := q1
  obtain ⟨u1, u2, rfl, ra, rb⟩ : ∃ u1 u2, us = [u1, u2] ∧ RelV (.ref a) u1 ∧ RelV (.ref b) u2 := by
    cases r1 with
    | cons r rr =>
      cases rr with
      | cons r' rr =>
        cases rr
        exact ⟨_, _, rfl, r, r'⟩
  cases ra
  cases rb
  obtain ⟨its, v1, p1, _⟩ := I1.list qx
  obtain ⟨its2, v2, p2, _⟩ := I1.tuple qy
  obtain ⟨_, o2, _⟩ := id p2
  refine call_zipM p1.isList (show s1.heap.IsTuple b its2.toArray from p2) fun h' hz hI hO t1 t2 up => wpAny_pyIter_zip hz ⟨_, five s1.heap.objs.size, _, _, H1, rfl, I1.kept (t' := s1.toks) up, turn_zipM (PySem.W.ktu_apart s1.heap.objs.size a b p1.lt (Heap.lt_size o2)), ⟨hz, hI, ⟨_, _, hO⟩, t1, t2⟩, fun c hc => ?_, q⟩
  have le : s1.heap.objs.size ≤ c := by
    simp only [five, List.mem_cons, List.not_mem_nil, or_false] at hc
    rcases hc with rfl | rfl | rfl | rfl | rfl
    · exact Nat.le_add_right _ _
    · exact Nat.le_add_right _ _
    · exact Nat.le_add_right _ _
    · exact Nat.le_refl _
    · exact Nat.le_add_right _ _
  exact I1.fpOk le (I1.hok.fresh le)
end DQ

set_option Elab.async false
set_option linter.all false
set_option maxRecDepth 100000
set_option maxHeartbeats 1000000
namespace DQ
open PySem PySem.Spec PyProof.Rows L2
/-! ### sorted(d.values()), whole numbers -/
def tSortedVals (te : TE) : TE := fun σ H Q => te σ H fun x H1 => ∃ (d : Addr) (kvs : List (Key × V)) (ns : List Int), x = .ref d ∧ H1 d = some (.dK kvs) ∧ kvs.map (·.2) = ns.map V.int ∧ ns.length < 64 ∧
  ∀ (ys : List Int) (p : Addr), ys.Perm ns → ys.Pairwise (· ≤ ·) → H1 p = none → Q (.ref p) (upd H1 p (.lst (ys.map V.int)))
section
variable {X : Cx} {e : Expr} {te : TE} {p apos pos cpos : Pos}
theorem pe_sortedVals (hc : X.calm = true) (he : PE X e te) (hg : Gl X "sorted") (hm : X.mg "sorted" = none) (bootS : bootBuiltins "sorted" = some (.builtin "sorted")) (hbase : attributeBase e "values" X.env (eval e X.env) = eval e X.env := by rfl) (hline : (apos.endLine == cpos.line) = true := by rfl)
    (hs : starEach [.Call (.Attribute e "values" apos) [] [] cpos] X.env = (false, eval (.Call (.Attribute e "values" apos) [] [] cpos) X.env) :: starEach [] X.env := by rfl) :
    PE X (.Call (.Name "sorted" p) [.Call (.Attribute e "values" apos) [] [] cpos] [] pos) (tSortedVals te) := by
  refine ⟨fun pins s σ H Q I hq => ?_⟩
  refine wpAny_Call_Name_kw (ld_blt I hg hm bootS (PyProof.Rows.callWith_builtin1 ?_ hs rfl))
  rw [hs]
  show wpAny _ _ (spliced ((false, eval (.Call (.Attribute e "values" apos) [] [] cpos) X.env) :: backTo pos (starEach [] X.env))) _ _ s
  refine Calls.spliced_cons ?_
  refine wpAny_Call_method (T := "dict") (id := "dict.values") hbase rfl hline F.plainAttrs_dict F.slot_dict_values F.type_dict_values (thn (he.run pins s σ H _ I hq) fun u s1 ⟨x, H1, I1, relX, d, kvs, ns, eX, eD, eNs, lt64, q⟩ => ?_)
  subst eX
  obtain rfl : u = Value.ref d := relX
  obtain ⟨szk, lowk, ws, pks, dicO⟩ := I1.hok d _ eD
  obtain ⟨ep, dAt⟩ := dicO.dictAt
  have lenk : kvs.length = ws.length := Paired.length pks
  have lenn : kvs.length = ns.length := by
    have e := congrArg List.length eNs
    rw [List.length_map, List.length_map] at e
    exact e
  have lim16 : ws.length ≤ sizeLine := by rw [← lenk, lenn, sizeLine_eq]; omega
  have J2 : Inv X pins σ H1 { s1 with heap := s1.heap.push { cls := .type "dict_values", data := .fields #[.ref d] } } := I1.kept (t' := s1.toks) fun b ob q => Heap.get?_push_of_some _ q
  refine ⟨dicO.typeIs, dicO.mapOf.noDict, ?_⟩
  show wpAny _ _ (callWith cpos (.builtin "dict.values") [.ref d] [] []) _ X.xe s1
  refine method_meetsIn F.slot_dict_values F.entry_dict_values rfl (PySem.evalArgs_none ⟨rfl, dicO.typeIs, F.args_dict_values_1 _, _, meets_dict_values (mixKind X.prog X.w) d lowk, ⟨ws, dicO⟩, ?_⟩)
  refine Calls.spliced_nil ?_
  refine Calls.call_function_entry kind_sorted plain_sorted entry_sorted (args_sorted1 _) ?_
  unfold Builtin.«sorted»
  refine wpAny_bind (wpAny_pure (show _ from ?_))
  refine wpAny_bind (PySem.W.kdu_collect (A := X.A.in1) (PySem.W.kdl_values (knd := mixKind X.prog X.w) (kvs := ws) (ep := ep)) (I1.ok.hd hc) ⟨⟨_, Heap.get?_push_size _ rfl, rfl, rfl⟩, dAt.push _⟩ lim16 fun h' tok2 got keptH itemsA => ?_)
  have lenA : got.toList.length = ns.length := by rw [Array.length_toList, itemsA.1, ← lenk, lenn]
  have areI : IntsAre got.toList ns := ints_each lenA fun j v e => by
    obtain ⟨k, hky⟩ := itemsA.2 j v (by rw [← Array.getElem?_toList]; exact e)
    obtain ⟨y, e1, e2⟩ := KV.at' pks hky
    have e3 : (kvs.map (·.2))[j]? = some y := by rw [List.getElem?_map, e1]; rfl
    rw [eNs, List.getElem?_map] at e3
    obtain ⟨i, hi, rfl⟩ := Option.map_eq_some_iff.mp e3
    obtain ⟨t, ev⟩ := e2
    exact ⟨i, t, hi, ev⟩
  have J3 : Inv X pins σ H1 { s1 with heap := h', toks := tok2 } := J2.kept keptH
  refine wpAny_bind (wpAny_newList ?_ (by rw [lenA, sizeLine_eq]; omega))
  have atL : (h'.push (seqObj "list" got.toList.toArray 0)).get? h'.objs.size = some (seqObj "list" got.toList.toArray 0) := Heap.get?_push_size _ rfl
  show wpAny _ _ _ _ _ { s1 with heap := h'.push (seqObj "list" got.toList.toArray 0), toks := tok2 }
  refine wpAny_bind (wpAny_holding (wpAny_call_entry PyProof.Rows.slot_list_sort ⟨_, atL, rfl⟩ PyProof.Rows.entry_list_sort
    (PyProof.Rows.list_sort_tree (s := { s1 with heap := h'.push (seqObj "list" got.toList.toArray 0), toks := tok2 }) atL areI (by rw [lenA]; exact lt64) fun out out2 o1 o2 o3 => ⟨_, rfl, ?_⟩) (PyProof.Rows.args_list_sort _)))
  obtain ⟨k', gl'⟩ := PyProof.Rows.sortedHeap_at (vs := got.toList) (out := out) atL
  have lenY : (out2.map V.int).length ≤ sizeLine := by
    rw [List.length_map, o2.length_eq]
    exact Nat.le_trans (Nat.le_of_lt lt64) (by decide)
  refine wpAny_pure ⟨_, rfl, .ref h'.objs.size, upd H1 h'.objs.size (.lst (out2.map V.int)), J3.laid (t' := tok2) (fun b u e => ?_) (Nat.le_refl _)
    (show ObjOk X.prog X.w _ _ _ (.lst (out2.map V.int)) from ⟨lenY, out.toList, k', vals_of_ints o1, by rw [Array.toArray_toList]; exact gl'⟩), rfl, q out2 _ o2 o3 (J3.hok.fresh (Nat.le_refl _))⟩
  have ltb : b < h'.objs.size := Heap.lt_size e
  rw [PyProof.Rows.sortedHeap_old (Nat.ne_of_lt ltb) (by rw [size_push']; exact Nat.lt_succ_of_lt ltb)]
  exact Heap.get?_push_of_some _ e
end
end DQ

set_option Elab.async false
set_option linter.all false
set_option maxRecDepth 100000
set_option maxHeartbeats 2000000
namespace DQ
open PySem PySem.Spec PyProof.Rows L2
abbrev sLinks : Stmt := topS 47
abbrev NLk : List Str := ["column", "line", "found", "first", "number", "start", "_", "ends"]
theorem scLinks : FnScope NLk ["column", "line"] (defScope sLinks) := ⟨rfl, rfl, rfl, by decide +kernel, rfl, by decide +kernel, by decide +kernel⟩
theorem sAt_of {l : Line} {k : Nat} {x : Letter} (h : l[k]? = some x) : sAt l k = x.s := by
  unfold sAt
  rw [h]
  rfl
theorem bitsAt_of {l : Line} {k : Nat} {x : Letter} (h : l[k]? = some x) : bitsAt l k = x.bits := by
  unfold bitsAt
  rw [h]
  rfl
theorem rg_ints (n : Nat) : rgV 0 (n : Nat) = ((List.range n).map fun k : Nat => (k : Int)).map V.int := by
  unfold rgV
  rw [List.map_map, show (((n : Nat) : Int) - 0).toNat = n by omega]
  refine List.map_congr_left fun k _ => ?_
  show V.int (0 + (k : Nat)) = V.int (k : Nat)
  rw [Int.zero_add]
/-- the letter at k, as it stands -/
theorem lets_at {H : Hp} {rs : List V} {l : Line} {k : Nat} (h : Lets H rs l) (hk : k < l.length) : ∃ t b x, l[k]? = some x ∧ rs[k]? = some (.ref t) ∧ H t = some (.tup [.int (x.s : Nat), .ref b]) ∧ H b = some (.tup (x.bits.map V.int)) := by
  have lr : rs.length = l.length := Paired.length h
  have e : rs[k]? = some (rs[k]'(by omega)) := List.getElem?_eq_getElem _
  obtain ⟨x, hx, t, b, ev, h1, h2⟩ := paired_at h e
  exact ⟨t, b, x, hx, by rw [e, ev], h1, h2⟩
theorem range_flat {α : Type} (f : Nat → List α) (k : Nat) : (List.range (k + 1)).flatMap f = (List.range k).flatMap f ++ f k := by
  rw [List.range_succ, List.flatMap_append, List.flatMap_singleton]
section
variable {P : Program} {w : World} {K : PySem.W.Frag} {mg : Str → Option Value} {base : Heap}
def spLinks (K : PySem.W.Frag) : Sp := fun vs H Q _ => ∃ (c : Str) (a : Addr) (rs : List V) (many : Nat) (l : Line), vs = [.str c, .ref a] ∧ SqL K H a rs ∧ Lets H rs l ∧ IsLine many l ∧ l.length ≤ 2000 ∧ ∀ p ps H', Same H H' → H' p = some (.lst ps) → Tups H' ps (((List.range l.length).flatMap (linkFs c l)).map Fact.v) → Q (.ref p) H'
theorem ok_links {f : Addr} {fd : FuncData} {t1 t2 : Tok} (F : Fun K "links_of_line" "links_of_line" sLinks f fd) (mEnum : mg "enumerate" = none) (mLen : mg "len" = none) (mG : mg "GOES_ON" = some (.int 0 t1)) (mR : mg "RING" = some (.int 2 t2)) : FnOk P w K mg base CX0 1 f fd ["column", "line"] (spLinks K) := by
  refine F.ok scLinks (fun vs H Q E h => ?_) (fun cdv A outer s H vs Q E hr h => ?_)
  · obtain ⟨_, _, _, _, _, rfl, _⟩ := h
    rfl
  obtain ⟨c, a, rs, many, l, rfl, sq, lt, IL, few, q⟩ := h
  have nd := scLinks.nd
  have lr : rs.length = l.length := Paired.length lt
  refine ⟨_, pss_cons (ps_set (i := 2) nd rfl (.inl rfl) (pe_lst pa_nil))
    (pss_cons (ps_set (i := 3) nd rfl (.inl rfl) pe_int)
    (pss_cons (ps_for PassesOwn.never rfl (pi_enum (by rfl) mEnum (pa_cons (pv 1) pa_nil)) (pg_tup rfl (pgs_cons (pg_name (i := 4) nd rfl (.inl rfl)) (pgs_cons (pg_tup rfl (pgs_cons (pg_name (i := 5) nd rfl (.inl rfl)) (pgs_cons (pg_name (i := 6) nd rfl (.inl rfl)) pgs_nil))) pgs_nil)))
      (pss_cons (ps_if (pt_cmpR op_eq (pv 5) (pe_glob (v := .int 0) (by rfl) mG ⟨_, rfl⟩) (nomark _))
          (pss_one (ps_expr (pe_bm PySem.F.plainAttrs_list PySem.F.slot_list_append PySem.F.type_list_append mt_append (pv 2) (pa_cons (pe_tup (pa_cons pe_str (pa_cons (pv 0) (pa_cons (pe_op op_sub (pv 4) pe_int) (pa_cons (pv 4) pa_nil))))) pa_nil))))
          (pss_one (ps_set (i := 3) nd rfl (.inl rfl) (pv 4))))
      (pss_cons (ps_set (i := 7) nd rfl (.inl rfl) (pe_or (pe_cmpR op_eq (pe_op op_add (pv 4) pe_int) (pe_callB call_len_seq (by rfl) mLen PySem.boot_len (pa_cons (pv 1) pa_nil)) (by rfl)) (pe_one (pe_cmpR op_ne (pe_ix (r := rIxT K) ix_tup (pe_ix (r := rIxL K) ix_list (pv 1) (pe_op op_add (pv 4) pe_int) (fun _ _ => rfl)) pe_int (fun _ _ => rfl)) (pe_glob (v := .int 0) (by rfl) mG ⟨_, rfl⟩) (by rfl)))))
      (pss_one (ps_if (PW.pt (pw_and (pt_val (pv 7)) (pw_and1 (pt_cmpR op_eq (pe_ix (r := rIxT K) ix_tup (pe_ix (r := rIxL K) ix_list (pv 1) (pv 3) (fun _ _ => rfl)) pe_int (fun _ _ => rfl)) (pe_glob (v := .int 2) (by rfl) mR ⟨_, rfl⟩) (nomark _)))))
          (pss_one (ps_expr (pe_bm PySem.F.plainAttrs_list PySem.F.slot_list_append PySem.F.type_list_append mt_append (pv 2) (pa_cons (pe_tup (pa_cons pe_str (pa_cons (pv 0) (pa_cons (pv 4) (pa_cons (pv 3) pa_nil))))) pa_nil)))) pss_nil)))))
    (pss_one (ps_ret (pv 2))))), ?_⟩
  refine ⟨by decide, fun pF nF => ?_⟩
  have g0 := same_new nF (o := .lst [])
  have f0 : L2.upd H pF (.lst []) pF = some (.lst []) := upd_same
  generalize L2.upd H pF (.lst []) = H0 at g0 f0 ⊢
  refine ⟨_, rfl, a, rs, rfl, L2.Same.seq g0 sq, for_it (walk_enum (K := K) (a := a) (xs := rs)) (fun k σ J => ∃ y4 y5 y6 y7, σ = [some (.str c), some (.ref a), some (.ref pF), some (.int (beginTo l k : Nat)), y4, y5, y6, y7] ∧ Same H J ∧ ∃ ps, J pF = some (.lst ps) ∧ ps.length ≤ 2 * k ∧ Tups J ps (((List.range k).flatMap (linkFs c l)).map Fact.v))
    ⟨none, none, none, none, rfl, g0, [], f0, Nat.zero_le _, .nil⟩ (fun k σ J _ ⟨_, _, _, _, _, sJ, _⟩ => L2.Same.seq sJ sq) (fun k x σ J J' hk hP y => ?_) fun σ J hP => ?_⟩
  · obtain ⟨y4, y5, y6, y7, rfl, sJ, ps, eF, lps, tp⟩ := hP
    obtain ⟨T, x1, y1, rfl, nT, rfl, hx1, hy1⟩ := y
    obtain rfl : V.int (k : Nat) = x1 := by injection hx1
    rw [lr] at hk
    obtain ⟨lt1, lb, x, hx, hv, h1, h2⟩ := lets_at (lt.keep (tk_same sJ)) hk
    rw [show rs[k]? = some y1 from hy1] at hv
    injection hv with hv
    subst hv
    have g1 := same_new nT (o := .tup [.int (k : Nat), .ref lt1])
    have f1 : L2.upd J T (.tup [.int (k : Nat), .ref lt1]) T = some (.tup [.int (k : Nat), .ref lt1]) := upd_same
    generalize L2.upd J T (.tup [.int (k : Nat), .ref lt1]) = J1 at g1 f1 ⊢
    have sx := sAt_of hx
    have sJ1 := sJ.trans g1
    have eF1 := g1 _ _ eF
    have tp1 := tp.keep (tk_same g1)
    have bn : beginTo l (k + 1) = if 0 < sAt l k then k else beginTo l k := rfl
    refine ⟨T, [.int (k : Nat), .ref lt1], rfl, .inl (.inl f1), rfl, .int (k : Nat), [.ref lt1], rfl, .ref lt1, [], rfl, ⟨lt1, [.int (x.s : Nat), .ref lb], rfl, .inl (.inl (g1 _ _ h1)), rfl, .int (x.s : Nat), [.ref lb], rfl, .ref lb, [], rfl, rfl, rfl, ?_⟩⟩
    refine try_cut (fun σ' J' => σ' = [some (.str c), some (.ref a), some (.ref pF), some (.int (beginTo l (k + 1) : Nat)), some (.int (k : Nat)), some (.int (x.s : Nat)), some (.ref lb), y7] ∧ Same H J' ∧ ∃ ps, J' pF = some (.lst ps) ∧ ps.length ≤ 2 * k + 1 ∧ Tups J' ps (((List.range k).flatMap (linkFs c l) ++ (if sAt l k = 0 then [Fact.link c (k - 1 : Nat) k] else [])).map Fact.v)) (fun D' go => ?_) fun σ' J' hP2 => ?_
    · by_cases z : x.s = 0
      · have zk : sAt l k = 0 := sx.trans z
        have kp := zero_pos IL hk zk
        rw [if_neg (by omega)] at bn
        refine ⟨_, rfl, rfl, true, by rw [z]; rfl, iteT' rfl ?_⟩
        refine ⟨_, rfl, .inl ⟨rfl, _, SqL.of eF1⟩, _, rfl, _, rfl, _, _, rfl, rfl, _, rfl, by show 4 ≤ sizeLine; decide, fun qn nq => ?_⟩
        have e0 : (k : Int) - 1 = ((k - 1 : Nat) : Int) := by omega
        rw [show ([V.str "link", V.str c, (fun i j : Int => V.int (i - j)) (k : Nat) 1, V.int (k : Nat)] : List V) = (Fact.link c (k - 1 : Nat) k).v by show [V.str "link", V.str c, V.int ((k : Int) - 1), V.int (k : Nat)] = _; rw [e0]; rfl]
        have g2 := same_new nq (o := .tup (Fact.link c (k - 1 : Nat) k).v)
        have f2 : L2.upd J1 qn (.tup (Fact.link c (k - 1 : Nat) k).v) qn = some (.tup (Fact.link c (k - 1 : Nat) k).v) := upd_same
        have eF2 := g2 _ _ eF1
        have s2 := sJ1.trans g2
        have tp2 := tp1.keep (tk_same g2)
        refine ⟨pF, ps, .ref qn, rfl, rfl, eF2, Nat.lt_of_le_of_lt (show ps.length ≤ 4000 by omega) (by decide), go _ _ ⟨by rw [bn]; rfl, same_upd s2 nF, _, upd_same, by rw [List.length_append, List.length_singleton]; omega, ?_⟩⟩
        rw [if_pos zk, List.map_append]
        exact (Tups.put f2 tp2).keep (tk_lst eF2)
      · have zk : 0 < sAt l k := by omega
        rw [if_pos zk] at bn
        refine ⟨_, rfl, rfl, false, by simpa using z, iteF' rfl ?_⟩
        refine ⟨_, rfl, go _ _ ⟨by rw [bn]; rfl, sJ1, ps, eF1, by omega, ?_⟩⟩
        rw [if_neg (by omega), List.append_nil]
        exact tp1
    · obtain ⟨rfl, s2, ps2, eF2, lps2, tp2⟩ := hP2
      have le := IL
      refine seq_te (fun v J2 => v = .bl (endsB l k) ∧ J2 = J') (fun R hR => ?_) fun v J2 hv2 => ?_
      · by_cases e1 : k + 1 = l.length
        · refine ⟨_, rfl, _, _, rfl, rfl, _, rfl, a, _, rfl, .inl (L2.Same.seq s2 sq), rfl, true, by simp; omega, iteT' rfl (hR _ _ ⟨?_, rfl⟩)⟩
          unfold endsB
          rw [decide_eq_true e1, Bool.true_or]
        · refine ⟨_, rfl, _, _, rfl, rfl, _, rfl, a, _, rfl, .inl (L2.Same.seq s2 sq), rfl, false, by simp; omega, iteF' rfl ?_⟩
          obtain ⟨lt2, lb2, x2, hx2, hv2, h12, h22⟩ := lets_at (lt.keep (tk_same s2)) (show k + 1 < l.length by omega)
          refine ⟨_, rfl, _, rfl, _, _, rfl, rfl, a, _, ((k + 1 : Nat) : Int), .ref lt2, rfl, rfl, L2.Same.seq s2 sq, atI_nat hv2, lt2, _, 0, .int (x2.s : Nat), rfl, rfl, .inl (.inl h12), atI_nat (j := 0) rfl, rfl, hR _ _ ⟨?_, rfl⟩⟩
          unfold endsB
          rw [decide_eq_false e1, Bool.false_or, sAt_of hx2]
          by_cases z2 : x2.s = 0
          · rw [z2]
            rfl
          · rw [decide_eq_true (show 0 < x2.s by omega), decide_eq_false (show ¬ (V.int (x2.s : Nat) = V.int 0) from fun e => z2 (by injection e with e; omega))]
            rfl
      · obtain ⟨rfl, rfl⟩ := hv2
        have hb1 : beginTo l (k + 1) < l.length := by have := begin_le l k; omega
        obtain ⟨lt3, lb3, x3, hx3, hv3, h13, h23⟩ := lets_at (lt.keep (tk_same s2)) hb1
        have sx3 := sAt_of hx3
        have lf : linkFs c l k = (if sAt l k = 0 then [Fact.link c (k - 1 : Nat) k] else []) ++ (if endsB l k = true ∧ sAt l (beginTo l (k + 1)) = 2 then [Fact.link c k (beginTo l (k + 1) : Nat)] else []) := by
          unfold linkFs linkP
          rw [List.map_append]
          congr 1 <;> split <;> rfl
        have done_ : ∀ J3 ps3, Same H J3 → J3 pF = some (.lst ps3) → ps3.length ≤ 2 * (k + 1) → Tups J3 ps3 ((((List.range k).flatMap (linkFs c l) ++ (if sAt l k = 0 then [Fact.link c (k - 1 : Nat) k] else [])) ++ (if endsB l k = true ∧ sAt l (beginTo l (k + 1)) = 2 then [Fact.link c k (beginTo l (k + 1) : Nat)] else [])).map Fact.v) → _ := fun J3 ps3 a1 a2 a3 a4 => (⟨_, _, _, _, rfl, a1, ps3, a2, a3, by rw [range_flat, lf, ← List.append_assoc]; exact a4⟩ : ∃ y4 y5 y6 y7, ([some (.str c), some (.ref a), some (.ref pF), some (.int (beginTo l (k + 1) : Nat)), some (.int (k : Nat)), some (.int (x.s : Nat)), some (.ref lb), some (.bl (endsB l k))] : L2.St) = [some (.str c), some (.ref a), some (.ref pF), some (.int (beginTo l (k + 1) : Nat)), y4, y5, y6, y7] ∧ Same H J3 ∧ ∃ ps, J3 pF = some (.lst ps) ∧ ps.length ≤ 2 * (k + 1) ∧ Tups J3 ps (((List.range (k + 1)).flatMap (linkFs c l)).map Fact.v))
        by_cases e1 : endsB l k = true
        · refine ⟨_, rfl, true, by rw [e1], iteT' rfl ?_⟩
          by_cases e2 : x3.s = 2
          · refine ⟨_, rfl, _, rfl, a, _, _, .ref lt3, rfl, rfl, L2.Same.seq s2 sq, atI_nat hv3, lt3, _, 0, .int (x3.s : Nat), rfl, rfl, .inl (.inl h13), atI_nat (j := 0) rfl, rfl, true, by rw [e2]; rfl, iteT' rfl ?_⟩
            refine ⟨_, rfl, .inl ⟨rfl, _, SqL.of eF2⟩, _, rfl, _, rfl, _, rfl, by show 4 ≤ sizeLine; decide, fun qn nq => ?_⟩
            have g3 := same_new nq (o := .tup (Fact.link c k (beginTo l (k + 1) : Nat)).v)
            have f3 : L2.upd J2 qn (.tup (Fact.link c k (beginTo l (k + 1) : Nat)).v) qn = some (.tup (Fact.link c k (beginTo l (k + 1) : Nat)).v) := upd_same
            have eF3 := g3 _ _ eF2
            refine ⟨pF, ps2, .ref qn, rfl, rfl, eF3, Nat.lt_of_le_of_lt (show ps2.length ≤ 5000 by omega) (by decide), done_ _ _ (same_upd (s2.trans g3) nF) upd_same (by rw [List.length_append, List.length_singleton]; omega) ?_⟩
            rw [if_pos (show endsB l k = true ∧ sAt l (beginTo l (k + 1)) = 2 from ⟨e1, sx3.trans e2⟩), List.map_append]
            exact (Tups.put f3 (tp2.keep (tk_same g3))).keep (tk_lst eF3)
          · refine ⟨_, rfl, _, rfl, a, _, _, .ref lt3, rfl, rfl, L2.Same.seq s2 sq, atI_nat hv3, lt3, _, 0, .int (x3.s : Nat), rfl, rfl, .inl (.inl h13), atI_nat (j := 0) rfl, rfl, false, by simp; omega, iteF' rfl (done_ _ ps2 s2 eF2 (by omega) ?_)⟩
            rw [if_neg (show ¬ (endsB l k = true ∧ sAt l (beginTo l (k + 1)) = 2) from fun z => e2 (sx3.symm.trans z.2)), List.append_nil]
            exact tp2
        · refine ⟨_, rfl, false, by simpa using e1, iteF' rfl (iteF' rfl (done_ _ ps2 s2 eF2 (by omega) ?_))⟩
          rw [if_neg (show ¬ (endsB l k = true ∧ sAt l (beginTo l (k + 1)) = 2) from fun z => e1 z.1), List.append_nil]
          exact tp2
  · obtain ⟨y4, y5, y6, y7, rfl, sJ, ps, eF, lps, tp⟩ := hP
    rw [lr] at tp
    exact ⟨_, rfl, q pF ps J sJ eF tp⟩
end
end DQ

set_option Elab.async false
set_option linter.all false
set_option maxRecDepth 100000
set_option maxHeartbeats 8000000
namespace DQ
open PySem PySem.Spec PyProof.Rows L2
abbrev sTold : Stmt := topS 48
abbrev NTo : List Str := ["marks", "columns", "line", "number", "_", "bits", "mark", "bit", "facts"]
theorem scTold : FnScope NTo ["marks", "columns", "line"] (defScope sTold) := ⟨rfl, rfl, rfl, by decide +kernel, rfl, by decide +kernel, by decide +kernel⟩
/-- the facts of marks out of rows of marks and bits -/
def markFs (n : Nat) (ps : List (Str × Int)) : List Fact := (ps.filter fun p => decide (p.2 = 1)).map fun p => .mark p.1 (n : Nat)
theorem markFs_put (n : Nat) (ps : List (Str × Int)) (p : Str × Int) : markFs n (ps ++ [p]) = markFs n ps ++ (if p.2 = 1 then [.mark p.1 (n : Nat)] else []) := by
  unfold markFs
  rw [List.filter_append, List.map_append]
  congr 1
  by_cases e : p.2 = 1
  · rw [if_pos e, List.filter_cons_of_pos (by simpa using e)]
    rfl
  · rw [if_neg e, List.filter_cons_of_neg (by simpa using e)]
    rfl
theorem markFs_len (n : Nat) (ps : List (Str × Int)) : (markFs n ps).length ≤ ps.length := by
  unfold markFs
  rw [List.length_map]
  exact List.length_filter_le _ _
theorem facts_sort {ms : List Str} {c : Str} {l : Line} (nd : ms.Nodup) (L : IsLine ms.length l) : sortF (factsProg ms c l) = sortF (factsLaw ms c l) := by
  have n1 := facts_nd (c := c) nd L
  have n2 : (factsProg ms c l).Nodup := (facts_perm ms c l).nodup_iff.mpr n1
  exact rise_eq (((sortF_perm _).trans (facts_perm ms c l)).trans (sortF_perm _).symm) (sortF_rise n2) (sortF_rise n1)
theorem flat_le {α : Type} {f : Nat → List α} {b : Nat} (h : ∀ k, (f k).length ≤ b) (n : Nat) : ((List.range n).flatMap f).length ≤ n * b := by
  have := flat_len h (List.range n)
  rwa [List.length_range] at this
section
variable {P : Program} {w : World} {K : PySem.W.Frag} {mg : Str → Option Value} {base : Heap}
def spTold (K : PySem.W.Frag) : Sp := fun vs H Q _ => ∃ (m c a : Addr) (ms : List Str) (rs : List V) (l : Line), vs = [.ref m, .ref c, .ref a] ∧ SqL K H m (ms.map V.str) ∧ SqL K H c [.str "next"] ∧ SqL K H a rs ∧ Lets H rs l ∧ IsLine ms.length l ∧ l.length ≤ 2000 ∧ ms.Nodup ∧ ms.length ≤ 3 ∧ ∀ v H', Same H H' → NewSto H H' v (lineStore ms "next" l) → Q v H'
theorem ok_told {f fL : Addr} {fd dL : FuncData} (F : Fun K "told_by_line" "told_by_line" sTold f fd) (GL : FnOk P w K mg base CX0 1 fL dL ["column", "line"] (spLinks K)) (bL : Binds K dL ["column", "line"] []) (kL : PySem.W.keepIn K (.ref fL) = true) (mL : mg "links_of_line" = some (.ref fL))
    (mEnum : mg "enumerate" = none) (mZip : mg "zip" = none) (mLen : mg "len" = none) (mList : mg "list" = none) (mRange : mg "range" = none) (mSorted : mg "sorted" = none) : FnOk P w K mg base CX0 2 f fd ["marks", "columns", "line"] (spTold K) := by
  refine F.ok scTold (fun vs H Q E h => ?_) (fun cdv A outer s H vs Q E hr h => ?_)
  · obtain ⟨_, _, _, _, _, _, rfl, _⟩ := h
    rfl
  obtain ⟨m, c, a, ms, rs, l, rfl, sm, sc, sq, lt, IL, few, ndm, l3, q⟩ := h
  have nd := scTold.nd
  have lr : rs.length = l.length := Paired.length lt
  refine ⟨_, pss_cons (ps_setLc2 (i := 8) (own := [("number", 3), ("_", 4), ("bits", 5), ("mark", 6), ("bit", 7)]) (vs1 := [6, 7]) (wi1 := iZipM K (tCons (tVar 0) (tCons (tVar 5) tNil))) (g := gTup K 2 (gCons (gName 3) (gCons (gTup K 2 (gCons (gName 4) (gCons (gName 5) gNil))) gNil))) (g1 := gTup K 2 (gCons (gName 6) (gCons (gName 7) gNil))) (tt := tYes) (tt1 := tTest (tOp rEq (tVar 7) (tC (.int 1)))) (te := tTup (tCons (tC (.str "mark")) (tCons (tVar 6) (tCons (tVar 3) tNil)))) rfl nd rfl rfl (sw_true rfl rfl rfl rfl) (pi_enum (by rfl) mEnum (pa_cons (pv 2) pa_nil))
        (blkOk_by (own := [("number", 3), ("_", 4), ("bits", 5), ("mark", 6), ("bit", 7)]) (N := NTo) (sc := defScope sTold) (by decide +kernel)) (by decide)
        (fun _ _ _ _ _ => pg_tup rfl (pgs_cons (pg_name (i := 3) nd rfl (Or.inl rfl)) (pgs_cons (pg_tup rfl (pgs_cons (pg_name (i := 4) nd rfl (Or.inl rfl)) (pgs_cons (pg_name (i := 5) nd rfl (Or.inl rfl)) pgs_nil))) pgs_nil))) (fun _ _ _ _ _ => pts_nil)
        (fun _ _ _ _ _ => by exact pi_zipM (by rfl) mZip (pa_cons (pv 0) (pa_cons (pv 5) pa_nil))) (fun _ _ _ _ _ => pg_tup rfl (pgs_cons (pg_name (i := 6) nd rfl (Or.inl rfl)) (pgs_cons (pg_name (i := 7) nd rfl (Or.inl rfl)) pgs_nil)))
        (fun _ _ _ _ _ => pts_one (pt_cmpR op_eq (pv 7) pe_int (by rfl))) (fun _ _ _ _ _ => pe_tup (pa_cons pe_str (pa_cons (pv 6) (pa_cons (pv 3) pa_nil)))))
    (pss_cons (ps_expr (pe_bm PySem.F.plainAttrs_list PySem.F.slot_list_extend PySem.F.type_list_extend mt_extend (pv 8) (pa_cons (pe_call GL (hr.mono (by decide)) rfl mL kL bL .nil pass0 (pa_cons (pe_ix (r := rIxL K) ix_list (pv 1) pe_int (fun _ _ => rfl)) (pa_cons (pv 2) pa_nil))) pa_nil)))
    (pss_one (ps_ret (pe_tup (pa_cons pe_str (pa_cons (pe_callTy call_list_of (by rfl) mList (by decide +kernel) (pa_cons (pv 0) pa_nil)) (pa_cons (pe_callTy call_list_of (by rfl) mList (by decide +kernel) (pa_cons (pv 1) pa_nil))
      (pa_cons (pe_listRg rfl (by rfl) mList (prg_1 (by rfl) mRange (pe_callB call_len_seq (by rfl) mLen PySem.boot_len (pa_cons (pv 2) pa_nil)))) (pa_cons (pe_callB (cr_sortD (enc := Fact.d) hr.units) (by rfl) mSorted (by decide +kernel) (pa_cons (pv 8) pa_nil)) pa_nil))))))))), ?_⟩
  refine ⟨_, rfl, a, rs, rfl, sq, fun D nD => ?_⟩
  refine it_by (walk_enum (K := K) (a := a) (xs := rs)) (fun o J => Same H J ∧ ∃ acc, J D = some (.lst acc) ∧ acc.length ≤ o * 3 ∧ Tups J acc (((List.range o).flatMap (marksP ms l)).map Fact.v)) ⟨same_new nD, [], upd_same, Nat.zero_le _, .nil⟩ (fun _ _ _ hP => L2.Same.seq hP.1 sq) (fun o x J' J ho hP y => ?_) fun J hP => ?_
  · obtain ⟨sJ, acc, eD, lac, tp⟩ := hP
    obtain ⟨T, x1, y1, rfl, nT, rfl, hx1, hy1⟩ := y
    obtain rfl : V.int (o : Nat) = x1 := by injection hx1
    rw [lr] at ho
    obtain ⟨t1, lb, x, hx, hv, h1, h2⟩ := lets_at (lt.keep (tk_same sJ)) ho
    rw [show rs[o]? = some y1 from hy1] at hv
    injection hv with hv
    subst hv
    have g1 := same_new nT (o := .tup [.int (o : Nat), .ref t1])
    have f1 : L2.upd J' T (.tup [.int (o : Nat), .ref t1]) T = some (.tup [.int (o : Nat), .ref t1]) := upd_same
    generalize L2.upd J' T (.tup [.int (o : Nat), .ref t1]) = J1 at g1 f1 ⊢
    have sJ1 := sJ.trans g1
    have eD1 := g1 _ _ eD
    have tp1 := tp.keep (tk_same g1)
    have ba := bitsAt_of hx
    have lb1 := (IL.bit x (List.mem_of_getElem? hx)).1
    refine ⟨T, [.int (o : Nat), .ref t1], rfl, .inl (.inl f1), rfl, .int (o : Nat), [.ref t1], rfl, .ref t1, [], rfl, ⟨t1, [.int (x.s : Nat), .ref lb], rfl, .inl (.inl (g1 _ _ h1)), rfl, .int (x.s : Nat), [.ref lb], rfl, .ref lb, [], rfl, rfl, rfl, ?_⟩⟩
    refine ⟨rfl, ?_⟩
    have eb := g1 _ _ h2
    refine ⟨_, rfl, _, rfl, m, lb, ms.map V.str, x.bits.map V.int, rfl, L2.Same.seq sJ1 sm, .inl (.inl eb), ?_⟩
    have lz : (ms.zip x.bits).length = ms.length := by rw [List.length_zip, lb1, Nat.min_self]
    refine it_by (walk_zipM (K := K) (a := m) (b := lb) (xs := ms.map V.str) (ys := x.bits.map V.int) (n := ms.length) (List.length_map _) (by rw [List.length_map, lb1])) (fun j Jc => Same H Jc ∧ Jc lb = some (.tup (x.bits.map V.int)) ∧ ∃ acc, Jc D = some (.lst acc) ∧ acc.length ≤ o * 3 + j ∧ Tups Jc acc (((List.range o).flatMap (marksP ms l) ++ markFs o ((ms.zip x.bits).take j)).map Fact.v)) ⟨sJ1, eb, acc, eD1, by omega, by rw [List.take_zero]; simpa [markFs] using tp1⟩ (fun _ _ _ hP => ⟨L2.Same.seq hP.1 sm, .inl (.inl hP.2.1)⟩) (fun j x2 Jb Jc hj hP y => ?_) fun Jc hP => ?_
    · obtain ⟨s2, eb2, acc2, eD2, la2, tp2⟩ := hP
      obtain ⟨T2, z1, z2, rfl, nT2, rfl, hz1, hz2⟩ := y
      obtain ⟨mk, hmk, rfl⟩ := at_map (show (ms.map V.str)[j]? = some z1 from hz1)
      obtain ⟨bt, hbt, rfl⟩ := at_map (show (x.bits.map V.int)[j]? = some z2 from hz2)
      have hzp : (ms.zip x.bits)[j]? = some (mk, bt) := by rw [List.getElem?_zip_eq_some]; exact ⟨hmk, hbt⟩
      have g2 := same_new nT2 (o := .tup [.str mk, .int bt])
      have f2 : L2.upd Jb T2 (.tup [.str mk, .int bt]) T2 = some (.tup [.str mk, .int bt]) := upd_same
      generalize L2.upd Jb T2 (.tup [.str mk, .int bt]) = J2 at g2 f2 ⊢
      have s3 := s2.trans g2
      have eb3 := g2 _ _ eb2
      have eD3 := g2 _ _ eD2
      have tp3 := tp2.keep (tk_same g2)
      refine ⟨T2, [.str mk, .int bt], rfl, .inl (.inl f2), rfl, .str mk, [.int bt], rfl, .int bt, [], rfl, rfl, rfl, ?_⟩
      by_cases e1 : bt = 1
      · refine ⟨.int bt, rfl, rfl, true, by rw [e1]; rfl, iteT' rfl ?_⟩
        refine ⟨.str mk, rfl, .int (o : Nat), rfl, by show 3 ≤ sizeLine; decide, fun tn ntn => ?_⟩
        have g4 := same_new ntn (o := .tup (Fact.mark mk (o : Nat)).v)
        have f4 : L2.upd J2 tn (.tup (Fact.mark mk (o : Nat)).v) tn = some (.tup (Fact.mark mk (o : Nat)).v) := upd_same
        have eD4 := g4 _ _ eD3
        have tk := tk_lst (ys := acc2 ++ [V.ref tn]) eD4
        refine ⟨acc2, eD4, Nat.lt_of_le_of_lt (show acc2.length ≤ 7000 by omega) (by decide), same_upd (s3.trans g4) nD, tk _ _ (g4 _ _ eb3), _, upd_same, by rw [List.length_append, List.length_singleton]; omega, ?_⟩
        rw [take_next hzp, markFs_put, if_pos e1, ← List.append_assoc, List.map_append]
        exact (Tups.put f4 (tp3.keep (tk_same g4))).keep tk
      · refine ⟨.int bt, rfl, rfl, false, by simpa using e1, iteF' rfl ⟨s3, eb3, acc2, eD3, by omega, ?_⟩⟩
        rw [take_next hzp, markFs_put, if_neg e1, List.append_nil]
        exact tp3
    · obtain ⟨s2, eb2, acc2, eD2, la2, tp2⟩ := hP
      refine ⟨s2, acc2, eD2, by omega, ?_⟩
      rw [range_flat]
      have em : marksP ms l o = markFs o (ms.zip x.bits) := by unfold marksP markFs; rw [ba]
      rw [em]
      rw [← lz, List.take_length] at tp2
      exact tp2
  · obtain ⟨sJ, acc, eD, lac, tp⟩ := hP
    rw [lr] at lac tp
    refine ⟨_, rfl, .inl ⟨rfl, _, SqL.of eD⟩, ?_⟩
    refine ⟨_, rfl, c, _, 0, .str "next", rfl, rfl, L2.Same.seq sJ sc, atI_nat (j := 0) rfl, _, rfl, nil_read ⟨"next", a, rs, ms.length, l, rfl, L2.Same.seq sJ sq, lt.keep (tk_same sJ), IL, few, fun p ps J1 s1 ep tpp => nil_read ?_⟩⟩
    have eD1 := s1 _ _ eD
    have lps : ps.length ≤ l.length * 2 := by
      rw [Tups.length tpp, List.length_map]
      exact flat_le (fun k => by unfold linkFs; rw [List.length_map]; exact links_len) _
    refine ⟨D, p, acc, ps, rfl, rfl, eD1, ep, Nat.le_trans (show acc.length + ps.length ≤ 10000 by omega) (by decide), ?_⟩
    have s01 := sJ.trans s1
    have tk := tk_lst (ys := acc ++ ps) eD1
    have tpA : Tups (L2.upd J1 D (.lst (acc ++ ps))) (acc ++ ps) ((factsProg ms "next" l).map Fact.v) := by
      unfold factsProg
      rw [List.map_append]
      exact Tups.append ((tp.keep (tk_same s1)).keep tk) (tpp.keep tk)
    have eD2 : L2.upd J1 D (.lst (acc ++ ps)) D = some (.lst (acc ++ ps)) := upd_same
    have s02 : Same H (L2.upd J1 D (.lst (acc ++ ps))) := same_upd s01 nD
    generalize L2.upd J1 D (.lst (acc ++ ps)) = J2 at tpA eD2 s02 ⊢
    refine ⟨_, rfl, m, _, rfl, .inl (L2.Same.seq s02 sm), fun pm npm => ?_⟩
    have g6 := same_new npm (o := .lst (ms.map V.str))
    have f6 : L2.upd J2 pm (.lst (ms.map V.str)) pm = some (.lst (ms.map V.str)) := upd_same
    generalize L2.upd J2 pm (.lst (ms.map V.str)) = H6 at g6 f6 ⊢
    refine ⟨_, rfl, c, _, rfl, .inl (L2.Same.seq (s02.trans g6) sc), fun pc npc => ?_⟩
    have g7 := same_new npc (o := .lst [V.str "next"])
    have f7 : L2.upd H6 pc (.lst [V.str "next"]) pc = some (.lst [V.str "next"]) := upd_same
    generalize L2.upd H6 pc (.lst [V.str "next"]) = H7 at g7 f7 ⊢
    refine ⟨_, rfl, a, _, rfl, .inl (L2.Same.seq ((s02.trans g6).trans g7) sq), ?_⟩
    rw [lr]
    refine ⟨(l.length : Nat), rfl, RgOk.of_le (by decide) (by omega) (by decide) (by omega), fun pi npi => ?_⟩
    rw [rg_ints]
    have g8 := same_new npi (o := .lst (((List.range l.length).map fun k : Nat => (k : Int)).map V.int))
    have f8 : L2.upd H7 pi (.lst (((List.range l.length).map fun k : Nat => (k : Int)).map V.int)) pi = some (.lst (((List.range l.length).map fun k : Nat => (k : Int)).map V.int)) := upd_same
    generalize L2.upd H7 pi (.lst (((List.range l.length).map fun k : Nat => (k : Int)).map V.int)) = H8 at g8 f8 ⊢
    have s28 := (g6.trans g7).trans g8
    have eD8 := s28 _ _ eD2
    have tp8 := tpA.keep (tk_same s28)
    generalize hfs : factsProg ms "next" l = fs at tp8
    generalize acc ++ ps = rsF at tp8 eD8
    have lenR : rsF.length = fs.length := by rw [tp8.length, List.length_map]
    have z1 : (rsF.zip fs).map (·.1) = rsF := List.map_fst_zip (Nat.le_of_eq lenR)
    have z2 : (rsF.zip fs).map (·.2) = fs := List.map_snd_zip (Nat.le_of_eq lenR.symm)
    refine ⟨_, rfl, D, rsF.zip fs, rfl, ?_, fun z hz => ?_, ?_, Or.inl fun d hd => ?_, fun z hz => fact_depth _, fun pf npf => ?_⟩
    · rw [z1]
      exact SqL.of eD8
    · obtain ⟨a, e, h⟩ := tp8.zip z hz
      rw [e]
      exact fact_dp h
    · intro d hd d' hd'
      obtain ⟨x, _, rfl⟩ := List.mem_map.mp hd
      obtain ⟨y, _, rfl⟩ := List.mem_map.mp hd'
      exact fact_alike _ _
    · obtain ⟨x, _, rfl⟩ := List.mem_map.mp hd
      exact fact_tuple _
    have pmZ := List.mergeSort_perm (rsF.zip fs) (PySem.W.dataLe false fun z => z.2.d)
    have tz : ∀ z ∈ (rsF.zip fs).mergeSort (PySem.W.dataLe false fun z => z.2.d), ∃ a, z.1 = .ref a ∧ H8 a = some (.tup z.2.v) := fun z hz => tp8.zip z (pmZ.subset hz)
    have so := sort_map (rsF.zip fs)
    rw [z2] at so
    generalize (rsF.zip fs).mergeSort (PySem.W.dataLe false fun z => z.2.d) = zs at tz so ⊢
    have g10 := same_new npf (o := .lst (zs.map (·.1)))
    have f10 : L2.upd H8 pf (.lst (zs.map (·.1))) pf = some (.lst (zs.map (·.1))) := upd_same
    generalize L2.upd H8 pf (.lst (zs.map (·.1))) = H10 at g10 f10 ⊢
    refine nil_read ⟨by show 5 ≤ sizeLine; decide, fun T nT => ?_⟩
    have g11 := same_new nT (o := .tup [.str "store", .ref pm, .ref pc, .ref pi, .ref pf])
    have f11 : L2.upd H10 T (.tup [.str "store", .ref pm, .ref pc, .ref pi, .ref pf]) T = some (.tup [.str "store", .ref pm, .ref pc, .ref pi, .ref pf]) := upd_same
    generalize L2.upd H10 T (.tup [.str "store", .ref pm, .ref pc, .ref pi, .ref pf]) = H11 at g11 f11 ⊢
    have tps := tups_of zs tz
    rw [so, ← hfs, facts_sort ndm IL] at tps
    have s811 : Same H8 H11 := g10.trans g11
    have e6 := s811 _ _ (g8 _ _ (g7 _ _ f6))
    have e7 := s811 _ _ (g8 _ _ f7)
    have e8 := s811 _ _ f8
    have e10 := g11 _ _ f10
    have f26 := s02.trans g6
    have f27 := f26.trans g7
    have f28 := f27.trans g8
    exact q (.ref T) H11 (f28.trans s811) ⟨T, pm, pc, pi, pf, _, rfl, f11, e6, e7, e8, e10, tps.keep (tk_same s811), (f28.trans g10).free nT, s02.free npm, f26.free npc, f27.free npi, f28.free npf,
      (ne_some npc f6).symm, (ne_some npi (g7 _ _ f6)).symm, (ne_some npf (g8 _ _ (g7 _ _ f6))).symm, (ne_some npi f7).symm, (ne_some npf (g8 _ _ f7)).symm, (ne_some npf f8).symm⟩
end
end DQ

set_option Elab.async false
set_option linter.all false
set_option maxRecDepth 100000
set_option maxHeartbeats 2000000
namespace DQ
open PySem PySem.Spec PyProof.Rows L2
abbrev sStoreOf : Stmt := topS 49
theorem scStoreOf : FnScope ["marks", "columns", "line"] ["marks", "columns", "line"] (defScope sStoreOf) := ⟨rfl, rfl, rfl, by decide +kernel, rfl, by decide +kernel, by decide +kernel⟩
/-- a line as data -/
def letD (x : Letter) : PyData := .tuple [.int (x.s : Nat), .tuple (x.bits.map PyData.int)]
theorem dp_bits {K : PySem.W.Frag} {H : Hp} : ∀ bs : List Int, DpAll K H (bs.map V.int) (bs.map PyData.int)
  | [] => .nil
  | b :: r => .cons (.int b) (dp_bits r)
theorem dp_letters {K : PySem.W.Frag} {H : Hp} : ∀ {rs : List V} {l : Line}, Lets H rs l → DpAll K H rs (l.map letD)
  | _, _, .nil => .nil
  | _, _, .cons ⟨t, b, e, h1, h2⟩ r => by
    subst e
    exact .cons (.tup (.inl (.inl h1)) (.cons (.int _) (.cons (.tup (.inl (.inl h2)) (dp_bits _)) .nil))) (dp_letters r)
theorem line_dp {K : PySem.W.Frag} {H : Hp} {a : Addr} {rs : List V} {l : Line} (sq : SqL K H a rs) (lt : Lets H rs l) : Dp K H (.ref a) (.list (l.map letD)) := .lst sq (dp_letters lt)
theorem line_good {many : Nat} {l : Line} (IL : IsLine many l) : lineD many (.list (l.map letD)) = true := by
  have h1 : ((l.map letD).all (letterD many)) = true := by
    rw [List.all_map, List.all_eq_true]
    intro x hx
    have s2 := IL.st x hx
    obtain ⟨lb, b01⟩ := IL.bit x hx
    show (betweenD 0 2 (.int (x.s : Nat)) && bitsD many (.tuple (x.bits.map PyData.int))) = true
    rw [Bool.and_eq_true]
    refine ⟨by simp [betweenD]; omega, ?_⟩
    show (decide ((x.bits.map PyData.int).length = many) && (x.bits.map PyData.int).all (betweenD 0 1)) = true
    rw [Bool.and_eq_true, List.length_map, List.all_map, List.all_eq_true]
    exact ⟨by simpa using lb, fun b hb => by rcases b01 b hb with e | e <;> rw [e] <;> decide⟩
  have h2 : headD (l.map letD) = true := by
    cases l with
    | nil => rfl
    | cons x r =>
      have := IL.head x r rfl
      show decide (((x.s : Nat) : Int) ≠ 0) = true
      exact decide_eq_true (by omega)
  show ((l.map letD).all (letterD many) && headD (l.map letD)) = true
  rw [h1, h2]
  rfl
section
variable {P : Program} {w : World} {K : PySem.W.Frag} {mg : Str → Option Value} {base : Heap}
def spStoreOf (K : PySem.W.Frag) : Sp := fun vs H Q _ => ∃ (m c a : Addr) (ms : List Str) (rs : List V) (l : Line), vs = [.ref m, .ref c, .ref a] ∧ SqL K H m (ms.map V.str) ∧ SqL K H c [.str "next"] ∧ SqL K H a rs ∧ Lets H rs l ∧ IsLine ms.length l ∧ l.length ≤ 2000 ∧ MarksOk ms ∧ ∀ v H', Same H H' → NewSto H H' v (lineStore ms "next" l) → Q v H'
theorem ok_storeOf {f fS fI fT CL : Addr} {fd dS dI dT : FuncData} (F : Fun K "store_of_line" "store_of_line" sStoreOf f fd)
    (GS : FnOk P w K mg base (L2.CX P w) 5 fS dS ["marks", "columns"] (spLS K)) (bS : Binds K dS ["marks", "columns"] []) (kS : PySem.W.keepIn K (.ref fS) = true) (mS : mg "check_line_signs" = some (.ref fS))
    (GI : FnOk P w K mg base (L2.CX P w) 5 fI dI ["marks", "value"] (spIsLine K)) (bI : Binds K dI ["marks", "value"] []) (kI : PySem.W.keepIn K (.ref fI) = true) (mI : mg "is_line" = some (.ref fI))
    (GT : FnOk P w K mg base CX0 2 fT dT ["marks", "columns", "line"] (spTold K)) (bT : Binds K dT ["marks", "columns", "line"] []) (kT : PySem.W.keepIn K (.ref fT) = true) (mT : mg "told_by_line" = some (.ref fT))
    (U : ErrUse P w K mg base "InvalidList" CL) : FnOk P w K mg base (L2.CX P w) 6 f fd ["marks", "columns", "line"] (spStoreOf K) := by
  obtain ⟨fE, fdE, ds, iC, tI, oI, bE, _, _, _⟩ := U.ok
  refine F.okX scStoreOf (fun vs H Q E h => ?_) (fun cdv A outer s H vs Q E hr h => ?_)
  · obtain ⟨_, _, _, _, _, _, rfl, _⟩ := h
    rfl
  obtain ⟨m, c, a, ms, rs, l, rfl, sm, sc, sq, lt, IL, few, ok, q⟩ := h
  refine ⟨_, pss_cons (ps_expr (pe_callS GS (hr.mono (by decide)) rfl mS kS bS (fun σ => passAt (takes_of rfl rfl rfl rfl) σ) (pa_cons (pv 0) (pa_cons (pv 1) pa_nil))))
    (pss_cons (ps_if (pt_not (pt_val (pe_callS GI (hr.mono (by decide)) rfl mI kI bI (fun σ => passAt (takes_of rfl rfl rfl rfl) σ) (pa_cons (pv 0) (pa_cons (pv 2) pa_nil))))) (pss_one (ps_raise rfl (takes_of rfl rfl rfl rfl) (pmk_oex U.T iC tI oI (hr.mono (by decide)) bE .nil pass0 (by rfl) U.g (pa_cons (pv 2) pa_nil)))) pss_nil)
    (pss_one (ps_ret (pe_call GT (hr.mono (by decide)) rfl mT kT bT .nil pass0 (pa_cons (pv 0) (pa_cons (pv 1) (pa_cons (pv 2) pa_nil))))))), ?_⟩
  obtain ⟨_, _, ndm, l2, _, _⟩ := marks_facts ok
  refine ⟨_, rfl, _, rfl, m, c, ms, rfl, sm, sc, ok, fun H1 s1 => ?_⟩
  have sm1 := L2.Same.seq s1 sm
  have sc1 := L2.Same.seq s1 sc
  have sq1 := L2.Same.seq s1 sq
  have lt1 := lt.keep (tk_same s1)
  refine ⟨_, rfl, _, rfl, m, ms, .ref a, .list (l.map letD), rfl, sm1, ok, line_dp sq1 lt1, fun ds e => ?_, fun H2 s2 => ?_⟩
  · injection e with e
    subst e
    rw [List.length_map]
    omega
  rw [line_good IL]
  refine ⟨true, rfl, iteF' rfl ?_⟩
  exact ⟨_, rfl, _, rfl, _, rfl, m, c, a, ms, rs, l, rfl, L2.Same.seq s2 sm1, L2.Same.seq s2 sc1, L2.Same.seq s2 sq1, lt1.keep (tk_same s2), IL, few, ndm, by omega, fun v H3 s3 N => q v H3 ((s1.trans s2).trans s3) (N.up (s1.trans s2))⟩
end
end DQ

set_option Elab.async false
set_option linter.all false
set_option maxRecDepth 100000
set_option maxHeartbeats 4000000
namespace DQ
open PySem PySem.Spec PyProof.Rows L2
abbrev sLineSto : Stmt := topS 57
abbrev NLs : List Str := ["marks", "column", "line", "facts", "begin", "at", "letter", "mark", "bit"]
theorem scLineSto : FnScope NLs ["marks", "column", "line"] (defScope sLineSto) := ⟨rfl, rfl, rfl, by decide +kernel, rfl, by decide +kernel, by decide +kernel⟩
theorem tand_cut {t1 t2 : TT} {σ : L2.St} {H : Hp} {Q : Bool → Hp → Prop} (b : Bool) (h1 : ∀ R : Bool → Hp → Prop, R b H → t1 σ H R) (h2 : b = true → t2 σ H Q) (h3 : b = false → Q false H) : tAnd t1 t2 σ H Q := h1 _ (by
  cases b with
  | true => exact iteT' rfl (h2 rfl)
  | false => exact iteF' rfl (h3 rfl))
theorem link_facts (c : Str) (l : Line) (k : Nat) : linkFs c l k = (if sAt l k = 0 then [Fact.link c (k - 1 : Nat) k] else []) ++ (if endsB l k = true ∧ sAt l (beginTo l (k + 1)) = 2 then [Fact.link c k (beginTo l (k + 1) : Nat)] else []) := by
  unfold linkFs linkP
  rw [List.map_append]
  congr 1 <;> split <;> rfl
theorem dec_pos {n : Nat} : V.bl (decide (((n : Nat) : Int) > 0)) = V.bl (decide (0 < n)) := by
  by_cases z : 0 < n
  · rw [decide_eq_true z, decide_eq_true (by omega)]
  · rw [decide_eq_false z, decide_eq_false (by omega)]
section
variable {P : Program} {w : World} {K : PySem.W.Frag} {mg : Str → Option Value} {base : Heap}
def spLineSto (K : PySem.W.Frag) : Sp := fun vs H Q _ => ∃ (m a : Addr) (ms : List Str) (rs : List V) (l : Line), vs = [.ref m, .str "next", .ref a] ∧ SqL K H m (ms.map V.str) ∧ SqL K H a rs ∧ Lets H rs l ∧ IsLine ms.length l ∧ l.length ≤ 100 ∧ ms.Nodup ∧ ms.length ≤ 3 ∧ ∀ v H', Same H H' → NewSto H H' v (lineStore ms "next" l) → Q v H'
theorem ok_lineSto {f : Addr} {fd : FuncData} (F : Fun K "_law_line_store" "_law_line_store" sLineSto f fd) (mEnum : mg "enumerate" = none) (mZip : mg "zip" = none) (mLen : mg "len" = none) (mList : mg "list" = none) (mRange : mg "range" = none) (mSorted : mg "sorted" = none) : FnOk P w K mg base CX0 1 f fd ["marks", "column", "line"] (spLineSto K) := by
  refine F.ok scLineSto (fun vs H Q E h => ?_) (fun cdv A outer s H vs Q E hr h => ?_)
  · obtain ⟨_, _, _, _, _, rfl, _⟩ := h
    rfl
  obtain ⟨m, a, ms, rs, l, rfl, sm, sq, lt, IL, few, ndm, l3, q⟩ := h
  have nd := scLineSto.nd
  have lr : rs.length = l.length := Paired.length lt
  refine ⟨_, pss_cons (ps_par (i := 3) (j := 4) rfl nd rfl rfl (by decide) rfl rfl (pa_cons (pe_lst pa_nil) (pa_cons pe_int pa_nil)) (by rfl))
    (pss_cons (ps_for PassesOwn.never rfl (pi_enum (by rfl) mEnum (pa_cons (pv 2) pa_nil)) (pg_tup rfl (pgs_cons (pg_name (i := 5) nd rfl (.inr rfl)) (pgs_cons (pg_name (i := 6) nd rfl (.inl rfl)) pgs_nil)))
      (pss_cons (ps_set (i := 3) nd rfl (.inl rfl) (pe_op op_cat (pv 3) (pe_lc (own := [("mark", 7), ("bit", 8)]) (wi := iZipM K (tCons (tVar 0) (tCons (tOp (rIxT K) (tVar 6) (tC (.int 1))) tNil))) (g := gTup K 2 (gCons (gName 7) (gCons (gName 8) gNil))) (tt := tTest (tOp rEq (tVar 8) (tC (.int 1)))) (te := tTup (tCons (tC (.str "mark")) (tCons (tVar 7) (tCons (tVar 5) tNil)))) rfl nd (by exact pi_zipM (by rfl) mZip (pa_cons (pv 0) (pa_cons (pe_ix (r := rIxT K) ix_tup (pv 6) pe_int (fun _ _ => rfl)) pa_nil)))
          (blkOk_by (own := [("mark", 7), ("bit", 8)]) (N := NLs) (sc := defScope sLineSto) (by decide +kernel)) (fun _ _ _ _ _ => pg_tup rfl (pgs_cons (pg_name (i := 7) nd rfl (Or.inl rfl)) (pgs_cons (pg_name (i := 8) nd rfl (Or.inl rfl)) pgs_nil)))
          (fun _ _ _ _ _ => pts_one (pt_cmpR op_eq (pv 8) pe_int (by rfl))) (fun _ _ _ _ _ => pe_tup (pa_cons pe_str (pa_cons (pv 7) (pa_cons (pv 5) pa_nil)))))))
      (pss_cons (ps_set (i := 4) nd rfl (.inl rfl) (pe_ifExp (pt_cmpR op_gt (pe_ix (r := rIxT K) ix_tup (pv 6) pe_int (fun _ _ => rfl)) pe_int (nomark _)) (pv 5) (pv 4)))
      (pss_cons (ps_if (pt_cmpR op_eq (pe_ix (r := rIxT K) ix_tup (pv 6) pe_int (fun _ _ => rfl)) pe_int (nomark _))
          (pss_one (ps_expr (pe_bm PySem.F.plainAttrs_list PySem.F.slot_list_append PySem.F.type_list_append mt_append (pv 3) (pa_cons (pe_tup (pa_cons pe_str (pa_cons (pv 1) (pa_cons (pe_op op_sub (pv 5) pe_int) (pa_cons (pv 5) pa_nil))))) pa_nil)))) pss_nil)
      (pss_one (ps_if (PW.pt (pw_and (PW.pt (pw_or (pt_cmpR op_eq (pe_op op_add (pv 5) pe_int) (pe_callB call_len_seq (by rfl) mLen PySem.boot_len (pa_cons (pv 2) pa_nil)) (nomark _)) (pw_or1 (pt_cmpR op_gt (pe_ix (r := rIxT K) ix_tup (pe_ix (r := rIxL K) ix_list (pv 2) (pe_op op_add (pv 5) pe_int) (fun _ _ => rfl)) pe_int (fun _ _ => rfl)) pe_int (nomark _)))))
            (pw_and1 (pt_cmpR op_eq (pe_ix (r := rIxT K) ix_tup (pe_ix (r := rIxL K) ix_list (pv 2) (pv 4) (fun _ _ => rfl)) pe_int (fun _ _ => rfl)) pe_int (nomark _)))))
          (pss_one (ps_expr (pe_bm PySem.F.plainAttrs_list PySem.F.slot_list_append PySem.F.type_list_append mt_append (pv 3) (pa_cons (pe_tup (pa_cons pe_str (pa_cons (pv 1) (pa_cons (pv 5) (pa_cons (pv 4) pa_nil))))) pa_nil)))) pss_nil))))))
    (pss_one (ps_ret (pe_tup (pa_cons pe_str (pa_cons (pe_callTy call_list_of (by rfl) mList (by decide +kernel) (pa_cons (pv 0) pa_nil)) (pa_cons (pe_lst (pa_cons (pv 1) pa_nil))
      (pa_cons (pe_listRg rfl (by rfl) mList (prg_1 (by rfl) mRange (pe_callB call_len_seq (by rfl) mLen PySem.boot_len (pa_cons (pv 2) pa_nil)))) (pa_cons (pe_callB (cr_sortD (enc := Fact.d) hr.units) (by rfl) mSorted (by decide +kernel) (pa_cons (pv 3) pa_nil)) pa_nil))))))))), ?_⟩
  refine ⟨by decide, fun p0 n0 => ?_⟩
  have g0 := same_new n0 (o := .lst [])
  have f0 : L2.upd H p0 (.lst []) p0 = some (.lst []) := upd_same
  generalize L2.upd H p0 (.lst []) = H0 at g0 f0 ⊢
  refine ⟨_, _, rfl, _, rfl, a, rs, rfl, L2.Same.seq g0 sq, for_it (walk_enum (K := K) (a := a) (xs := rs)) (fun k σ J => ∃ pF y5 y6 ps, σ = [some (.ref m), some (.str "next"), some (.ref a), some (.ref pF), some (.int (beginTo l k : Nat)), y5, y6, none, none] ∧ Same H J ∧ H pF = none ∧ J pF = some (.lst ps) ∧ ps.length ≤ 5 * k ∧ Tups J ps (((List.range k).flatMap fun k => marksP ms l k ++ linkFs "next" l k).map Fact.v))
    ⟨p0, none, none, [], rfl, g0, n0, f0, Nat.zero_le _, .nil⟩ (fun k σ J _ ⟨_, _, _, _, _, sJ, _⟩ => L2.Same.seq sJ sq) (fun k x σ J J' hk hP y => ?_) fun σ J hP => ?_⟩
  · obtain ⟨pF, y5, y6, ps, rfl, sJ, nF, eF, lps, tp⟩ := hP
    obtain ⟨T, x1, y1, rfl, nT, rfl, hx1, hy1⟩ := y
    obtain rfl : V.int (k : Nat) = x1 := by injection hx1
    rw [lr] at hk
    obtain ⟨t1, lb, x, hx, hv, h1, h2⟩ := lets_at (lt.keep (tk_same sJ)) hk
    rw [show rs[k]? = some y1 from hy1] at hv
    injection hv with hv
    subst hv
    have g1 := same_new nT (o := .tup [.int (k : Nat), .ref t1])
    have f1 : L2.upd J T (.tup [.int (k : Nat), .ref t1]) T = some (.tup [.int (k : Nat), .ref t1]) := upd_same
    generalize L2.upd J T (.tup [.int (k : Nat), .ref t1]) = J1 at g1 f1 ⊢
    have sx := sAt_of hx
    have ba := bitsAt_of hx
    have lb1 := (IL.bit x (List.mem_of_getElem? hx)).1
    have sJ1 := sJ.trans g1
    have eF1 := g1 _ _ eF
    have tp1 := tp.keep (tk_same g1)
    have h11 := g1 _ _ h1
    have eb := g1 _ _ h2
    have bn : beginTo l (k + 1) = if 0 < sAt l k then k else beginTo l k := rfl
    refine ⟨T, [.int (k : Nat), .ref t1], rfl, .inl (.inl f1), rfl, .int (k : Nat), [.ref t1], rfl, .ref t1, [], rfl, rfl, ?_⟩
    clear tp eF h1 h2 f1
    generalize hfl : ((List.range k).flatMap fun k => marksP ms l k ++ linkFs "next" l k) = fl at tp1
    refine seq_te (fun v J2 => ∃ pF2 ps2, v = .ref pF2 ∧ Same H J2 ∧ H pF2 = none ∧ J2 pF2 = some (.lst ps2) ∧ ps2.length ≤ 5 * k + 3 ∧ J2 t1 = some (.tup [.int (x.s : Nat), .ref lb]) ∧ Tups J2 ps2 ((fl ++ marksP ms l k).map Fact.v)) (fun R hR => ?_) fun v J2 hv2 => ?_
    · refine ⟨.ref pF, rfl, .ref m, rfl, .ref t1, rfl, t1, [.int (x.s : Nat), .ref lb], 1, .ref lb, rfl, rfl, .inl (.inl h11), atI_nat (j := 1) rfl, m, lb, ms.map V.str, x.bits.map V.int, rfl, L2.Same.seq sJ1 sm, .inl (.inl eb), fun D nD => ?_⟩
      have lz : (ms.zip x.bits).length = ms.length := by rw [List.length_zip, lb1, Nat.min_self]
      refine it_by (walk_zipM (K := K) (a := m) (b := lb) (xs := ms.map V.str) (ys := x.bits.map V.int) (n := ms.length) (List.length_map _) (by rw [List.length_map, lb1])) (fun j Jc => Same J1 Jc ∧ ∃ acc, Jc D = some (.lst acc) ∧ acc.length ≤ j ∧ Tups Jc acc ((markFs k ((ms.zip x.bits).take j)).map Fact.v)) ⟨same_new nD, [], upd_same, Nat.zero_le _, .nil⟩ (fun _ _ _ hP => ⟨L2.Same.seq (sJ1.trans hP.1) sm, .inl (.inl (hP.1 _ _ eb))⟩) (fun j x2 Jb Jc hj hP y => ?_) fun Jc hP => ?_
      · obtain ⟨s2, acc2, eD2, la2, tp2⟩ := hP
        obtain ⟨T2, z1, z2, rfl, nT2, rfl, hz1, hz2⟩ := y
        obtain ⟨mk, hmk, rfl⟩ := at_map (show (ms.map V.str)[j]? = some z1 from hz1)
        obtain ⟨bt, hbt, rfl⟩ := at_map (show (x.bits.map V.int)[j]? = some z2 from hz2)
        have hzp : (ms.zip x.bits)[j]? = some (mk, bt) := by rw [List.getElem?_zip_eq_some]; exact ⟨hmk, hbt⟩
        have g2 := same_new nT2 (o := .tup [.str mk, .int bt])
        have f2 : L2.upd Jb T2 (.tup [.str mk, .int bt]) T2 = some (.tup [.str mk, .int bt]) := upd_same
        generalize L2.upd Jb T2 (.tup [.str mk, .int bt]) = J2 at g2 f2 ⊢
        have s3 := s2.trans g2
        have eD3 := g2 _ _ eD2
        have tp3 := tp2.keep (tk_same g2)
        refine ⟨T2, [.str mk, .int bt], rfl, .inl (.inl f2), rfl, .str mk, [.int bt], rfl, .int bt, [], rfl, rfl, rfl, ?_⟩
        by_cases e1 : bt = 1
        · refine ⟨.int bt, rfl, rfl, true, by rw [e1]; rfl, iteT' rfl ?_⟩
          refine ⟨.str mk, rfl, .int (k : Nat), rfl, by show 3 ≤ sizeLine; decide, fun tn ntn => ?_⟩
          have g4 := same_new ntn (o := .tup (Fact.mark mk (k : Nat)).v)
          have f4 : L2.upd J2 tn (.tup (Fact.mark mk (k : Nat)).v) tn = some (.tup (Fact.mark mk (k : Nat)).v) := upd_same
          have eD4 := g4 _ _ eD3
          have tk := tk_lst (ys := acc2 ++ [V.ref tn]) eD4
          refine ⟨acc2, eD4, Nat.lt_of_le_of_lt (show acc2.length ≤ 3 by omega) (by decide), same_upd (s3.trans g4) nD, _, upd_same, by rw [List.length_append, List.length_singleton]; omega, ?_⟩
          rw [take_next hzp, markFs_put, if_pos e1, List.map_append]
          exact (Tups.put f4 (tp3.keep (tk_same g4))).keep tk
        · refine ⟨.int bt, rfl, rfl, false, by simpa using e1, iteF' rfl ⟨s3, acc2, eD3, by omega, ?_⟩⟩
          rw [take_next hzp, markFs_put, if_neg e1, List.append_nil]
          exact tp3
      · obtain ⟨s2, acc2, eD2, la2, tp2⟩ := hP
        rw [← lz, List.take_length] at tp2
        have em : marksP ms l k = markFs k (ms.zip x.bits) := by unfold marksP markFs; rw [ba]
        refine ⟨pF, D, ps, acc2, rfl, rfl, s2 _ _ eF1, eD2, Nat.le_trans (show ps.length + acc2.length ≤ 1000 by omega) (by decide), fun p np => hR _ _ ⟨p, ps ++ acc2, rfl, (sJ1.trans s2).trans (same_new np), (sJ1.trans s2).free np, upd_same, by rw [List.length_append]; omega, same_new np _ _ (s2 _ _ h11), ?_⟩⟩
        rw [List.map_append, em]
        exact ((tp1.keep (tk_same s2)).append tp2).keep (tk_same (same_new np))
    obtain ⟨pF2, ps2, rfl, s2, nF2, eF2, lps2, h12, tp2⟩ := hv2
    clear tp1 eF1 h11 eb
    refine seq_te (fun v J3 => v = .int (beginTo l (k + 1) : Nat) ∧ J3 = J2) (fun R hR => ?_) fun v J3 hv3 => ?_
    · refine ⟨.ref t1, rfl, t1, [.int (x.s : Nat), .ref lb], 0, .int (x.s : Nat), rfl, rfl, .inl (.inl h12), atI_nat (j := 0) rfl, _, _, rfl, rfl, decide (0 < x.s), dec_pos, ?_⟩
      by_cases z : 0 < x.s
      · rw [decide_eq_true z]
        refine iteT' rfl ⟨.int (k : Nat), rfl, hR _ _ ⟨?_, rfl⟩⟩
        rw [bn, if_pos (by omega)]
      · rw [decide_eq_false z]
        refine iteF' rfl ⟨.int (beginTo l k : Nat), rfl, hR _ _ ⟨?_, rfl⟩⟩
        rw [bn, if_neg (by omega)]
    obtain ⟨rfl, rfl⟩ := hv3
    refine try_cut (fun σ' J' => σ' = [some (.ref m), some (.str "next"), some (.ref a), some (.ref pF2), some (.int (beginTo l (k + 1) : Nat)), some (.int (k : Nat)), some (.ref t1), none, none] ∧ Same H J' ∧ ∃ ps, J' pF2 = some (.lst ps) ∧ ps.length ≤ 5 * k + 4 ∧ Tups J' ps ((fl ++ marksP ms l k ++ (if sAt l k = 0 then [Fact.link "next" (k - 1 : Nat) k] else [])).map Fact.v)) (fun D' go => ?_) fun σ' J' hP2 => ?_
    · by_cases z : x.s = 0
      · have zk : sAt l k = 0 := sx.trans z
        have kp := zero_pos IL hk zk
        refine ⟨.ref t1, rfl, t1, [.int (x.s : Nat), .ref lb], 0, .int (x.s : Nat), rfl, rfl, .inl (.inl h12), atI_nat (j := 0) rfl, rfl, true, by rw [z]; rfl, iteT' rfl ?_⟩
        refine ⟨.ref pF2, rfl, .inl ⟨rfl, _, SqL.of eF2⟩, .str "next", rfl, .int (k : Nat), rfl, _, _, rfl, rfl, .int (k : Nat), rfl, by show 4 ≤ sizeLine; decide, fun qn nq => ?_⟩
        have e0 : (k : Int) - 1 = ((k - 1 : Nat) : Int) := by omega
        rw [show ([V.str "link", V.str "next", (fun i j : Int => V.int (i - j)) (k : Nat) 1, V.int (k : Nat)] : List V) = (Fact.link "next" (k - 1 : Nat) k).v by show [V.str "link", V.str "next", V.int ((k : Int) - 1), V.int (k : Nat)] = _; rw [e0]; rfl]
        have g3 := same_new nq (o := .tup (Fact.link "next" (k - 1 : Nat) k).v)
        have f3 : L2.upd J3 qn (.tup (Fact.link "next" (k - 1 : Nat) k).v) qn = some (.tup (Fact.link "next" (k - 1 : Nat) k).v) := upd_same
        have eF3 := g3 _ _ eF2
        refine ⟨pF2, ps2, .ref qn, rfl, rfl, eF3, Nat.lt_of_le_of_lt (show ps2.length ≤ 4000 by omega) (by decide), go _ _ ⟨rfl, same_upd (s2.trans g3) nF2, _, upd_same, by rw [List.length_append, List.length_singleton]; omega, ?_⟩⟩
        rw [if_pos zk, List.map_append]
        exact (Tups.put f3 (tp2.keep (tk_same g3))).keep (tk_lst eF3)
      · refine ⟨.ref t1, rfl, t1, [.int (x.s : Nat), .ref lb], 0, .int (x.s : Nat), rfl, rfl, .inl (.inl h12), atI_nat (j := 0) rfl, rfl, false, by simpa using z, iteF' rfl (go _ _ ⟨rfl, s2, ps2, eF2, by omega, ?_⟩)⟩
        rw [if_neg (by omega), List.append_nil]
        exact tp2
    obtain ⟨rfl, s3, ps3, eF3, lps3, tp3⟩ := hP2
    have hb1 : beginTo l (k + 1) < l.length := by have := begin_le l k; omega
    obtain ⟨lt3, lb3, x3, hx3, hv3, h13, h23⟩ := lets_at (lt.keep (tk_same s3)) hb1
    have sx3 := sAt_of hx3
    have fin : ∀ J4 ps4, Same H J4 → J4 pF2 = some (.lst ps4) → ps4.length ≤ 5 * (k + 1) → Tups J4 ps4 ((fl ++ marksP ms l k ++ (if sAt l k = 0 then [Fact.link "next" (k - 1 : Nat) k] else []) ++ (if endsB l k = true ∧ sAt l (beginTo l (k + 1)) = 2 then [Fact.link "next" k (beginTo l (k + 1) : Nat)] else [])).map Fact.v) → _ := fun J4 ps4 a1 a2 a3 a4 => (⟨pF2, _, _, ps4, rfl, a1, nF2, a2, a3, by rw [range_flat, hfl, link_facts, ← List.append_assoc, ← List.append_assoc]; exact a4⟩ :
      ∃ pF y5 y6 ps, ([some (.ref m), some (.str "next"), some (.ref a), some (.ref pF2), some (.int (beginTo l (k + 1) : Nat)), some (.int (k : Nat)), some (.ref t1), none, none] : L2.St) = [some (.ref m), some (.str "next"), some (.ref a), some (.ref pF), some (.int (beginTo l (k + 1) : Nat)), y5, y6, none, none] ∧ Same H J4 ∧ H pF = none ∧ J4 pF = some (.lst ps) ∧ ps.length ≤ 5 * (k + 1) ∧ Tups J4 ps (((List.range (k + 1)).flatMap fun k => marksP ms l k ++ linkFs "next" l k).map Fact.v))
    refine tand_cut (endsB l k) (fun R hR => ?_) (fun e1 => ?_) fun e1 => ?_
    · by_cases e1 : k + 1 = l.length
      · refine ⟨.int (k : Nat), rfl, _, _, rfl, rfl, .ref a, rfl, a, _, rfl, .inl (L2.Same.seq s3 sq), rfl, true, by simp; omega, iteT' rfl ?_⟩
        have ee : endsB l k = true := by
          unfold endsB
          rw [decide_eq_true e1, Bool.true_or]
        rw [ee] at hR
        exact hR
      · refine ⟨.int (k : Nat), rfl, _, _, rfl, rfl, .ref a, rfl, a, _, rfl, .inl (L2.Same.seq s3 sq), rfl, false, by simp; omega, iteF' rfl ?_⟩
        obtain ⟨lt2, lb2, x2, hx2, hv2, h122, h222⟩ := lets_at (lt.keep (tk_same s3)) (show k + 1 < l.length by omega)
        refine ⟨.ref a, rfl, .int (k : Nat), rfl, _, _, rfl, rfl, a, _, ((k + 1 : Nat) : Int), .ref lt2, rfl, rfl, L2.Same.seq s3 sq, atI_nat hv2, lt2, _, 0, .int (x2.s : Nat), rfl, rfl, .inl (.inl h122), atI_nat (j := 0) rfl, _, _, rfl, rfl, decide (0 < x2.s), dec_pos, ?_⟩
        have ee : endsB l k = decide (0 < x2.s) := by
          unfold endsB
          rw [decide_eq_false e1, Bool.false_or, sAt_of hx2]
        rw [ee] at hR
        exact hR
    · by_cases e2 : x3.s = 2
      · refine ⟨.ref a, rfl, .int (beginTo l (k + 1) : Nat), rfl, a, _, _, .ref lt3, rfl, rfl, L2.Same.seq s3 sq, atI_nat hv3, lt3, _, 0, .int (x3.s : Nat), rfl, rfl, .inl (.inl h13), atI_nat (j := 0) rfl, rfl, true, by rw [e2]; rfl, iteT' rfl ?_⟩
        refine ⟨.ref pF2, rfl, .inl ⟨rfl, _, SqL.of eF3⟩, .str "next", rfl, .int (k : Nat), rfl, .int (beginTo l (k + 1) : Nat), rfl, by show 4 ≤ sizeLine; decide, fun qn nq => ?_⟩
        have g3 := same_new nq (o := .tup (Fact.link "next" k (beginTo l (k + 1) : Nat)).v)
        have f3 : L2.upd J' qn (.tup (Fact.link "next" k (beginTo l (k + 1) : Nat)).v) qn = some (.tup (Fact.link "next" k (beginTo l (k + 1) : Nat)).v) := upd_same
        have eF4 := g3 _ _ eF3
        refine ⟨pF2, ps3, .ref qn, rfl, rfl, eF4, Nat.lt_of_le_of_lt (show ps3.length ≤ 5000 by omega) (by decide), fin _ _ (same_upd (s3.trans g3) nF2) upd_same (by rw [List.length_append, List.length_singleton]; omega) ?_⟩
        rw [if_pos (show endsB l k = true ∧ sAt l (beginTo l (k + 1)) = 2 from ⟨e1, sx3.trans e2⟩), List.map_append]
        exact (Tups.put f3 (tp3.keep (tk_same g3))).keep (tk_lst eF4)
      · refine ⟨.ref a, rfl, .int (beginTo l (k + 1) : Nat), rfl, a, _, _, .ref lt3, rfl, rfl, L2.Same.seq s3 sq, atI_nat hv3, lt3, _, 0, .int (x3.s : Nat), rfl, rfl, .inl (.inl h13), atI_nat (j := 0) rfl, rfl, false, by simp; omega, iteF' rfl (fin _ ps3 s3 eF3 (by omega) ?_)⟩
        rw [if_neg (show ¬ (endsB l k = true ∧ sAt l (beginTo l (k + 1)) = 2) from fun z => e2 (sx3.symm.trans z.2)), List.append_nil]
        exact tp3
    · refine iteF' rfl (fin _ ps3 s3 eF3 (by omega) ?_)
      rw [if_neg (show ¬ (endsB l k = true ∧ sAt l (beginTo l (k + 1)) = 2) from fun z => by rw [e1] at z; cases z.1), List.append_nil]
      exact tp3
  · obtain ⟨pF, y5, y6, ps, rfl, sJ, nF, eF, lps, tp⟩ := hP
    rw [lr] at tp
    have tp : Tups J ps ((factsLaw ms "next" l).map Fact.v) := tp
    refine ⟨_, rfl, m, _, rfl, .inl (L2.Same.seq sJ sm), fun pm npm => ?_⟩
    have g6 := same_new npm (o := .lst (ms.map V.str))
    have f6 : L2.upd J pm (.lst (ms.map V.str)) pm = some (.lst (ms.map V.str)) := upd_same
    generalize L2.upd J pm (.lst (ms.map V.str)) = H6 at g6 f6 ⊢
    refine ⟨_, rfl, by show 1 ≤ sizeLine; decide, fun pc npc => ?_⟩
    have g7 := same_new npc (o := .lst [V.str "next"])
    have f7 : L2.upd H6 pc (.lst [V.str "next"]) pc = some (.lst [V.str "next"]) := upd_same
    generalize L2.upd H6 pc (.lst [V.str "next"]) = H7 at g7 f7 ⊢
    refine ⟨_, rfl, a, _, rfl, .inl (L2.Same.seq ((sJ.trans g6).trans g7) sq), ?_⟩
    rw [lr]
    refine ⟨(l.length : Nat), rfl, RgOk.of_le (by decide) (by omega) (by decide) (by omega), fun pi npi => ?_⟩
    rw [rg_ints]
    have g8 := same_new npi (o := .lst (((List.range l.length).map fun k : Nat => (k : Int)).map V.int))
    have f8 : L2.upd H7 pi (.lst (((List.range l.length).map fun k : Nat => (k : Int)).map V.int)) pi = some (.lst (((List.range l.length).map fun k : Nat => (k : Int)).map V.int)) := upd_same
    generalize L2.upd H7 pi (.lst (((List.range l.length).map fun k : Nat => (k : Int)).map V.int)) = H8 at g8 f8 ⊢
    have s28 := (g6.trans g7).trans g8
    have eD8 := s28 _ _ eF
    have tp8 := tp.keep (tk_same s28)
    generalize hfs : factsLaw ms "next" l = fs at tp8
    generalize ps = rsF at tp8 eD8
    have lenR : rsF.length = fs.length := by rw [tp8.length, List.length_map]
    have z1 : (rsF.zip fs).map (·.1) = rsF := List.map_fst_zip (Nat.le_of_eq lenR)
    have z2 : (rsF.zip fs).map (·.2) = fs := List.map_snd_zip (Nat.le_of_eq lenR.symm)
    refine ⟨_, rfl, pF, rsF.zip fs, rfl, ?_, fun z hz => ?_, ?_, Or.inl fun d hd => ?_, fun z hz => fact_depth _, fun pf npf => ?_⟩
    · rw [z1]
      exact SqL.of eD8
    · obtain ⟨a, e, h⟩ := tp8.zip z hz
      rw [e]
      exact fact_dp h
    · intro d hd d' hd'
      obtain ⟨x, _, rfl⟩ := List.mem_map.mp hd
      obtain ⟨y, _, rfl⟩ := List.mem_map.mp hd'
      exact fact_alike _ _
    · obtain ⟨x, _, rfl⟩ := List.mem_map.mp hd
      exact fact_tuple _
    have pmZ := List.mergeSort_perm (rsF.zip fs) (PySem.W.dataLe false fun z => z.2.d)
    have tz : ∀ z ∈ (rsF.zip fs).mergeSort (PySem.W.dataLe false fun z => z.2.d), ∃ a, z.1 = .ref a ∧ H8 a = some (.tup z.2.v) := fun z hz => tp8.zip z (pmZ.subset hz)
    have so := sort_map (rsF.zip fs)
    rw [z2] at so
    generalize (rsF.zip fs).mergeSort (PySem.W.dataLe false fun z => z.2.d) = zs at tz so ⊢
    have g10 := same_new npf (o := .lst (zs.map (·.1)))
    have f10 : L2.upd H8 pf (.lst (zs.map (·.1))) pf = some (.lst (zs.map (·.1))) := upd_same
    generalize L2.upd H8 pf (.lst (zs.map (·.1))) = H10 at g10 f10 ⊢
    refine nil_read ⟨by show 5 ≤ sizeLine; decide, fun T nT => ?_⟩
    have g11 := same_new nT (o := .tup [.str "store", .ref pm, .ref pc, .ref pi, .ref pf])
    have f11 : L2.upd H10 T (.tup [.str "store", .ref pm, .ref pc, .ref pi, .ref pf]) T = some (.tup [.str "store", .ref pm, .ref pc, .ref pi, .ref pf]) := upd_same
    generalize L2.upd H10 T (.tup [.str "store", .ref pm, .ref pc, .ref pi, .ref pf]) = H11 at g11 f11 ⊢
    have tps := tups_of zs tz
    rw [so, ← hfs] at tps
    have s811 : Same H8 H11 := g10.trans g11
    have e6 := s811 _ _ (g8 _ _ (g7 _ _ f6))
    have e7 := s811 _ _ (g8 _ _ f7)
    have e8 := s811 _ _ f8
    have e10 := g11 _ _ f10
    have f26 := sJ.trans g6
    have f27 := f26.trans g7
    have f28 := f27.trans g8
    exact q (.ref T) H11 (f28.trans s811) ⟨T, pm, pc, pi, pf, _, rfl, f11, e6, e7, e8, e10, tps.keep (tk_same s811), (f28.trans g10).free nT, sJ.free npm, f26.free npc, f27.free npi, f28.free npf,
      (ne_some npc f6).symm, (ne_some npi (g7 _ _ f6)).symm, (ne_some npf (g8 _ _ (g7 _ _ f6))).symm, (ne_some npi f7).symm, (ne_some npf (g8 _ _ f7)).symm, (ne_some npf f8).symm⟩
end
end DQ

set_option Elab.async false
set_option linter.all false
set_option maxRecDepth 100000
set_option maxHeartbeats 4000000
namespace DQ
open PySem PySem.Spec PyProof.Rows L2
abbrev sDrawnLine : Stmt := topS 58
abbrev NDl : List Str := ["generator", "many", "most", "every", "found", "turn", "letter"]
theorem scDrawnLine : FnScope NDl ["generator", "many", "most"] (defScope sDrawnLine) := ⟨rfl, rfl, rfl, by decide +kernel, rfl, by decide +kernel, by decide +kernel⟩
theorem flat_letters : ∀ l : Line, PyData.canLayAll0 (l.map letD) = true ∧ PyData.depthAll (l.map letD) ≤ 3
  | [] => ⟨rfl, Nat.zero_le _⟩
  | x :: r => by
    obtain ⟨b1, b2⟩ := flat_ints x.bits
    obtain ⟨i1, i2⟩ := flat_letters r
    constructor
    · show ((true && (PyData.canLayAll0 (x.bits.map PyData.int) && true)) && PyData.canLayAll0 (r.map letD)) = true
      rw [b1, i1]
      rfl
    · show max (max 0 (max (PyData.depthAll (x.bits.map PyData.int) + 1) 0) + 1) (PyData.depthAll (r.map letD)) ≤ 3
      rw [b2]
      omega
theorem shaped_line (l : Line) : SeqAt.shaped (.list (l.map letD)) = true := shaped_of (flat_letters l).1 (by
  show PyData.depthAll (l.map letD) + 1 ≤ 64
  have := (flat_letters l).2
  omega)
theorem entry_01 : ∀ k, ∀ r ∈ rowsN [0, 1] k, ∀ b ∈ r, b = 0 ∨ b = 1 := fun k => by
  induction k with
  | zero => intro r hr b hb; rw [List.mem_singleton.mp hr] at hb; cases hb
  | succ k ih =>
    intro r hr b hb
    obtain ⟨r', hr', h⟩ := List.mem_flatMap.mp hr
    obtain ⟨n, hn, rfl⟩ := List.mem_map.mp h
    rcases List.mem_append.mp hb with h2 | h2
    · exact ih r' hr' b h2
    · rw [List.mem_singleton] at h2
      subst h2
      simpa using hn
theorem letters_mem {many : Nat} {x : Letter} (h : x ∈ lettersOf many) : x.s ≤ 2 ∧ x.bits.length = many ∧ ∀ b ∈ x.bits, b = 0 ∨ b = 1 := by
  obtain ⟨s, hs, h⟩ := List.mem_flatMap.mp h
  obtain ⟨r, hr, rfl⟩ := List.mem_map.mp h
  have := List.mem_range.mp hs
  exact ⟨by show s ≤ 2; omega, row_len _ _ _ hr, entry_01 _ _ hr⟩
theorem line_nil (many : Nat) : IsLine many [] := by
  refine ⟨fun a h => ?_, fun a h => ?_, fun a r h => ?_⟩
  · cases h
  · cases h
  · cases h
theorem isLine_put {many : Nat} {l : Line} {x : Letter} (L : IsLine many l) (h1 : x.s ≤ 2) (h2 : x.bits.length = many) (h3 : ∀ b ∈ x.bits, b = 0 ∨ b = 1) (h4 : l = [] → 0 < x.s) : IsLine many (l ++ [x]) := by
  refine ⟨fun a ha => ?_, fun a ha => ?_, fun a r e => ?_⟩
  · rcases List.mem_append.mp ha with z | z
    · exact L.st a z
    · rw [List.mem_singleton.mp z]; exact h1
  · rcases List.mem_append.mp ha with z | z
    · exact L.bit a z
    · rw [List.mem_singleton.mp z]; exact ⟨h2, h3⟩
  · cases l with
    | nil =>
      injection e with e1 e2
      subst e1
      exact h4 rfl
    | cons y ys =>
      injection e with e1 e2
      subst e1
      exact L.head y ys rfl
section
variable {P : Program} {w : World} {K : PySem.W.Frag} {mg : Str → Option Value} {base : Heap}
def spDrawnLine : Sp := fun vs H Q _ => ∃ (g : Addr) (many most : Nat) (n : Int), vs = [.ref g, .int (many : Nat), .int (most : Nat)] ∧ many ≤ 2 ∧ most ≤ 9 ∧ Gen H g n ∧ n + 100 ≤ 1073741824 ∧
  ∀ p rs l H', IsLine many l → l.length ≤ most → Keep g H H' → H p = none → H' p = some (.lst rs) → Lets H' rs l → Gen H' g (n + 100) → Q (.ref p) H'
theorem ok_drawnLine {f fr fL : Addr} {fd fdr dL : FuncData} (F : Fun K "_law_drawn_line" "_law_drawn_line" sDrawnLine f fd) (GR : FnOk P w K mg base CX0 2 fr fdr ["generator", "bound"] spRandom) (bR : Binds K fdr ["generator", "bound"] []) (kR : PySem.W.keepIn K (.ref fr) = true) (mR : mg "_law_random" = some (.ref fr))
    (GL : FnOk P w K mg base CX0 1 fL dL ["many"] spLawLetters) (bL : Binds K dL ["many"] []) (kL : PySem.W.keepIn K (.ref fL) = true) (mL : mg "_law_letters" = some (.ref fL)) (mRange : mg "range" = none) (mLen : mg "len" = none) : FnOk P w K mg base CX0 3 f fd ["generator", "many", "most"] spDrawnLine := by
  refine F.ok scDrawnLine (fun vs H Q E h => ?_) (fun cdv A outer s H vs Q E hr h => ?_)
  · obtain ⟨_, _, _, _, rfl, _⟩ := h
    rfl
  obtain ⟨g, many, most, n, rfl, m2, m9, gen, hn, q⟩ := h
  have nd := scDrawnLine.nd
  refine ⟨_, pss_cons (ps_par (i := 3) (j := 4) rfl nd rfl rfl (by decide) rfl rfl (pa_cons (pe_call GL (hr.mono (by decide)) rfl mL kL bL .nil pass0 (pa_cons (pv 1) pa_nil)) (pa_cons (pe_lst pa_nil) pa_nil)) (by rfl))
    (pss_cons (ps_for PassesOwn.never rfl (pi_range1 (by rfl) mRange (pa_cons (pe_call GR (hr.mono (by decide)) rfl mR kR bR .nil pass0 (pa_cons (pv 0) (pa_cons (pe_op op_add (pv 2) pe_int) pa_nil))) pa_nil)) (pg_name (i := 5) nd rfl (.inl rfl))
      (pss_cons (ps_set (i := 6) nd rfl (.inl rfl) (pe_ix (r := rIxL K) ix_list (pv 3) (pe_call GR (hr.mono (by decide)) rfl mR kR bR .nil pass0 (pa_cons (pv 0) (pa_cons (pe_callB call_len_seq (by rfl) mLen PySem.boot_len (pa_cons (pv 3) pa_nil)) pa_nil))) (fun _ _ => rfl)))
      (pss_one (ps_expr (pe_bm PySem.F.plainAttrs_list PySem.F.slot_list_append PySem.F.type_list_append mt_append (pv 4) (pa_cons
        (pe_ifExp (PW.pt (pw_or (pt_cmpR (op_neD hr.units) (pv 4) (pe_lst pa_nil) (nomark _)) (pw_or1 (pt_cmpR op_gt (pe_ix (r := rIxT K) ix_tup (pv 6) pe_int (fun _ _ => rfl)) pe_int (nomark _))))) (pv 6)
          (pe_tup (pa_cons (pe_op op_add pe_int (pe_call GR (hr.mono (by decide)) rfl mR kR bR .nil pass0 (pa_cons (pv 0) (pa_cons pe_int pa_nil)))) (pa_cons (pe_ix (r := rIxT K) ix_tup (pv 6) pe_int (fun _ _ => rfl)) pa_nil)))) pa_nil))))))
    (pss_one (ps_ret (pv 4)))), ?_⟩
  refine ⟨_, rfl, many, rfl, m2, fun ev es H1 s1 eE lE => ⟨Nat.zero_le _, fun pL nL => ⟨_, _, rfl, ?_⟩⟩⟩
  have gen1 := gen.same s1
  have nLg : pL ≠ g := gen1.ne nL
  have evg : ev ≠ g := fun z => by
    obtain ⟨a, b, c, e, _⟩ := gen1
    rw [← z, eE] at e
    injection e with e
    injection e with e
    rw [e] at lE
    cases h : lettersOf many with
    | nil => rw [h] at lE; cases lE
    | cons x r =>
      rw [h] at lE
      cases lE with
      | cons r _ =>
        obtain ⟨_, _, e, _⟩ := r
        cases e
  have g2 := same_new nL (o := .lst [])
  have f2 : L2.upd H1 pL (.lst []) pL = some (.lst []) := upd_same
  have eE2 := g2 _ _ eE
  have lE2 := lE.keep (tk_same g2)
  have gen2 := gen1.same g2
  generalize L2.upd H1 pL (.lst []) = H2 at g2 f2 eE2 lE2 gen2 ⊢
  have nLH := s1.free nL
  have s02 := s1.trans g2
  have les : es.length ≤ 12 ∧ 1 ≤ es.length := by
    have l0 : es.length = (lettersOf many).length := Paired.length lE
    have c : many = 0 ∨ many = 1 ∨ many = 2 := by omega
    rcases c with rfl | rfl | rfl <;> (rw [l0]; decide)
  refine ⟨.ref g, rfl, .int (most : Nat), rfl, _, _, rfl, rfl, g, _, n, rfl, gen2, by omega, by omega, by omega, fun t H3 t0 t1 gen3 b3 => ⟨t, rfl, by omega, by omega, ?_⟩⟩
  refine for_range (lo := 0) (n := t.toNat) (fun i σ J => ∃ (y5 y6 : Option V) (rs : List V) (l : Line), σ = [some (.ref g), some (.int (many : Nat)), some (.int (most : Nat)), some (.ref ev), some (.ref pL), y5, y6] ∧ Keep g H J ∧ J ev = some (.lst es) ∧ Lets J es (lettersOf many) ∧ J pL = some (.lst rs) ∧ Lets J rs l ∧ IsLine many l ∧ l.length = i ∧ Gen J g (n + 3 + 6 * i))
    ⟨none, none, [], [], rfl, (Keep.of_same s02).trans (Keep.of_but b3), (b3 _ evg).trans eE2, lE2.keep (tk_keep (Keep.of_but b3) gen2), (b3 _ nLg).trans f2, .nil, line_nil many, rfl, gen3.mono (by omega)⟩ (fun i σ J hi hP => ?_) fun σ J hP => ?_
  · obtain ⟨y5, y6, rs, l, rfl, kp, eEJ, lEJ, eL, lt, IL, ll, gn⟩ := hP
    refine ⟨.ref ev, rfl, .ref g, rfl, .ref ev, rfl, ev, es, rfl, .inl (SqL.of eEJ), g, (es.length : Nat), _, rfl, gn, by omega, by omega, by omega, fun r J1 r0 r1 gn1 b1 => ?_⟩
    obtain ⟨k, rfl⟩ : ∃ k : Nat, r = (k : Int) := ⟨r.toNat, by omega⟩
    have k1 := Keep.of_but b1
    have eE1 := (b1 _ evg).trans eEJ
    have lE1 := lEJ.keep (tk_keep k1 gn)
    have eL1 := (b1 _ nLg).trans eL
    have lt1 := lt.keep (tk_keep k1 gn)
    obtain ⟨tx, bx, x, hx, hv, h1, h2⟩ := lets_at lE1 (show k < (lettersOf many).length by rw [← Paired.length lE1]; omega)
    obtain ⟨x2, xl, x01⟩ := letters_mem (List.mem_of_getElem? hx)
    refine ⟨ev, es, _, .ref tx, rfl, rfl, SqL.of eE1, atI_nat hv, ?_⟩
    have lr : rs.length = l.length := Paired.length lt
    have kp1 := kp.trans k1
    refine ⟨.ref pL, rfl, .inl ⟨rfl, _, SqL.of eL1⟩, te_cut (fun v J2 => ∃ x : Letter, LetV J2 v x ∧ x.s ≤ 2 ∧ x.bits.length = many ∧ (∀ b ∈ x.bits, b = 0 ∨ b = 1) ∧ (l = [] → 0 < x.s) ∧ Keep g J1 J2 ∧ J2 pL = some (.lst rs) ∧ J2 ev = some (.lst es) ∧ Gen J2 g (n + 3 + 6 * (i + 1 : Nat))) (fun R hR => ?_) fun v J2 hv2 => ?_⟩
    · refine ⟨.ref pL, rfl, Nat.zero_le _, fun e ne => ?_⟩
      have g3 := same_new ne (o := .lst [])
      have f3 : L2.upd J1 e (.lst []) e = some (.lst []) := upd_same
      have eL3 := g3 _ _ eL1
      have eE3 := g3 _ _ eE1
      have lt3 := lt1.keep (tk_same g3)
      have h13 := g3 _ _ h1
      have h23 := g3 _ _ h2
      have gn3 := gn1.same g3
      generalize L2.upd J1 e (.lst []) = J3 at g3 f3 eL3 eE3 lt3 h13 h23 gn3 ⊢
      have same : LetV J3 (.ref tx) x := ⟨tx, bx, rfl, h13, h23⟩
      refine ⟨_, .list [], .lst (SqL.of eL3) (dp_letters lt3), .lst (SqL.of f3) .nil, shaped_line l, by decide +kernel, ?_⟩
      cases l with
      | cons y ys => exact ⟨true, rfl, iteT' rfl (iteT' rfl ⟨.ref tx, rfl, hR _ _ ⟨x, same, x2, xl, x01, (fun e => by cases e), Keep.of_same g3, eL3, eE3, gn3.mono (by omega)⟩⟩)⟩
      | nil =>
        refine ⟨false, rfl, iteF' rfl ⟨.ref tx, rfl, tx, [.int (x.s : Nat), .ref bx], 0, .int (x.s : Nat), rfl, rfl, .inl (.inl h13), atI_nat (j := 0) rfl, _, _, rfl, rfl, decide (0 < x.s), dec_pos, ?_⟩⟩
        by_cases z : 0 < x.s
        · rw [decide_eq_true z]
          exact iteT' rfl ⟨.ref tx, rfl, hR _ _ ⟨x, same, x2, xl, x01, fun _ => z, Keep.of_same g3, eL3, eE3, gn3.mono (by omega)⟩⟩
        · rw [decide_eq_false z]
          refine iteF' rfl ⟨.ref g, rfl, g, 2, _, rfl, gn3, by decide, by decide, by omega, fun r2 J4 r20 r21 gn4 b4 => ⟨_, _, rfl, rfl, ?_⟩⟩
          have tk4 := tk_keep (Keep.of_but b4) gn3
          refine ⟨.ref tx, rfl, tx, [.int (x.s : Nat), .ref bx], 1, .ref bx, rfl, rfl, .inl (.inl (tk4 _ _ h13)), atI_nat (j := 1) rfl, by show 2 ≤ sizeLine; decide, fun tn ntn => ?_⟩
          obtain ⟨c, rfl⟩ : ∃ c : Nat, r2 = (c : Int) := ⟨r2.toNat, by omega⟩
          have g5 := same_new ntn (o := .tup [.int ((1 + c : Nat) : Int), .ref bx])
          have f5 : L2.upd J4 tn (.tup [.int ((1 + c : Nat) : Int), .ref bx]) tn = some (.tup [.int ((1 + c : Nat) : Int), .ref bx]) := upd_same
          have e1 : ([(fun i j : Int => V.int (i + j)) 1 (c : Int), .ref bx] : List V) = [.int ((1 + c : Nat) : Int), .ref bx] := by
            show [V.int (1 + (c : Int)), .ref bx] = _
            rw [Int.natCast_add]
            rfl
          rw [e1]
          exact hR _ _ ⟨⟨1 + c, x.bits⟩, ⟨tn, bx, rfl, f5, g5 _ _ (tk4 _ _ h23)⟩, by show 1 + c ≤ 2; omega, xl, x01, fun _ => by show 0 < 1 + c; omega, ((Keep.of_same g3).trans (Keep.of_but b4)).trans (Keep.of_same g5), g5 _ _ ((b4 _ nLg).trans eL3), g5 _ _ ((b4 _ evg).trans eE3), (gn4.same g5).mono (by omega)⟩
    · obtain ⟨x', lx, a2, al, a01, ah, k2, eL2, eE3, gn2⟩ := hv2
      have tk2 := tk_keep k2 gn1
      have tk := tk_lst (ys := rs ++ [v]) eL2
      refine nil_read ⟨pL, rs, v, rfl, rfl, eL2, Nat.lt_of_le_of_lt (show rs.length ≤ 100 by omega) (by decide), _, _, rs ++ [v], l ++ [x'], rfl, (kp1.trans k2).upd_new nLH, ?_, (lE1.keep tk2).keep tk, upd_same, paired_snoc (letV_keep tk _ _ lx) ((lt1.keep tk2).keep tk), isLine_put IL a2 al a01 ah, by rw [List.length_append, List.length_singleton, ll], gn2.upd nLg.symm⟩
      have ne : ev ≠ pL := (ne_some nL eE).symm
      rw [upd_ne ne]
      exact eE3
  · obtain ⟨y5, y6, rs, l, rfl, kp, eEJ, lEJ, eL, lt, IL, ll, gn⟩ := hP
    exact ⟨.ref pL, rfl, q pL rs l J IL (by omega) kp nLH eL lt (gn.mono (by omega))⟩
end
end DQ

set_option Elab.async false
set_option linter.all false
set_option maxRecDepth 100000
set_option maxHeartbeats 2000000
namespace DQ
open PySem PySem.Spec PyProof.Rows L2
/-! ### the dict of the new names -/
def entF (f : Int → Int) (ns : List Int) : List (Key × V) := ns.map fun x => (Sum.inl x, V.int (f x))
theorem merge_fresh : ∀ (more acc : List (Key × V)), (∀ kv ∈ more, ∀ kw ∈ acc, kw.1 ≠ kv.1) → (more.map (·.1)).Nodup → mergeK acc more = acc ++ more
  | [], acc, _, _ => by simp [mergeK]
  | kv :: r, acc, h, nd => by
    have e : putK acc kv.1 kv.2 = acc ++ [kv] := by
      unfold putK
      rw [if_neg (fun z => ?_)]
      obtain ⟨kw, hw, e⟩ := List.any_eq_true.mp z
      exact h kv (List.mem_cons_self ..) kw hw (of_decide_eq_true e)
    show mergeK (putK acc kv.1 kv.2) r = acc ++ kv :: r
    rw [List.map_cons] at nd
    obtain ⟨n1, n2⟩ := List.nodup_cons.mp nd
    rw [e, merge_fresh r (acc ++ [kv]) (fun y hy kw hw => ?_) n2, List.append_assoc, List.singleton_append]
    rcases List.mem_append.mp hw with hw | hw
    · exact h y (List.mem_cons_of_mem _ hy) kw hw
    · rw [List.mem_singleton] at hw
      rw [hw]
      exact fun z => n1 (by rw [z]; exact List.mem_map.mpr ⟨y, hy, rfl⟩)
theorem entF_merge {f : Int → Int} {ns : List Int} (nd : ns.Nodup) : mergeK [] (entF f ns) = entF f ns := by
  rw [merge_fresh _ _ (fun _ _ _ h => by cases h) (by
    unfold entF
    rw [List.map_map]
    exact List.pairwise_map.mpr (nd.imp fun h e => h (by injection e))), List.nil_append]
theorem entF_val {f : Int → Int} {ns : List Int} : ∀ x ∈ ns, valV (entF f ns) (.inl x) = some (.int (f x)) := by
  unfold entF
  intro x hx
  induction ns with
  | nil => cases hx
  | cons y r ih =>
    rw [List.map_cons]
    by_cases e : y = x
    · rw [valV_pos (by rw [e]), e]
    · rw [valV_neg (fun z => e (by injection z))]
      rcases List.mem_cons.mp hx with h | h
      · exact absurd h.symm e
      · exact ih h
theorem entF_snd (f : Int → Int) (ns : List Int) : (entF f ns).map (·.2) = (ns.map f).map V.int := by
  unfold entF
  rw [List.map_map, List.map_map]
  rfl
/-- the dict at d tells the new names -/
def LedAt (H : Hp) (d : Addr) (f : Int → Int) (ns : List Int) : Prop := H d = some (.dK (entF f ns))
theorem LedAt.get {H : Hp} {d : Addr} {f : Int → Int} {ns : List Int} (h : LedAt H d f ns) {x : Int} (hx : x ∈ ns) : DGet H d (.int x) (some (.int (f x))) := by
  have g := DGet.k (k := Sum.inl x) h
  rw [entF_val x hx] at g
  exact g
theorem LedAt.same {H H' : Hp} {d : Addr} {f : Int → Int} {ns : List Int} (h : LedAt H d f ns) (s : Same H H') : LedAt H' d f ns := s _ _ h
theorem fact_ren (f : Int → Int) (x : Fact) : (x.ren f).v = .str x.kind :: .str x.word :: (x.nums.map f).map V.int := by cases x <;> rfl
theorem ren_nums (f : Int → Int) (x : Fact) : (x.ren f).nums = x.nums.map f := by cases x <;> rfl
end DQ

set_option Elab.async false
set_option linter.all false
set_option maxRecDepth 100000
set_option maxHeartbeats 8000000
namespace DQ
open PySem PySem.Spec PyProof.Rows L2
abbrev sTurned : Stmt := topS 59
abbrev NTu : List Str := ["generator", "store", "order", "number", "names", "at", "item", "fact", "facts"]
theorem scTurned : FnScope NTu ["generator", "store"] (defScope sTurned) := ⟨rfl, rfl, rfl, by decide +kernel, rfl, by decide +kernel, by decide +kernel⟩
def rTupOf (K : PySem.W.Frag) : List V → Hp → VK → Prop := fun xs H Q => ∃ p ys, xs = [V.ref p] ∧ ((SqL K H p ys ∧ ∀ l, H l = none → Q (.ref l) (upd H l (.tup ys))) ∨ (SqT K H p ys ∧ Q (.ref p) H))
abbrev scTF : Scope := { kind := .function, names := [(".0", .local), ("fact", .local), ("tuple", .globalImplicit), ("names", .cell)], isGenerator := false, isCoroutine := false, more := [] }
def zipK (ms vs : List Int) : List (Key × V) := (ms.zip vs).map fun p => ((Sum.inl p.1 : Key), V.int p.2)
theorem zipK_no {y : Int} : ∀ {ms vs : List Int}, y ∉ ms → valV (zipK ms vs) (.inl y) = none
  | [], _, _ => rfl
  | _ :: _, [], _ => rfl
  | x :: ms, v :: vs, h => by
    show valV ((Sum.inl x, V.int v) :: zipK ms vs) (.inl y) = none
    rw [valV_neg (fun z => h (by injection z with z; rw [z]; exact List.mem_cons_self ..))]
    exact zipK_no fun z => h (List.mem_cons_of_mem _ z)
theorem zipK_put {y v : Int} {ms vs : List Int} (h : y ∉ ms) (e : ms.length = vs.length) : putK (zipK ms vs) (.inl y) (.int v) = zipK (ms ++ [y]) (vs ++ [v]) := by
  rw [putK_new _ (zipK_no h)]
  unfold zipK
  rw [List.zip_append e, List.map_append]
  rfl
def nameF (ms vs : List Int) (x : Int) : Int := (vs[ms.idxOf x]?).getD 0
theorem nameF_at {ms vs : List Int} (nd : ms.Nodup) {k : Nat} {x v : Int} (hx : ms[k]? = some x) (hv : vs[k]? = some v) : nameF ms vs x = v := by
  obtain ⟨hk, e⟩ := List.getElem?_eq_some_iff.mp hx
  unfold nameF
  rw [← e, nd.idxOf_getElem k hk, hv]
  rfl
theorem nameF_ent {ms vs : List Int} (nd : ms.Nodup) (e : ms.length = vs.length) : zipK ms vs = entF (nameF ms vs) ms := by
  refine List.ext_getElem? fun k => ?_
  unfold zipK entF
  rw [List.getElem?_map, List.getElem?_map]
  by_cases hk : k < ms.length
  · have h1 : ms[k]? = some ms[k] := List.getElem?_eq_getElem hk
    have h2 : vs[k]? = some (vs[k]'(by omega)) := List.getElem?_eq_getElem _
    have h3 : (ms.zip vs)[k]? = some (ms[k], vs[k]'(by omega)) := by rw [List.getElem?_zip_eq_some]; exact ⟨h1, h2⟩
    rw [h3, h1]
    show some (Sum.inl ms[k], V.int (vs[k]'(by omega))) = some (Sum.inl ms[k], V.int (nameF ms vs ms[k]))
    rw [nameF_at nd h1 h2]
  · rw [List.getElem?_eq_none (show (ms.zip vs).length ≤ k by rw [List.length_zip]; omega), List.getElem?_eq_none (show ms.length ≤ k by omega)]
    rfl
theorem nameF_get {ms vs : List Int} (nd : ms.Nodup) (e : ms.length = vs.length) {x : Int} (h : x ∈ ms) : ∃ (k : Nat) (v : Int), ms[k]? = some x ∧ vs[k]? = some v ∧ nameF ms vs x = v := by
  obtain ⟨k, hk, ex⟩ := List.mem_iff_getElem.mp h
  have h1 : ms[k]? = some x := by rw [List.getElem?_eq_getElem hk, ex]
  exact ⟨k, vs[k]'(by omega), h1, List.getElem?_eq_getElem _, nameF_at nd h1 (List.getElem?_eq_getElem _)⟩
theorem nameF_inj {ms vs : List Int} (nd : ms.Nodup) (e : ms.length = vs.length) (up : vs.Pairwise (· < ·)) : ∀ x ∈ ms, ∀ y ∈ ms, nameF ms vs x = nameF ms vs y → x = y := fun x hx y hy h => by
  obtain ⟨j, a, h1, h2, h3⟩ := nameF_get nd e hx
  obtain ⟨k, b, h4, h5, h6⟩ := nameF_get nd e hy
  rw [h3, h6] at h
  subst h
  obtain ⟨hj, ej⟩ := List.getElem?_eq_some_iff.mp h2
  obtain ⟨hk, ek⟩ := List.getElem?_eq_some_iff.mp h5
  rcases Nat.lt_trichotomy j k with c | c | c
  · have := List.pairwise_iff_getElem.mp up j k hj hk c
    omega
  · subst c
    rw [h1] at h4
    injection h4
  · have := List.pairwise_iff_getElem.mp up k j hk hj c
    omega
section
variable {P : Program} {w : World} {K : PySem.W.Frag} {mg : Str → Option Value} {base : Heap}
def spTurned : Sp := fun vs H Q _ => ∃ (g : Addr) (v : V) (S : Store) (m : Nat) (n : Int), vs = [.ref g, v] ∧ m ≤ 9 ∧ Drawn m S ∧ StoAt (del H g) v S ∧ Gen H g n ∧ n + 3000 ≤ 1073741824 ∧
  ∀ (p d : Addr) (u : V) (f : Int → Int) (ns : List Int) (H' : Hp), Keep g H H' → H' p = some (.tup [u, .ref d]) → LedAt H' d f ns → ns.Perm S.items → StoAt H' u (S.ren f) → StoAt (del H' g) u (S.ren f) → Gen H' g (n + 3000) →
    (∀ x ∈ S.items, ∀ y ∈ S.items, f x = f y → x = y) → (∀ x ∈ S.items, 0 ≤ f x ∧ f x ≤ 1000000000) → Q (.ref p) H'
theorem ok_turned {f0 fO fr : Addr} {fd dO fdr : FuncData} (F : Fun K "_law_turned_store" "_law_turned_store" sTurned f0 fd) (GO : FnOk P w K mg base CX0 3 fO dO ["generator", "things"] (spOrder K)) (bO : Binds K dO ["generator", "things"] []) (kO : PySem.W.keepIn K (.ref fO) = true) (mO : mg "_law_drawn_order" = some (.ref fO))
    (GR : FnOk P w K mg base CX0 2 fr fdr ["generator", "bound"] spRandom) (bR : Binds K fdr ["generator", "bound"] []) (kR : PySem.W.keepIn K (.ref fr) = true) (mR : mg "_law_random" = some (.ref fr))
    (mEnum : mg "enumerate" = none) (mTuple : mg "tuple" = none) (mList : mg "list" = none) (mSorted : mg "sorted" = none) :
    FnOk P w K mg base CX0 4 f0 fd ["generator", "store"] spTurned := by
  refine F.ok scTurned (fun vs H Q E h => ?_) (fun cdv A outer s H vs Q E hr h => ?_)
  · obtain ⟨_, _, _, _, _, rfl, _⟩ := h
    rfl
  obtain ⟨g, v, S, m, n, rfl, hm, D, A1, G, hn, q⟩ := h
  have nd := scTurned.nd
  refine ⟨_, pss_cons (ps_asg (pe_tup (pa_cons (pe_call GO hr rfl mO kO bO .nil pass0 (pa_cons (pv 0) (pa_cons (pe_ix (r := rIxT K) ix_tup (pv 1) pe_int (fun _ _ => rfl)) pa_nil))) (pa_cons (pe_ix (r := rIxL K) ix_list (pe_lst (pa_cons (pe_un un_neg pe_int) (pa_cons (pe_un un_neg pe_int) (pa_cons (pe_op op_sub (pe_op op_pow pe_int pe_int) pe_int) pa_nil)))) (pe_call GR (hr.mono (by decide)) rfl mR kR bR .nil pass0 (pa_cons (pv 0) (pa_cons pe_int pa_nil))) (fun _ _ => rfl)) (pa_cons pe_dnewK pa_nil))))
        (pg_tup rfl (pgs_cons (pg_name (i := 2) nd rfl (.inl rfl)) (pgs_cons (pg_name (i := 3) nd rfl (.inl rfl)) (pgs_cons (pg_name (i := 4) nd rfl (.inr rfl)) pgs_nil)))))
    (pss_cons (ps_for PassesOwn.never rfl (pi_enum (by rfl) mEnum (pa_cons (pv 2) pa_nil)) (pg_tup rfl (pgs_cons (pg_name (i := 5) nd rfl (.inl rfl)) (pgs_cons (pg_name (i := 6) nd rfl (.inl rfl)) pgs_nil)))
      (pss_cons (ps_set (i := 3) nd rfl (.inl rfl) (pe_op op_add (pe_op op_add (pv 3) pe_int) (pe_call GR (hr.mono (by decide)) rfl mR kR bR .nil pass0 (pa_cons (pv 0) (pa_cons pe_int pa_nil)))))
      (pss_one (ps_dput (room1 hr) (pv 4) (pv 6) (pv 3) (by rfl)))))
    (pss_cons (ps_setLc (i := 8) (own := [("fact", 7)]) (wi := iList K (tOp (rIxT K) (tVar 1) (tC (.int 4)))) (g := gName 7) (tt := tYes) (te := tOp (rCatT K) (tSl (rSlT K) (tVar 7) tNoPart (tPart (tC (.int 2)))) (tCB (rTupOf K) (tCons (tLc (iTup K (tSl (rSlT K) (tVar 7) (tPart (tC (.int 2))) tNoPart)) (gName 6) tYes (tDGet (tVar 4) (tVar 6)) [6]) tNil))) rfl nd rfl rfl (sw_true rfl rfl rfl rfl) (pi_list (pe_ix (r := rIxT K) ix_tup (pv 1) pe_int (fun _ _ => rfl))) (blkOk_by (own := [("fact", 7)]) (N := NTu) (sc := defScope sTurned) (by decide +kernel)) (fun _ _ _ _ _ => pg_name (i := 7) nd rfl (Or.inl rfl)) (fun _ _ _ _ _ => pts_nil)
          (fun _ _ _ _ _ => by exact pe_op (r := rCatT K) op_catT (pe_slice (r := rSlT K) sl_tup (pv 7) po_none (po_some pe_int)) (pe_callTy (r := rTupOf K) call_tuple_of (by rfl) mTuple (by decide +kernel) (pa_cons
            (pe_lc (own := [("item", 6)]) (g := gName 6) (tt := tYes) rfl nd (pi_tupK (K := K) rfl (pe_slice (r := rSlT K) sl_tup (pv 7) (po_some pe_int) po_none)) (blkOk_by (own := [("item", 6)]) (N := NTu) (sc := scTF) (by decide +kernel)) (fun _ _ _ _ _ => pg_name (i := 6) nd rfl (Or.inl rfl)) (fun _ _ _ _ _ => pts_nil)
              (fun _ _ _ _ _ => pe_dget (room1 hr) (pv 4) (pv 6) (fun _ _ => rfl))) pa_nil))))
    (pss_one (ps_ret (pe_tup (pa_cons (pe_tup (pa_cons pe_str (pa_cons (pe_callTy call_list_of (by rfl) mList (by decide +kernel) (pa_cons (pe_ix (r := rIxT K) ix_tup (pv 1) pe_int (fun _ _ => rfl)) pa_nil)) (pa_cons (pe_callTy call_list_of (by rfl) mList (by decide +kernel) (pa_cons (pe_ix (r := rIxT K) ix_tup (pv 1) pe_int (fun _ _ => rfl)) pa_nil)) (pa_cons (pe_sortedVals rfl (pv 4) (by rfl) mSorted (by decide +kernel))
      (pa_cons (pe_callB (cr_sortD (enc := Fact.d) hr.units) (by rfl) mSorted (by decide +kernel) (pa_cons (pv 8) pa_nil)) pa_nil)))))) (pa_cons (pv 4) pa_nil))))))), ?_⟩
  obtain ⟨t, ma, ca, ia, fa, rsS, rfl, ht, hma, hca, hia, hfa, tpS⟩ := id A1
  have k0 : Same (del H g) H := del_le
  have fewI := D.few
  have iag : ia ≠ g := fun e => by rw [e, del_same'] at hia; cases hia
  refine ⟨.ref g, rfl, .ref t, rfl, t, _, 3, .ref ia, rfl, rfl, .inl (.inl (k0 _ _ ht)), atI_nat (j := 3) rfl, g, ia, S.items, n, rfl, SqL.of (k0 _ _ hia), iag, G, by omega, by omega, fun pO ms H1 pm kp npO epO G1 => ?_⟩
  have pOg := G.ne npO
  have ndI := D.items.nodup
  have ndm : ms.Nodup := pm.nodup_iff.mpr ndI
  have lms := pm.length_eq
  have G1 : Gen H1 g (n + 27) := G1.mono (by omega)
  refine ⟨1, rfl, 1, rfl, _, _, rfl, rfl, ⟨by decide, by decide, by decide⟩, _, _, rfl, rfl, by show 3 ≤ sizeLine; decide, fun l0 n0 => ?_⟩
  have g2 := same_new n0 (o := .lst [.int (-1), .int (-1), .int 999999930])
  have f2 : L2.upd H1 l0 (.lst [.int (-1), .int (-1), .int 999999930]) l0 = some (.lst [.int (-1), .int (-1), .int 999999930]) := upd_same
  have epO2 := g2 _ _ epO
  have G2 := G1.same g2
  have l0g := G1.ne n0
  have kp2 := kp.trans (Keep.of_same g2)
  rw [show ([(fun i : Int => V.int (-i)) 1, (fun i : Int => V.int (-i)) 1, (fun i j : Int => V.int (i - j)) ((10 : Int) ^ (9 : Int).toNat) 70] : List V) = [.int (-1), .int (-1), .int 999999930] by decide]
  generalize L2.upd H1 l0 (.lst [.int (-1), .int (-1), .int 999999930]) = H2 at g2 f2 epO2 G2 kp2 ⊢
  refine ⟨.ref g, rfl, g, 3, _, rfl, G2, by decide, by decide, by omega, fun r H3 r0 r1 G3 b3 => ?_⟩
  obtain ⟨v0, ev, v01, v02⟩ : ∃ v0 : Int, atI [V.int (-1), .int (-1), .int 999999930] r = some (.int v0) ∧ -1 ≤ v0 ∧ v0 ≤ 999999930 := by
    have c3 : r = 0 ∨ r = 1 ∨ r = 2 := by omega
    rcases c3 with rfl | rfl | rfl
    · exact ⟨_, rfl, by decide, by decide⟩
    · exact ⟨_, rfl, by decide, by decide⟩
    · exact ⟨_, rfl, by decide, by decide⟩
  have kp3 := kp2.trans (Keep.of_but b3)
  have epO3 := (b3 _ pOg).trans epO2
  refine ⟨l0, _, r, .int v0, rfl, rfl, SqL.of ((b3 _ l0g).trans f2), ev, fun d nd0 => ?_⟩
  have g4 := same_new nd0 (o := .dK [])
  have f4 : L2.upd H3 d (.dK []) d = some (.dK []) := upd_same
  have ndH : H d = none := Keep.free kp3 G.at nd0 G3.at
  have dg := G3.ne nd0
  generalize L2.upd H3 d (.dK []) = H4 at g4 f4 ⊢
  refine ⟨by show 3 ≤ sizeLine; decide, fun T0 nT0 => ?_⟩
  have g5 := same_new nT0 (o := .tup [.ref pO, .int v0, .ref d])
  have f5 : L2.upd H4 T0 (.tup [.ref pO, .int v0, .ref d]) T0 = some (.tup [.ref pO, .int v0, .ref d]) := upd_same
  have f45 := g5 _ _ f4
  have epO5 := g5 _ _ (g4 _ _ epO3)
  have kp5 := (kp3.trans (Keep.of_same g4)).trans (Keep.of_same g5)
  have G5 := (G3.same g4).same g5
  generalize L2.upd H4 T0 (.tup [.ref pO, .int v0, .ref d]) = H5 at g5 f5 f45 epO5 kp5 G5 ⊢
  have dpO : pO ≠ d := fun z => by rw [z, f45] at epO5; cases epO5
  refine ⟨T0, [.ref pO, .int v0, .ref d], rfl, .inl (.inl f5), rfl, .ref pO, _, rfl, .int v0, _, rfl, .ref d, [], rfl, rfl, ?_⟩
  refine ⟨.ref pO, rfl, pO, _, rfl, SqL.of epO5, for_it (walk_enum (K := K) (a := pO) (xs := ms.map V.int)) (fun k σ J => ∃ (num : Int) (y5 y6 : Option V) (vs : List Int), σ = [some (.ref g), some (.ref t), some (.ref pO), some (.int num), some (.ref d), y5, y6, none, none] ∧ Keep g H J ∧ J pO = some (.lst (ms.map V.int)) ∧ J d = some (.dK (zipK (ms.take k) vs)) ∧ vs.length = k ∧ vs.Pairwise (· < ·) ∧ (∀ x ∈ vs, 0 ≤ x ∧ x ≤ num) ∧ -1 ≤ num ∧ num ≤ 999999930 + 5 * k ∧ Gen J g (n + 30 + 3 * k))
    ⟨v0, none, none, [], rfl, kp5, epO5, f45, rfl, .nil, (fun _ h => nomatch h), v01, by omega, G5.mono (by omega)⟩ (fun k σ J _ hP => ?_) (fun k x σ J J' hk hP y => ?_) fun σ J hP => ?_⟩
  · obtain ⟨_, _, _, _, _, _, e, _⟩ := hP
    exact SqL.of e
  · obtain ⟨num, y5, y6, vs, rfl, kpJ, eO, eD, lv, up, bd, n1, n2, GJ⟩ := hP
    obtain ⟨T, x1, y1, rfl, nT, rfl, hx1, hy1⟩ := y
    obtain rfl : V.int (k : Nat) = x1 := by injection hx1
    obtain ⟨it, hit, rfl⟩ := at_map (show (ms.map V.int)[k]? = some y1 from hy1)
    have hkm : k < ms.length := (List.getElem?_eq_some_iff.mp hit).1
    have g1 := same_new nT (o := .tup [.int (k : Nat), .int it])
    have f1 : L2.upd J T (.tup [.int (k : Nat), .int it]) T = some (.tup [.int (k : Nat), .int it]) := upd_same
    have eO1 := g1 _ _ eO
    have eD1 := g1 _ _ eD
    have GJ1 := GJ.same g1
    have kpJ1 := kpJ.trans (Keep.of_same g1)
    generalize L2.upd J T (.tup [.int (k : Nat), .int it]) = J1 at g1 f1 eO1 eD1 GJ1 kpJ1 ⊢
    refine ⟨T, [.int (k : Nat), .int it], rfl, .inl (.inl f1), rfl, .int (k : Nat), [.int it], rfl, .int it, [], rfl, rfl, ?_⟩
    refine ⟨.int num, rfl, _, _, rfl, rfl, .ref g, rfl, g, 5, _, rfl, GJ1, by decide, by decide, by omega, fun r J2 r0 r1 GJ2 b2 => ⟨_, _, rfl, rfl, ?_⟩⟩
    have eD2 := (b2 _ dg).trans eD1
    have eO2 := (b2 _ pOg).trans eO1
    have nin : it ∉ ms.take k := fun h => by
      obtain ⟨j, hj, e⟩ := List.mem_iff_getElem.mp h
      rw [List.length_take] at hj
      rw [List.getElem_take] at e
      obtain ⟨_, e2⟩ := List.getElem?_eq_some_iff.mp hit
      have q1 := ndm.idxOf_getElem j (by omega)
      have q2 := ndm.idxOf_getElem k hkm
      rw [e] at q1
      rw [e2, q1] at q2
      omega
    have lk : (ms.take k).length = vs.length := by rw [List.length_take, lv]; omega
    refine ⟨.int (num + 1 + r), rfl, .ref d, rfl, .int it, rfl, d, _, rfl, DPut.k (k := .inl it) eD2 ?_, ?_⟩
    · unfold zipK
      rw [List.length_map, List.length_zip]
      exact Nat.lt_of_le_of_lt (show _ ≤ 100 by omega) (by decide)
    rw [zipK_put nin lk]
    refine ⟨num + 1 + r, _, _, vs ++ [num + 1 + r], rfl, (kpJ1.trans (Keep.of_but b2)).upd_new ndH, by rw [upd_ne dpO]; exact eO2, by rw [take_next hit]; exact upd_same, by rw [List.length_append, lv]; rfl, ?_, fun x hx => ?_, by omega, by omega, (GJ2.upd dg.symm).mono (by omega)⟩
    · refine List.pairwise_append.mpr ⟨up, List.pairwise_singleton _ _, fun x hx y hy => ?_⟩
      rw [List.mem_singleton] at hy
      have := bd x hx
      omega
    · rcases List.mem_append.mp hx with h | h
      · have := bd x h
        omega
      · rw [List.mem_singleton] at h
        omega
  obtain ⟨num, y5, y6, vs, rfl, kpJ, eO, eD, lv, up, bdv, n1, n2, GJ⟩ := hP
  rw [List.length_map] at lv n2 GJ eD
  rw [List.take_length, nameF_ent ndm lv.symm] at eD
  have injM := nameF_inj ndm lv.symm up
  have bdM : ∀ x ∈ ms, 0 ≤ nameF ms vs x ∧ nameF ms vs x ≤ 1000000000 := fun x hx => by
    obtain ⟨k, w, _, h2, h3⟩ := nameF_get ndm lv.symm hx
    rw [h3]
    have := bdv w (List.mem_of_getElem? h2)
    omega
  generalize nameF ms vs = f at eD injM bdM
  have inj : ∀ x ∈ S.items, ∀ y ∈ S.items, f x = f y → x = y := fun x hx y hy => injM x (pm.mem_iff.mpr hx) y (pm.mem_iff.mpr hy)
  have bd : ∀ x ∈ S.items, 0 ≤ f x ∧ f x ≤ 1000000000 := fun x hx => bdM x (pm.mem_iff.mpr hx)
  have numsG0 : LedAt J d f ms := eD
  have k8 : Same (del H g) J := (keep_del kpJ).trans del_le
  have GJ : Gen J g (n + 3000) := GJ.mono (by omega)
  refine seq_te2 (fun v J2 => ∃ R rs', v = .ref R ∧ Same J J2 ∧ J2 R = some (.lst rs') ∧ Tups J2 rs' ((S.facts.map (Fact.ren f)).map Fact.v)) (fun Rq hRq => ?_) fun vR J9 hvR => ?_
  · refine ⟨.ref t, rfl, t, _, 4, .ref fa, rfl, rfl, .inl (.inl (k8 _ _ ht)), atI_nat (j := 4) rfl, fa, rfl, ⟨_, SqL.of (k8 _ _ hfa)⟩, fun R nR => lc_it (walk_list (K := K) (a := fa) (xs := rsS)) (fun k H' => Same J H' ∧ ∃ rs' : List V, H' R = some (.lst rs') ∧ rs'.length ≤ k ∧ Tups H' rs' (((S.facts.take k).map (Fact.ren f)).map Fact.v))
      ⟨same_new nR, [], upd_same, Nat.le_refl _, .nil⟩ (fun k H' _ p => SqL.of (p.1 _ _ (k8 _ _ hfa))) (fun k v H6 H7 hlt p y => ?_) fun H9 p => ?_⟩
    · obtain ⟨s6, rs', eR, lr, tp'⟩ := p
      obtain ⟨rfl, hv⟩ := y
      obtain ⟨ft, tv, rfl, hft, htv⟩ := Tups.get tpS hv
      obtain ⟨x, hx, rfl⟩ := at_map htv
      have s06 := k8.trans s6
      have hin := nums_in (D.facts x (List.mem_of_getElem? hx))
      have lf := fact_len x
      obtain ⟨c1, c2⟩ := fact_cut x
      refine ⟨rfl, .ref ft, rfl, _, rfl, ft, _, rfl, .inl (.inl (s06 _ _ hft)), (fun z => absurd z.2 (by rcases lf with e | e <;> rw [e] <;> decide)), fun p1 n1 => ?_⟩
      rw [c1]
      have k1 := same_new n1 (o := .tup [.str x.kind, .str x.word])
      have m1 : L2.upd H7 p1 (.tup [.str x.kind, .str x.word]) p1 = some (.tup [.str x.kind, .str x.word]) := upd_same
      generalize L2.upd H7 p1 (.tup [.str x.kind, .str x.word]) = G1 at k1 m1 ⊢
      refine ⟨.ref ft, rfl, _, rfl, ft, _, rfl, .inl (.inl (k1 _ _ (s06 _ _ hft))), (fun z => absurd z.1 (by rcases lf with e | e <;> rw [e] <;> decide)), fun p2 n2 => ?_⟩
      rw [c2]
      have k2 := same_new n2 (o := .tup (x.nums.map V.int))
      have m2 : L2.upd G1 p2 (.tup (x.nums.map V.int)) p2 = some (.tup (x.nums.map V.int)) := upd_same
      generalize L2.upd G1 p2 (.tup (x.nums.map V.int)) = G2 at k2 m2 ⊢
      have s5G := (s6.trans k1).trans k2
      have numsG := numsG0.same s5G
      have ln := nums_len x
      refine ⟨p2, rfl, ⟨_, .inl (.inl m2)⟩, fun L2' nL2 => lc_vals (walk_tup (K := K) (a := p2) (xs := x.nums.map V.int)) ((x.nums.map f).map V.int) (by rw [List.length_map, List.length_map, List.length_map]) (Nat.lt_of_le_of_lt (show (x.nums.map V.int).length ≤ 10000 by rw [List.length_map]; omega) (by decide)) nL2 (fun _ s => .inl (.inl (s _ _ m2))) (fun _ _ _ _ y => by rw [y.1]; exact fun _ _ h => h)
        (fun l v G3 G4 w' hl hb' s6' y R2 hR2 => ?_) (fun G3 s6' e6 => ?_) (fun _ _ _ _ _ m h => m _ _ h)⟩
      · obtain ⟨rfl, hv2⟩ := y
        obtain ⟨i, hi, rfl⟩ := at_map hv2
        obtain rfl : w' = .int (f i) := by
          rw [List.getElem?_map, List.getElem?_map, hi] at hb'
          injection hb' with hb'
          exact hb'.symm
        exact ⟨rfl, .ref d, rfl, .int i, rfl, d, _, rfl, (numsG.same s6').get (pm.mem_iff.mpr (hin i (List.mem_of_getElem? hi))), hR2 _ fun _ _ h => h⟩
      refine ⟨L2', _, rfl, .inl ⟨SqL.of e6, fun p4 n4 => ?_⟩⟩
      have k3 := same_new n4 (o := .tup ((x.nums.map f).map V.int))
      have m3 : L2.upd G3 p4 (.tup ((x.nums.map f).map V.int)) p4 = some (.tup ((x.nums.map f).map V.int)) := upd_same
      generalize L2.upd G3 p4 (.tup ((x.nums.map f).map V.int)) = G4 at k3 m3 ⊢
      have k13 : Same G1 G4 := (k2.trans s6').trans k3
      have ne : (x.nums.map f).map V.int ≠ [] := by cases x <;> simp [Fact.nums]
      refine ⟨p1, p4, _, _, rfl, rfl, .inl (.inl (k13 _ _ m1)), .inl (.inl m3), by simp, by rw [List.length_map, List.length_map]; exact small1000' (show 2 + x.nums.length ≤ 1000 by omega), fun z => absurd z ne, fun _ T5 nT5 => ?_⟩
      rw [show [V.str x.kind, .str x.word] ++ (x.nums.map f).map V.int = (x.ren f).v by rw [fact_ren]; rfl]
      have k5 := same_new nT5 (o := .tup (x.ren f).v)
      have m5 : L2.upd G4 T5 (.tup (x.ren f).v) T5 = some (.tup (x.ren f).v) := upd_same
      generalize L2.upd G4 T5 (.tup (x.ren f).v) = G5 at k5 m5 ⊢
      have s75 : Same H7 G5 := (k1.trans k13).trans k5
      have eR7 := s75 _ _ eR
      have short := D.short
      have hi' : k < S.facts.length := (List.getElem?_eq_some_iff.mp hx).1
      refine ⟨rs', eR7, Nat.lt_of_le_of_lt (show rs'.length ≤ 10000 by omega) (by decide), same_upd (s6.trans s75) nR, rs' ++ [.ref T5], upd_same, ?_, ?_⟩
      · rw [List.length_append, List.length_singleton]
        omega
      · rw [take_next hx, List.map_append, List.map_append]
        exact (Tups.put m5 (tp'.keep (tk_same s75))).keep (tk_lst eR7)
    · obtain ⟨s9, rs', eR, _, tp'⟩ := p
      have lrS : rsS.length = S.facts.length := by rw [tpS.length, List.length_map]
      rw [lrS, List.take_length] at tp'
      exact hRq _ _ ⟨R, rs', rfl, s9, eR, tp'⟩
  obtain ⟨R, rs', rfl, s9, eR, tp'⟩ := hvR
  have G9 := GJ.same s9
  have k9 := k8.trans s9
  have L9 := numsG0.same s9
  have lmI : ms.length ≤ 9 := by omega
  refine ⟨.ref t, rfl, t, _, 1, .ref ma, rfl, rfl, .inl (.inl (k9 _ _ ht)), atI_nat (j := 1) rfl, ma, _, rfl, .inl (SqL.of (k9 _ _ hma)), fun pm1 npm => ?_⟩
  have g6 := same_new npm (o := .lst (S.marks.map V.str))
  have f6 : L2.upd J9 pm1 (.lst (S.marks.map V.str)) pm1 = some (.lst (S.marks.map V.str)) := upd_same
  have pmg := G9.ne npm
  generalize L2.upd J9 pm1 (.lst (S.marks.map V.str)) = H6 at g6 f6 ⊢
  have G6 := G9.same g6
  refine ⟨.ref t, rfl, t, _, 2, .ref ca, rfl, rfl, .inl (.inl (g6 _ _ (k9 _ _ ht))), atI_nat (j := 2) rfl, ca, _, rfl, .inl (SqL.of (g6 _ _ (k9 _ _ hca))), fun pc npc => ?_⟩
  have g7 := same_new npc (o := .lst (S.columns.map V.str))
  have f7 : L2.upd H6 pc (.lst (S.columns.map V.str)) pc = some (.lst (S.columns.map V.str)) := upd_same
  have pcg := G6.ne npc
  generalize L2.upd H6 pc (.lst (S.columns.map V.str)) = H7 at g7 f7 ⊢
  have G7 := G6.same g7
  have L7 := (L9.same g6).same g7
  refine ⟨.ref d, rfl, d, entF f ms, ms.map f, rfl, L7, entF_snd f ms, by rw [List.length_map]; omega, fun ys pi pm' sy npi => ?_⟩
  obtain rfl : ys = sortI (S.items.map f) := sortI_of (pm'.trans (pm.map f)) sy
  have g8 := same_new npi (o := .lst ((sortI (S.items.map f)).map V.int))
  have f8 : L2.upd H7 pi (.lst ((sortI (S.items.map f)).map V.int)) pi = some (.lst ((sortI (S.items.map f)).map V.int)) := upd_same
  have pig := G7.ne npi
  generalize L2.upd H7 pi (.lst ((sortI (S.items.map f)).map V.int)) = H8 at g8 f8 ⊢
  have G8 := G7.same g8
  have L8 := L7.same g8
  have s98 := (g6.trans g7).trans g8
  have eR8 := s98 _ _ eR
  have tp' := tp'.keep (tk_same s98)
  generalize hfs : S.facts.map (Fact.ren f) = fs at tp'
  have lenR : rs'.length = fs.length := by rw [tp'.length, List.length_map]
  have z1 : (rs'.zip fs).map (·.1) = rs' := List.map_fst_zip (Nat.le_of_eq lenR)
  have z2 : (rs'.zip fs).map (·.2) = fs := List.map_snd_zip (Nat.le_of_eq lenR.symm)
  refine ⟨.ref R, rfl, R, rs'.zip fs, rfl, ?_, fun z hz => ?_, ?_, Or.inl fun d hd => ?_, fun z hz => fact_depth _, fun pf npf => ?_⟩
  · rw [z1]
    exact SqL.of eR8
  · obtain ⟨a, e, h⟩ := tp'.zip z hz
    rw [e]
    exact fact_dp h
  · intro d hd d' hd'
    obtain ⟨x, _, rfl⟩ := List.mem_map.mp hd
    obtain ⟨y, _, rfl⟩ := List.mem_map.mp hd'
    exact fact_alike _ _
  · obtain ⟨x, _, rfl⟩ := List.mem_map.mp hd
    exact fact_tuple _
  have pmZ := List.mergeSort_perm (rs'.zip fs) (PySem.W.dataLe false fun z => z.2.d)
  have tz : ∀ z ∈ (rs'.zip fs).mergeSort (PySem.W.dataLe false fun z => z.2.d), ∃ a, z.1 = .ref a ∧ H8 a = some (.tup z.2.v) := fun z hz => tp'.zip z (pmZ.subset hz)
  have sm := sort_map (rs'.zip fs)
  rw [z2] at sm
  generalize (rs'.zip fs).mergeSort (PySem.W.dataLe false fun z => z.2.d) = zs at tz sm ⊢
  have g10 := same_new npf (o := .lst (zs.map (·.1)))
  have f10 : L2.upd H8 pf (.lst (zs.map (·.1))) pf = some (.lst (zs.map (·.1))) := upd_same
  have pfg := G8.ne npf
  generalize L2.upd H8 pf (.lst (zs.map (·.1))) = H10 at g10 f10 ⊢
  have G10 := G8.same g10
  refine nil_read ⟨by show 5 ≤ sizeLine; decide, fun T nT => ?_⟩
  have g11 := same_new nT (o := .tup [.str "store", .ref pm1, .ref pc, .ref pi, .ref pf])
  have f11 : L2.upd H10 T (.tup [.str "store", .ref pm1, .ref pc, .ref pi, .ref pf]) T = some (.tup [.str "store", .ref pm1, .ref pc, .ref pi, .ref pf]) := upd_same
  have Tg := G10.ne nT
  generalize L2.upd H10 T (.tup [.str "store", .ref pm1, .ref pc, .ref pi, .ref pf]) = H11 at g11 f11 ⊢
  have G11 := G10.same g11
  refine ⟨.ref d, rfl, by show 2 ≤ sizeLine; decide, fun p np => ?_⟩
  have g12 := same_new np (o := .tup [.ref T, .ref d])
  have f12 : L2.upd H11 p (.tup [.ref T, .ref d]) p = some (.tup [.ref T, .ref d]) := upd_same
  generalize L2.upd H11 p (.tup [.ref T, .ref d]) = H12 at g12 f12 ⊢
  have G12 := G11.same g12
  have tps := tups_of zs tz
  rw [sm] at tps
  have s10 : Same H10 H12 := g11.trans g12
  have s8' : Same H8 H12 := g10.trans s10
  have eT := g12 _ _ f11
  have em : H12 pm1 = some (.lst ((S.ren f).marks.map V.str)) := s8' _ _ (g8 _ _ (g7 _ _ f6))
  have ec : H12 pc = some (.lst ((S.ren f).columns.map V.str)) := s8' _ _ (g8 _ _ f7)
  have ei : H12 pi = some (.lst ((S.ren f).items.map V.int)) := s8' _ _ f8
  have ef : H12 pf = some (.lst (zs.map (·.1))) := s10 _ _ f10
  have etp : Tups H12 (zs.map (·.1)) ((S.ren f).facts.map Fact.v) := by
    show Tups H12 (zs.map (·.1)) ((sortF (S.facts.map (Fact.ren f))).map Fact.v)
    rw [hfs]
    exact tps.keep (tk_same s8')
  have kAll : Keep g H H12 := kpJ.trans (Keep.of_same ((s9.trans s98).trans s8'))
  have dl : ∀ {a : Addr} {o : HO}, a ≠ g → H12 a = some o → del H12 g a = some o := fun ne h => by rw [del_ne ne]; exact h
  refine q p d (.ref T) f ms H12 kAll f12 (L8.same s8') pm ⟨T, pm1, pc, pi, pf, _, rfl, eT, em, ec, ei, ef, etp⟩ ⟨T, pm1, pc, pi, pf, _, rfl, dl Tg eT, dl pmg em, dl pcg ec, dl pig ei, dl pfg ef, etp.keep (tk_del G12)⟩ G12 inj bd
end
end DQ

set_option Elab.async false
set_option linter.all false
set_option maxRecDepth 100000
set_option maxHeartbeats 4000000
namespace DQ
open PySem PySem.Spec PyProof.Rows L2
abbrev sLots : Stmt := topS 60
theorem scLots : FnScope ["line", "found", "at", "letter"] ["line"] (defScope sLots) := ⟨rfl, rfl, rfl, by decide +kernel, rfl, by decide +kernel, by decide +kernel⟩
abbrev natsV (q : List Nat) : List V := q.map fun k : Nat => V.int (k : Nat)
/-- lists of places, as they stand -/
def LotsV (H : Hp) (bs : List Addr) (qs : List (List Nat)) : Prop := Paired (fun b q => H b = some (.lst (natsV q))) bs qs
theorem lotsV_same {H H' : Hp} (s : Same H H') {bs : List Addr} {qs : List (List Nat)} (h : LotsV H bs qs) : LotsV H' bs qs := paired_mono (fun b q h => s _ _ h) h
theorem lotsV_upd {H : Hp} {a : Addr} {o : HO} : ∀ {bs : List Addr} {qs : List (List Nat)}, a ∉ bs → LotsV H bs qs → LotsV (upd H a o) bs qs
  | _, _, _, .nil => .nil
  | _, _, n, .cons h t => .cons (by rw [upd_ne (fun z => n (by rw [z]; exact List.mem_cons_self ..))]; exact h) (lotsV_upd (fun z => n (List.mem_cons_of_mem _ z)) t)
theorem paired_last {α β : Type} {R : α → β → Prop} : ∀ {xs : List α} {ys : List β} {y : β}, Paired R xs (ys ++ [y]) → ∃ xs0 x, xs = xs0 ++ [x] ∧ Paired R xs0 ys ∧ R x y
  | _, [], _, .cons h t => by
    cases t
    exact ⟨[], _, rfl, .nil, h⟩
  | _, _ :: _, _, .cons h t => by
    obtain ⟨xs0, x, e, h1, h2⟩ := paired_last t
    exact ⟨_ :: xs0, x, by rw [e]; rfl, .cons h h1, h2⟩
theorem lots_len (l : Line) : ∀ k, (lotsTo l k).length ≤ k
  | 0 => Nat.le_refl _
  | k + 1 => by
    have ih := lots_len l k
    rw [lotsTo]
    split
    · rw [List.length_append, List.length_singleton]
      omega
    · rw [List.length_append, List.length_singleton, List.length_dropLast]
      omega
section
variable {P : Program} {w : World} {K : PySem.W.Frag} {mg : Str → Option Value} {base : Heap}
def spLots (K : PySem.W.Frag) : Sp := fun vs H Q _ => ∃ (a : Addr) (rs : List V) (many : Nat) (l : Line), vs = [.ref a] ∧ SqL K H a rs ∧ Lets H rs l ∧ IsLine many l ∧ l.length ≤ 2000 ∧ ∀ p bs H', Same H H' → H p = none → H' p = some (.lst (bs.map V.ref)) → (∀ b ∈ bs, H b = none) → LotsV H' bs (lotsOf l) → Q (.ref p) H'
theorem ok_lots {f : Addr} {fd : FuncData} (F : Fun K "_law_lots" "_law_lots" sLots f fd) (mEnum : mg "enumerate" = none) (mLen : mg "len" = none) : FnOk P w K mg base CX0 1 f fd ["line"] (spLots K) := by
  refine F.ok scLots (fun vs H Q E h => ?_) (fun cdv A outer s H vs Q E hr h => ?_)
  · obtain ⟨_, _, _, _, rfl, _⟩ := h
    rfl
  obtain ⟨a, rs, many, l, rfl, sq, lt, IL, few, q⟩ := h
  have nd := scLots.nd
  have lr : rs.length = l.length := Paired.length lt
  refine ⟨_, pss_cons (ps_set (i := 1) nd rfl (.inl rfl) (pe_lst pa_nil))
    (pss_cons (ps_for PassesOwn.never rfl (pi_enum (by rfl) mEnum (pa_cons (pv 0) pa_nil)) (pg_tup rfl (pgs_cons (pg_name (i := 2) nd rfl (.inl rfl)) (pgs_cons (pg_name (i := 3) nd rfl (.inl rfl)) pgs_nil)))
      (pss_cons (ps_if (pt_cmpR op_gt (pe_ix (r := rIxT K) ix_tup (pv 3) pe_int (fun _ _ => rfl)) pe_int (nomark _)) (pss_one (ps_expr (pe_bm PySem.F.plainAttrs_list PySem.F.slot_list_append PySem.F.type_list_append mt_append (pv 1) (pa_cons (pe_lst pa_nil) pa_nil)))) pss_nil)
      (pss_one (ps_expr (pe_bm PySem.F.plainAttrs_list PySem.F.slot_list_append PySem.F.type_list_append mt_append (pe_ix (r := rIxL K) ix_list (pv 1) (pe_op op_sub (pe_callB call_len_seq (by rfl) mLen PySem.boot_len (pa_cons (pv 1) pa_nil)) pe_int) (fun _ _ => rfl)) (pa_cons (pv 2) pa_nil))))))
    (pss_one (ps_ret (pv 1)))), ?_⟩
  refine ⟨by decide, fun pF nF => ?_⟩
  have g0 := same_new nF (o := .lst [])
  have f0 : L2.upd H pF (.lst []) pF = some (.lst []) := upd_same
  generalize L2.upd H pF (.lst []) = H0 at g0 f0 ⊢
  refine ⟨_, rfl, a, rs, rfl, L2.Same.seq g0 sq, for_it (walk_enum (K := K) (a := a) (xs := rs)) (fun k σ J => ∃ y2 y3 bs, σ = [some (.ref a), some (.ref pF), y2, y3] ∧ Same H J ∧ J pF = some (.lst (bs.map V.ref)) ∧ LotsV J bs (lotsTo l k) ∧ bs.Nodup ∧ ∀ b ∈ bs, H b = none ∧ b ≠ pF)
    ⟨none, none, [], rfl, g0, f0, .nil, List.nodup_nil, (fun _ h => nomatch h)⟩ (fun k σ J _ ⟨_, _, _, _, sJ, _⟩ => L2.Same.seq sJ sq) (fun k x σ J J' hk hP y => ?_) fun σ J hP => ?_⟩
  · obtain ⟨y2, y3, bs, rfl, sJ, eF, lv, ndb, fb⟩ := hP
    obtain ⟨T, x1, y1, rfl, nT, rfl, hx1, hy1⟩ := y
    obtain rfl : V.int (k : Nat) = x1 := by injection hx1
    rw [lr] at hk
    obtain ⟨t1, lb, x, hx, hv, h1, h2⟩ := lets_at (lt.keep (tk_same sJ)) hk
    rw [show rs[k]? = some y1 from hy1] at hv
    injection hv with hv
    subst hv
    have g1 := same_new nT (o := .tup [.int (k : Nat), .ref t1])
    have f1 : L2.upd J T (.tup [.int (k : Nat), .ref t1]) T = some (.tup [.int (k : Nat), .ref t1]) := upd_same
    generalize L2.upd J T (.tup [.int (k : Nat), .ref t1]) = J1 at g1 f1 ⊢
    have sx := sAt_of hx
    have sJ1 := sJ.trans g1
    have eF1 := g1 _ _ eF
    have lv1 := lotsV_same g1 lv
    have lbs : bs.length ≤ 2000 := by
      have := Paired.length lv
      have := lots_len l k
      omega
    refine ⟨T, [.int (k : Nat), .ref t1], rfl, .inl (.inl f1), rfl, .int (k : Nat), [.ref t1], rfl, .ref t1, [], rfl, rfl, ?_⟩
    refine try_cut (fun σ' J' => σ' = [some (.ref a), some (.ref pF), some (.int (k : Nat)), some (.ref t1)] ∧ Same H J' ∧ ∃ bs b L0 u, J' pF = some (.lst ((bs ++ [b]).map V.ref)) ∧ bs.length ≤ 2000 ∧ LotsV J' bs L0 ∧ J' b = some (.lst (natsV u)) ∧ u.length ≤ 2000 ∧ lotsTo l (k + 1) = L0 ++ [u ++ [k]] ∧ (bs ++ [b]).Nodup ∧ ∀ c ∈ bs ++ [b], H c = none ∧ c ≠ pF) (fun D' go => ?_) fun σ' J' hP2 => ?_
    · refine ⟨.ref t1, rfl, t1, [.int (x.s : Nat), .ref lb], 0, .int (x.s : Nat), rfl, rfl, .inl (.inl (g1 _ _ h1)), atI_nat (j := 0) rfl, _, _, rfl, rfl, decide (0 < x.s), dec_pos, ?_⟩
      by_cases z : 0 < x.s
      · rw [decide_eq_true z]
        refine iteT' rfl ⟨.ref pF, rfl, .inl ⟨rfl, _, SqL.of eF1⟩, Nat.zero_le _, fun b nb => ?_⟩
        have g2 := same_new nb (o := .lst [])
        have f2 : L2.upd J1 b (.lst []) b = some (.lst []) := upd_same
        have eF2 := g2 _ _ eF1
        have bF : b ≠ pF := ne_some nb eF1
        have bb : b ∉ bs := fun m => by
          obtain ⟨i, hi, e⟩ := List.mem_iff_getElem.mp m
          obtain ⟨u, _, hu⟩ := paired_at lv1 (show bs[i]? = some b by rw [List.getElem?_eq_getElem hi, e])
          rw [nb] at hu
          cases hu
        refine nil_read ⟨pF, bs.map V.ref, .ref b, rfl, rfl, eF2, Nat.lt_of_le_of_lt (show (bs.map V.ref).length ≤ 3000 by rw [List.length_map]; omega) (by decide), go _ _ ⟨rfl, same_upd (sJ1.trans g2) nF, bs, b, lotsTo l k, [], by rw [upd_same, List.map_append]; rfl, lbs, lotsV_upd (fun m => (fb _ m).2 rfl) (lotsV_same g2 lv1), by rw [upd_ne bF]; exact f2, by simp, by rw [lotsTo, if_pos (by omega)]; rfl, ?_, fun c hc => ?_⟩⟩
        · rw [List.nodup_append]
          exact ⟨ndb, by simp, fun c hc d hd e => bb (by rw [List.mem_singleton.mp hd] at e; rwa [← e])⟩
        · rcases List.mem_append.mp hc with m | m
          · exact fb c m
          · rw [List.mem_singleton.mp m]
            exact ⟨sJ1.free nb, bF⟩
      · rw [decide_eq_false z]
        have zk : sAt l k = 0 := by omega
        have kp := zero_pos IL hk zk
        obtain ⟨k', rfl⟩ : ∃ k', k = k' + 1 := ⟨k - 1, by omega⟩
        obtain ⟨L0, n, e, hb, _⟩ := lots_run IL k' (by omega)
        have lv2 := lv1
        rw [e] at lv2
        obtain ⟨bs0, b, rfl, p1, p2⟩ := paired_last lv2
        refine iteF' rfl (go _ _ ⟨rfl, sJ1, bs0, b, L0, _, eF1, by rw [List.length_append] at lbs; omega, p1, p2, by rw [List.length_range']; omega, ?_, ndb, fb⟩)
        rw [lotsTo, if_neg (by omega), e, List.dropLast_concat, List.getLast?_append, List.getLast?_singleton]
        rfl
    · obtain ⟨rfl, s2, bs2, b, L0, u, eF2, lb2, lv2, eb, lu, el, nd2, fr⟩ := hP2
      have bF := (fr b (List.mem_append_right _ (List.mem_singleton.mpr rfl)))
      have bb : b ∉ bs2 := fun m => (List.nodup_append.mp nd2).2.2 b m b (List.mem_singleton.mpr rfl) rfl
      refine ⟨.ref pF, rfl, .ref pF, rfl, pF, _, rfl, .inl (SqL.of eF2), _, _, rfl, rfl, pF, _, (bs2.length : Nat), .ref b, rfl, ?_, SqL.of eF2, atI_nat (by rw [List.getElem?_map, List.getElem?_append_right (Nat.le_refl _), Nat.sub_self]; rfl), .inl ⟨rfl, _, SqL.of eb⟩, .int (k : Nat), rfl, nil_read ⟨b, natsV u, .int (k : Nat), rfl, rfl, eb, Nat.lt_of_le_of_lt (show (natsV u).length ≤ 3000 by rw [List.length_map]; omega) (by decide), _, _, bs2 ++ [b], rfl, same_upd s2 bF.1, by rw [upd_ne bF.2.symm]; exact eF2, ?_, nd2, fr⟩⟩
      · rw [List.length_map, List.length_append]
        show V.int (((bs2.length + 1 : Nat) : Int) - 1) = V.int (bs2.length : Nat)
        rw [show ((bs2.length + 1 : Nat) : Int) - 1 = (bs2.length : Nat) by omega]
      · rw [el]
        refine paired_snoc (R := fun c q => L2.upd J' b (.lst (natsV u ++ [V.int ((k : Nat) : Int)])) c = some (.lst (natsV q))) ?_ (lotsV_upd (o := .lst (natsV u ++ [V.int ((k : Nat) : Int)])) bb lv2)
        rw [upd_same]
        show _ = some (HO.lst ((u ++ [k]).map _))
        rw [List.map_append]
        rfl
  · obtain ⟨y2, y3, bs, rfl, sJ, eF, lv, ndb, fb⟩ := hP
    rw [lr] at lv
    exact ⟨.ref pF, rfl, q pF bs J sJ nF eF (fun b hb => (fb b hb).1) lv⟩
end
end DQ

set_option Elab.async false
set_option linter.all false
set_option maxRecDepth 100000
set_option maxHeartbeats 1000000
namespace DQ
open PySem PySem.Spec PyProof.Rows L2
/-! ### the due line of a store under other names -/
abbrev castQ (q : List Nat) : List Int := q.map fun k : Nat => (k : Int)
abbrev namQ (f : Int → Int) (q : List Nat) : List Int := q.map fun k : Nat => f (k : Int)
def idxQ (f : Int → Int) (l : Line) (q : List Nat) : Nat := if sAt l (q.headD 0) = 2 then (namQ f q).idxOf (minI (namQ f q)) else 0
def rotQ (f : Int → Int) (l : Line) (q : List Nat) : List Nat := q.drop (idxQ f l q) ++ q.take (idxQ f l q)
def emitQ (l : Line) (s : Nat) (r : List Nat) : Line := emitI (fun i => bitsAt l i.toNat) s (castQ r)
def dueOf (f : Int → Int) (l : Line) (Qs : List (List Nat)) : Line := Qs.flatMap fun q => emitQ l (sAt l (q.headD 0)) (rotQ f l q)
def planQ (f : Int → Int) (l : Line) (Qs : List (List Nat)) : List (Nat × List Int) := Qs.map fun q => (sAt l (q.headD 0), namQ f q)
theorem rot_same (f : Int → Int) (l : Line) (q : List Nat) : rotI (sAt l (q.headD 0), namQ f q) = namQ f (rotQ f l q) := by
  unfold rotI rotL rotQ idxQ
  by_cases s2 : sAt l (q.headD 0) = 2
  · rw [if_pos s2, if_pos s2]
    show List.drop _ (namQ f q) ++ List.take _ (namQ f q) = _
    rw [namQ, namQ, List.map_append, List.map_drop, List.map_take]
  · rw [if_neg s2, if_neg s2, List.drop_zero, List.take_zero, List.append_nil]
theorem emit_same {f : Int → Int} {l : Line} {bits : Int → List Int} {s : Nat} : ∀ {r : List Nat}, (∀ k ∈ r, bits (f (k : Int)) = bitsAt l k) → emitI bits s (namQ f r) = emitQ l s r
  | [], _ => rfl
  | x :: r, h => by
    show (⟨s, bits (f (x : Int))⟩ : Letter) :: ((r.map fun k : Nat => f (k : Int)).map fun y => (⟨0, bits y⟩ : Letter)) = ⟨s, bitsAt l ((x : Nat) : Int).toNat⟩ :: ((r.map fun k : Nat => (k : Int)).map fun y => (⟨0, bitsAt l y.toNat⟩ : Letter))
    rw [h x (List.mem_cons_self ..), Int.toNat_natCast, List.map_map, List.map_map]
    congr 1
    refine List.map_congr_left fun k hk => ?_
    show (⟨0, bits (f (k : Int))⟩ : Letter) = ⟨0, bitsAt l ((k : Nat) : Int).toNat⟩
    rw [h k (List.mem_cons_of_mem _ hk), Int.toNat_natCast]
theorem rotQ_mem {f : Int → Int} {l : Line} {q : List Nat} {k : Nat} : k ∈ rotQ f l q ↔ k ∈ q := by
  unfold rotQ
  rw [List.mem_append, Or.comm, ← List.mem_append, List.take_append_drop]
theorem due_out {f : Int → Int} {l : Line} {bits : Int → List Int} {Qs : List (List Nat)} (h : ∀ q ∈ Qs, ∀ k ∈ q, bits (f (k : Int)) = bitsAt l k) : outI bits (planQ f l Qs) = dueOf f l Qs := by
  unfold outI planQ dueOf
  rw [List.flatMap_map]
  refine flat_congr fun q hq => ?_
  rw [rot_same]
  exact emit_same fun k hk => h q hq k (rotQ_mem.mp hk)
theorem chain_ren {fw bw fw' bw' : Int → Int} {f : Int → Int} {s : Nat} {q : List Nat} (C : Chain fw bw s (castQ q)) (h1 : ∀ k ∈ q, fw' (f (k : Int)) = hat f (fw (k : Int))) (h2 : ∀ k ∈ q, bw' (f (k : Int)) = hat f (bw (k : Int))) : Chain fw' bw' s (namQ f q) := by
  have get : ∀ {j : Nat} {x : Int}, (namQ f q)[j]? = some x → ∃ k, q[j]? = some k ∧ x = f (k : Int) ∧ (castQ q)[j]? = some (k : Int) ∧ k ∈ q := fun {j x} h => by
    rw [List.getElem?_map] at h
    cases e : q[j]? with
    | none => rw [e] at h; cases h
    | some k =>
      rw [e] at h
      cases h
      exact ⟨k, rfl, rfl, by rw [List.getElem?_map, e]; rfl, List.mem_of_getElem? e⟩
  have hn : ∀ k : Nat, hat f ((k : Nat) : Int) = f (k : Int) := fun k => if_neg (by omega)
  refine ⟨fun e => ?_, fun j x y hx hy => ?_, fun x y hx hy => ?_⟩
  · have := C.ne
    cases q with
    | nil => exact this rfl
    | cons _ _ => cases e
  · obtain ⟨k, _, rfl, c1, m1⟩ := get hx
    obtain ⟨k', _, rfl, c2, m2⟩ := get hy
    obtain ⟨e1, e2⟩ := C.step j _ _ c1 c2
    rw [h1 k m1, h2 k' m2, e1, e2, hn, hn]
    exact ⟨rfl, rfl⟩
  · obtain ⟨k, _, rfl, c1, m1⟩ := get hx
    rw [List.length_map] at hy
    obtain ⟨k', _, rfl, c2, m2⟩ := get hy
    have c2' : (castQ q)[(castQ q).length - 1]? = some (k' : Int) := by rw [List.length_map]; exact c2
    rcases C.ends _ _ c1 c2' with ⟨s2, e1, e2⟩ | ⟨s2, e1, e2⟩
    · exact .inl ⟨s2, by rw [h1 k' m2, e1, hn], by rw [h2 k m1, e2, hn]⟩
    · exact .inr ⟨s2, by rw [h1 k' m2, e1]; rfl, by rw [h2 k m1, e2]; rfl⟩
theorem plan_of {ms : List Str} {l : Line} {f : Int → Int} {I : List Int} {fw bw : Int → Int} {Qs : List (List Nat)} (L : IsLine ms.length l) (pm : Qs.Perm (lotsOf l)) (ord : Qs.Pairwise fun q r => minI (namQ f q) < minI (namQ f r)) (asc : I.Pairwise (· < ·)) (pi : ((List.range l.length).map fun k : Nat => f (k : Int)).Perm I)
    (h1 : ∀ k < l.length, fw (f (k : Int)) = hat f (fwdOf (lineStore ms "next" l).facts "next" (k : Int))) (h2 : ∀ k < l.length, bw (f (k : Int)) = hat f (bwdOf (lineStore ms "next" l).facts "next" (k : Int))) : Plan I fw bw (planQ f l Qs) := by
  obtain ⟨ok, fl⟩ := lots_ok L
  have inL : ∀ q ∈ Qs, ∀ k ∈ q, k < l.length := fun q hq k hk => by
    have : k ∈ (lotsOf l).flatten := List.mem_flatten.mpr ⟨q, pm.subset hq, hk⟩
    rw [fl] at this
    exact List.mem_range.mp this
  refine ⟨asc, fun p hp => ?_, ?_, ?_⟩
  · obtain ⟨q, hq, rfl⟩ := List.mem_map.mp hp
    exact chain_ren (lot_chain L (ok q (pm.subset hq))) (fun k hk => h1 k (inL q hq k hk)) fun k hk => h2 k (inL q hq k hk)
  · unfold planQ
    rw [List.flatMap_map]
    have e1 : (Qs.flatMap fun q => namQ f q) = (Qs.flatten).map fun k : Nat => f (k : Int) := by rw [List.map_flatten, List.flatMap_def]
    rw [e1]
    have e2 : (Qs.flatten).Perm (List.range l.length) := by
      rw [← fl]
      exact pm.flatten
    exact (e2.map _).trans pi
  · unfold planQ
    exact List.pairwise_map.mpr ord
theorem min_eq {ns : List Int} {m : Int} (h : m ∈ ns) (le : ∀ y, y ∈ ns → m ≤ y) : m = minI ns := by
  have h1 := min_le m h
  have h2 := le _ (min_mem (fun e => by rw [e] at h; cases h))
  omega
/-- rows by their least: sorted, they rise -/
def rowD (f : Int → Int) (l : Line) (q : List Nat) : PyData := .tuple [.int (minI (namQ f q)), .int (sAt l (q.headD 0) : Nat), .list ((castQ (rotQ f l q)).map PyData.int)]
theorem rowD_lt {f : Int → Int} {l : Line} {q r : List Nat} (h : minI (namQ f q) < minI (namQ f r)) : PySem.W.dataLt (rowD f l q) (rowD f l r) = true := by
  unfold PySem.W.dataLt rowD
  simp only [PySem.W.keyToks, PySem.W.keyToksAll, List.cons_append, List.nil_append]
  rw [PyProof.Rows.lex_self (O := itemOrd), PySem.W.lex_atom (fun e => by injection e with e; omega)]
  simp only [PyProof.Rows.lexLt]
  simp
  exact decide_eq_true h
theorem rowD_sorted {f : Int → Int} {l : Line} {zs : List (V × List Nat)} (nd : (zs.map fun z => minI (namQ f z.2)).Nodup) : ((zs.mergeSort (PySem.W.dataLe false fun z => rowD f l z.2)).map (·.2)).Pairwise fun q r => minI (namQ f q) < minI (namQ f r) := by
  have pm : (zs.mergeSort (PySem.W.dataLe false fun z => rowD f l z.2)).Perm zs := List.mergeSort_perm _ _
  have nd2 := (pm.map fun z => minI (namQ f z.2)).nodup_iff.mpr nd
  have so := PySem.W.sort_pairwise (PySem.W.sortLe_total (listOrd itemOrd) false fun z : V × List Nat => PySem.W.keyToks (rowD f l z.2)) zs
  refine List.pairwise_map.mpr ?_
  refine (List.pairwise_and_iff.mpr ⟨so, List.pairwise_map.mp nd2⟩).imp fun {a b} h => ?_
  have z : (!PySem.W.dataLt (rowD f l b.2) (rowD f l a.2)) = true := h.1
  rcases Int.lt_trichotomy (minI (namQ f a.2)) (minI (namQ f b.2)) with c | c | c
  · exact c
  · exact absurd c h.2
  · rw [rowD_lt c] at z
    cases z
end DQ

set_option Elab.async false
set_option linter.all false
set_option maxRecDepth 100000
set_option maxHeartbeats 8000000
namespace DQ
open PySem PySem.Spec PyProof.Rows L2
abbrev sDue : Stmt := topS 61
abbrev NDu : List Str := ["line", "names", "lots", "found", "lot", "at", "told", "least", "start", "place"]
theorem scDue : FnScope NDu ["line", "names"] (defScope sDue) := ⟨rfl, rfl, rfl, by decide +kernel, rfl, by decide +kernel, by decide +kernel⟩
theorem gset_seq {i j : Nat} {v : V} {te : TE} {rest : TS} {D : Ends} {σ : L2.St} {H : Hp} (Pz : V → Hp → Prop) (h1 : ∀ R : VK, (∀ x H2, Pz x H2 → R x H2) → te (σ.set i (some v)) H R) (h2 : ∀ x H2, Pz x H2 → rest D ((σ.set i (some v)).set j (some x)) H2) : gName i v σ H (fun σ2 H2 => tSeq (tAsg te (gName j)) rest D σ2 H2) := h1 _ h2
theorem natsV_cast (r : List Nat) : natsV r = (castQ r).map V.int := by
  rw [List.map_map]
  rfl
theorem emitQ_len (l : Line) (s : Nat) (r : List Nat) : (emitQ l s r).length = r.length := by
  unfold emitQ
  rw [emit_len, List.length_map]
theorem emitQ_get {l : Line} {s : Nat} {r : List Nat} {i k : Nat} (h : r[i]? = some k) : (emitQ l s r)[i]? = some ⟨if i = 0 then s else 0, bitsAt l k⟩ := by
  have := emit_get (bits := fun i => bitsAt l i.toNat) (s := s) (r := castQ r) (t := i) (x := (k : Int)) (by rw [List.getElem?_map, h]; rfl)
  unfold emitQ
  rw [this]
  rw [Int.toNat_natCast]
theorem rotQ_len (f : Int → Int) (l : Line) (q : List Nat) : (rotQ f l q).length = q.length := by
  unfold rotQ
  rw [List.length_append, Nat.add_comm, ← List.length_append, List.take_append_drop]
theorem due_len (f : Int → Int) (l : Line) : ∀ Qs : List (List Nat), (dueOf f l Qs).length = Qs.flatten.length
  | [] => rfl
  | q :: r => by
    have ih := due_len f l r
    unfold dueOf at ih ⊢
    rw [List.flatMap_cons, List.length_append, ih, emitQ_len, rotQ_len, List.flatten_cons, List.length_append]
theorem flat_take {α : Type} (Qs : List (List α)) (k : Nat) : (Qs.take k).flatten.length ≤ Qs.flatten.length := by
  have : ((Qs.take k) ++ (Qs.drop k)).flatten.length = Qs.flatten.length := by rw [List.take_append_drop]
  rw [List.flatten_append, List.length_append] at this
  omega
theorem alike_ints : ∀ xs ys : List Int, PySem.W.alikeAll (xs.map PyData.int) (ys.map PyData.int) = true
  | [], [] => rfl
  | [], _ :: _ => rfl
  | _ :: _, [] => rfl
  | x :: xs, y :: ys => by
    have ih := alike_ints xs ys
    show (true && PySem.W.alikeAll (xs.map PyData.int) (ys.map PyData.int)) = true
    rw [ih]
    rfl
theorem rowD_alike (f : Int → Int) (l : Line) (q r : List Nat) : PySem.W.alike (rowD f l q) (rowD f l r) = true := by
  show (true && (true && (PySem.W.alikeAll _ _ && true))) = true
  rw [alike_ints]
  rfl
theorem rowD_depth (f : Int → Int) (l : Line) (q : List Nat) : (rowD f l q).depth ≤ 8 := by
  show max 0 (max 0 (max (PyData.depthAll ((castQ (rotQ f l q)).map PyData.int) + 1) 0)) + 1 ≤ 8
  rw [(flat_ints _).2]
  decide
def RowZ (f : Int → Int) (l : Line) (G : Hp) (z : V × List Nat) : Prop := ∃ t b, z.1 = .ref t ∧ G t = some (.tup [.int (minI (namQ f z.2)), .int (sAt l (z.2.headD 0) : Nat), .ref b]) ∧ G b = some (.lst (natsV (rotQ f l z.2)))
theorem rowZ_same {f : Int → Int} {l : Line} {G G' : Hp} (s : Same G G') {z : V × List Nat} (h : RowZ f l G z) : RowZ f l G' z := by
  obtain ⟨t, b, e, h1, h2⟩ := h
  exact ⟨t, b, e, s _ _ h1, s _ _ h2⟩
theorem mins_nd {many : Nat} {f : Int → Int} {l : Line} (L : IsLine many l) (inj : ∀ j k : Nat, j < l.length → k < l.length → f j = f k → j = k) : ((lotsOf l).map fun q => minI (namQ f q)).Nodup := by
  obtain ⟨ok, fl⟩ := lots_ok L
  have ndf : (lotsOf l).flatten.Nodup := by rw [fl]; exact List.nodup_range
  have inL : ∀ q ∈ lotsOf l, ∀ k ∈ q, k < l.length := fun q hq k hk => by
    have : k ∈ (lotsOf l).flatten := List.mem_flatten.mpr ⟨q, hq, hk⟩
    rw [fl] at this
    exact List.mem_range.mp this
  refine List.pairwise_map.mpr (List.Pairwise.imp_of_mem (fun {q r} hq hr hd e => ?_) (List.pairwise_flatten.mp ndf).2)
  have mq : ∀ q ∈ lotsOf l, ∃ k ∈ q, minI (namQ f q) = f (k : Int) := fun q hq => by
    have ne : namQ f q ≠ [] := by
      obtain ⟨h, n, e, _⟩ := ok q hq
      rw [e, List.range'_succ]
      simp
    obtain ⟨k, hk, e⟩ := List.mem_map.mp (min_mem ne)
    exact ⟨k, hk, e.symm⟩
  obtain ⟨k, hk, e1⟩ := mq q hq
  obtain ⟨k', hk', e2⟩ := mq r hr
  rw [e1, e2] at e
  have := inj k k' (inL q hq k hk) (inL r hr k' hk') e
  subst this
  exact hd k hk k hk' rfl
section
variable {P : Program} {w : World} {K : PySem.W.Frag} {mg : Str → Option Value} {base : Heap}
def spDue (K : PySem.W.Frag) : Sp := fun vs H Q _ => ∃ (a d : Addr) (rs : List V) (many : Nat) (l : Line) (f : Int → Int) (ns : List Int), vs = [.ref a, .ref d] ∧ H a = some (.lst rs) ∧ Lets H rs l ∧ IsLine many l ∧ l.length ≤ 100 ∧ LedAt H d f ns ∧ (∀ k : Nat, k < l.length → (k : Int) ∈ ns) ∧
  (∀ j k : Nat, j < l.length → k < l.length → f j = f k → j = k) ∧ ∀ p rs2 Qs H', Same H H' → Qs.Perm (lotsOf l) → (Qs.Pairwise fun q r => minI (namQ f q) < minI (namQ f r)) → H' p = some (.lst rs2) → Lets H' rs2 (dueOf f l Qs) → Q (.ref p) H'
theorem ok_due {f0 fL : Addr} {fd dL : FuncData} (F : Fun K "_law_due_line" "_law_due_line" sDue f0 fd) (GL : FnOk P w K mg base CX0 1 fL dL ["line"] (spLots K)) (bL : Binds K dL ["line"] []) (kL : PySem.W.keepIn K (.ref fL) = true) (mL : mg "_law_lots" = some (.ref fL))
    (mMin : mg "min" = none) (mSorted : mg "sorted" = none) (mEnum : mg "enumerate" = none) : FnOk P w K mg base CX0 2 f0 fd ["line", "names"] (spDue K) := by
  refine F.ok scDue (fun vs H Q E h => ?_) (fun cdv A outer s H vs Q E hr h => ?_)
  · obtain ⟨_, _, _, _, _, _, _, rfl, _⟩ := h
    rfl
  obtain ⟨a, d, rs, many, l, f, ns, rfl, ha, lt, IL, few, led, nsm, inj, q⟩ := h
  have nd := scDue.nd
  have lr : rs.length = l.length := Paired.length lt
  refine ⟨_, pss_cons (ps_par (i := 2) (j := 3) rfl nd rfl rfl (by decide) rfl rfl (pa_cons (pe_lst pa_nil) (pa_cons (pe_lst pa_nil) pa_nil)) (by rfl))
    (pss_cons (ps_for PassesOwn.never rfl (pi_list (pe_call GL (hr.mono (by decide)) rfl mL kL bL .nil pass0 (pa_cons (pv 0) pa_nil))) (pg_name (i := 4) nd rfl (.inl rfl))
      (pss_cons (ps_setLc (i := 6) (own := [("at", 5)]) (wi := iList K (tVar 4)) (g := gName 5) (tt := tYes) (te := tDGet (tVar 1) (tVar 5)) rfl nd rfl rfl (sw_true rfl rfl rfl rfl) (pi_list (pv 4)) (blkOk_by (own := [("at", 5)]) (N := NDu) (sc := defScope sDue) (by decide +kernel)) (fun _ _ _ _ _ => pg_name (i := 5) nd rfl (Or.inl rfl)) (fun _ _ _ _ _ => pts_nil) (fun _ _ _ _ _ => pe_dget (room1 hr) (pv 1) (pv 5) (fun _ _ => rfl)))
      (pss_cons (ps_set (i := 7) nd rfl (.inl rfl) (pe_ifExp (pt_cmpR op_eq (pe_ix (r := rIxT K) ix_tup (pe_ix (r := rIxL K) ix_list (pv 0) (pe_ix (r := rIxL K) ix_list (pv 4) pe_int (fun _ _ => rfl)) (fun _ _ => rfl)) pe_int (fun _ _ => rfl)) pe_int (nomark _))
          (pe_bm PySem.F.plainAttrs_list PySem.F.slot_list_index PySem.F.type_list_index mt_index (pv 6) (pa_cons (pe_callB (cr_min rfl) (by rfl) mMin (by decide +kernel) (pa_cons (pv 6) pa_nil)) pa_nil)) pe_int))
      (pss_one (ps_expr (pe_bm PySem.F.plainAttrs_list PySem.F.slot_list_append PySem.F.type_list_append mt_append (pv 2) (pa_cons (pe_tup (pa_cons (pe_callB (cr_min rfl) (by rfl) mMin (by decide +kernel) (pa_cons (pv 6) pa_nil))
          (pa_cons (pe_ix (r := rIxT K) ix_tup (pe_ix (r := rIxL K) ix_list (pv 0) (pe_ix (r := rIxL K) ix_list (pv 4) pe_int (fun _ _ => rfl)) (fun _ _ => rfl)) pe_int (fun _ _ => rfl))
          (pa_cons (pe_op op_cat (pe_slice (r := rSlL K) sl_list (pv 4) (po_some (pv 7)) po_none) (pe_slice (r := rSlL K) sl_list (pv 4) po_none (po_some (pv 7)))) pa_nil)))) pa_nil)))))))
    (pss_cons (ps_for PassesOwn.never rfl (pi_list (pe_callB (cr_sortD (enc := rowD f l) hr.units) (by rfl) mSorted (by decide +kernel) (pa_cons (pv 2) pa_nil))) (pg_tup rfl (pgs_cons (pg_name (i := 7) nd rfl (.inl rfl)) (pgs_cons (pg_name (i := 8) nd rfl (.inr rfl)) (pgs_cons (pg_name (i := 4) nd rfl (.inl rfl)) pgs_nil))))
      (pss_one (ps_set (i := 3) nd rfl (.inl rfl) (pe_op op_cat (pv 3) (pe_lc (own := [("at", 5), ("place", 9)]) (g := gTup K 2 (gCons (gName 5) (gCons (gName 9) gNil))) (tt := tYes) (te := tTup (tCons (tIf (tTest (tOp rEq (tVar 5) (tC (.int 0)))) (tVar 8) (tC (.int 0))) (tCons (tOp (rIxT K) (tOp (rIxL K) (tVar 0) (tVar 9)) (tC (.int 1))) tNil))) rfl nd (pi_enum (by rfl) mEnum (pa_cons (pv 4) pa_nil)) (blkOk_by (own := [("at", 5), ("place", 9)]) (N := NDu) (sc := defScope sDue) (by decide +kernel))
          (fun _ _ _ _ _ => pg_tup rfl (pgs_cons (pg_name (i := 5) nd rfl (Or.inl rfl)) (pgs_cons (pg_name (i := 9) nd rfl (Or.inl rfl)) pgs_nil))) (fun _ _ _ _ _ => pts_nil)
          (fun _ _ _ _ _ => pe_tup (pa_cons (pe_ifExp (pt_cmpR op_eq (pv 5) pe_int (by rfl)) (pv 8) pe_int) (pa_cons (pe_ix (r := rIxT K) ix_tup (pe_ix (r := rIxL K) ix_list (pv 0) (pv 9) (fun _ _ => rfl)) pe_int (fun _ _ => rfl)) pa_nil))))))))
    (pss_one (ps_ret (pv 3))))), ?_⟩
  refine ⟨Nat.zero_le _, fun pL nL => ⟨Nat.zero_le _, fun pF nF => ⟨_, _, rfl, ?_⟩⟩⟩
  have g1 := same_new nL (o := .lst [])
  have f1 : L2.upd H pL (.lst []) pL = some (.lst []) := upd_same
  generalize L2.upd H pL (.lst []) = H1 at g1 f1 nF ⊢
  have g2 := same_new nF (o := .lst [])
  have f2 : L2.upd H1 pF (.lst []) pF = some (.lst []) := upd_same
  have f12 := g2 _ _ f1
  have pFL : pF ≠ pL := ne_some nF f1
  generalize L2.upd H1 pF (.lst []) = H2 at g2 f2 f12 ⊢
  have s02 := g1.trans g2
  have aL : a ≠ pL := (ne_some nL ha).symm
  have dL : d ≠ pL := (ne_some nL led).symm
  refine ⟨.ref a, rfl, a, rs, many, l, rfl, SqL.of (s02 _ _ ha), lt.keep (tk_same s02), IL, by omega, fun p bs HB sB nB eB fB lv => ?_⟩
  have s0B := s02.trans sB
  have eLB := sB _ _ f12
  have pL2 : p ≠ pL := ne_some nB f12
  have bL2 : ∀ b ∈ bs, b ≠ pL := fun b hb => ne_some (fB b hb) f12
  obtain ⟨ok, fl⟩ := lots_ok IL
  have inL : ∀ q ∈ lotsOf l, ∀ k ∈ q, k < l.length := fun q hq k hk => by
    have : k ∈ (lotsOf l).flatten := List.mem_flatten.mpr ⟨q, hq, hk⟩
    rw [fl] at this
    exact List.mem_range.mp this
  have lenQ : ∀ q ∈ lotsOf l, q.length ≤ 100 := fun q hq => by
    obtain ⟨h, n, rfl, _, _, hn, _⟩ := ok q hq
    rw [List.length_range']
    omega
  have lenL : (lotsOf l).length ≤ 100 := Nat.le_trans (lots_len l _) few
  refine ⟨p, rfl, ⟨_, SqL.of eB⟩, for_list (K := K) (a := p) (xs := bs.map V.ref) (fun k σ J => ∃ (y4 y6 y7 : Option V) (zs : List (V × List Nat)), σ = [some (.ref a), some (.ref d), some (.ref pL), some (.ref pF), y4, none, y6, y7, none, none] ∧ Keep pL HB J ∧ J pL = some (.lst (zs.map (·.1))) ∧ zs.map (·.2) = (lotsOf l).take k ∧ ∀ z ∈ zs, RowZ f l (del J pL) z)
    ⟨none, none, none, [], rfl, Keep.refl _ _, eLB, rfl, (fun _ h => nomatch h)⟩ (fun k σ J _ ⟨_, _, _, _, _, kp, _⟩ => SqL.of (kp _ _ pL2 eB)) (fun k x σ J hx hP => ?_) fun σ J hP => ?_⟩
  · obtain ⟨y4, y6, y7, zs, rfl, kp, eL, ez, rz⟩ := hP
    obtain ⟨b, hb, rfl⟩ := at_map hx
    obtain ⟨q, hq, hbq⟩ := paired_at lv hb
    have mq := List.mem_of_getElem? hq
    have eb := kp _ _ (bL2 b (List.mem_of_getElem? hb)) hbq
    have ea := kp _ _ aL (s0B _ _ ha)
    have ledJ : LedAt J d f ns := kp _ _ dL (s0B _ _ led)
    have tkJ : TupKeep H J := fun c t e => kp c _ (fun z => by rw [z, nL] at e; cases e) (s0B _ _ e)
    have ltJ := lt.keep tkJ
    obtain ⟨h0, n, eq, _, _, hn, _⟩ := ok q mq
    have hd0 : q.headD 0 = h0 := by rw [eq]; rfl
    have q0 : q[0]? = some h0 := by rw [eq]; rfl
    obtain ⟨th, lb, xh, hxh, hvh, hth, _⟩ := lets_at ltJ (show h0 < l.length by omega)
    have sh : sAt l (q.headD 0) = xh.s := by rw [hd0]; exact sAt_of hxh
    have lq := lenQ q mq
    have posq : 0 < (namQ f q).length := by rw [List.length_map, eq, List.length_range']; omega
    refine gset_seq (fun v J2 => ∃ D, v = .ref D ∧ Same J J2 ∧ J2 D = some (.lst ((namQ f q).map V.int))) (fun R hR => ?_) fun v J2 hv2 => ?_
    · refine ⟨.ref b, rfl, b, rfl, ⟨_, SqL.of eb⟩, fun D nD => lc_vals (walk_list (K := K) (a := b) (xs := natsV q)) ((namQ f q).map V.int) (by rw [List.length_map, List.length_map, List.length_map]) (Nat.lt_of_le_of_lt (show (natsV q).length ≤ 100 by rw [List.length_map]; exact lq) (by decide)) nD (fun _ s => SqL.of (s _ _ eb)) (fun _ _ _ _ y => by rw [y.1]; exact fun _ _ h => h) (fun i v J3 J4 w hi hw s3 y R' hR' => ?_) (fun J3 s3 e3 => hR _ _ ⟨D, rfl, s3, e3⟩) (fun _ _ _ _ _ m h => m _ _ h)⟩
      obtain ⟨rfl, hv⟩ := y
      obtain ⟨kk, hkk, rfl⟩ := at_map hv
      obtain rfl : w = .int (f (kk : Int)) := by
        rw [List.getElem?_map, List.getElem?_map, hkk] at hw
        injection hw with hw
        exact hw.symm
      exact ⟨rfl, .ref d, rfl, .int (kk : Nat), rfl, d, _, rfl, (ledJ.same s3).get (nsm kk (inL q mq kk (List.mem_of_getElem? hkk))), hR' _ fun _ _ h => h⟩
    obtain ⟨D, rfl, s2, eD⟩ := hv2
    have eb2 := s2 _ _ eb
    have ea2 := s2 _ _ ea
    have hth2 := s2 _ _ hth
    have eL2 := s2 _ _ eL
    refine seq_te (fun v J3 => v = .int (idxQ f l q : Nat) ∧ J3 = J2) (fun R hR => ?_) fun v J3 hv3 => ?_
    · refine ⟨.ref a, rfl, .ref b, rfl, b, _, 0, .int (h0 : Nat), rfl, rfl, SqL.of eb2, atI_nat (j := 0) (by rw [List.getElem?_map, q0]; rfl), a, rs, _, .ref th, rfl, rfl, SqL.of ea2, atI_nat hvh, th, _, 0, .int (xh.s : Nat), rfl, rfl, .inl (.inl hth2), atI_nat (j := 0) rfl, rfl, ?_⟩
      by_cases e2 : xh.s = 2
      · refine ⟨true, by rw [e2]; rfl, iteT' rfl ⟨.ref D, rfl, .inl ⟨rfl, _, SqL.of eD⟩, .ref D, rfl, D, namQ f q, rfl, SqL.of eD, posq, fun m hm hle => ?_⟩⟩
        have em := min_eq hm hle
        have ii : idxQ f l q = (namQ f q).idxOf m := by unfold idxQ; rw [if_pos (sh.trans e2), em]
        have hlt : (namQ f q).idxOf m < (namQ f q).length := List.idxOf_lt_length_of_mem hm
        refine nil_read ⟨D, _, .int m, (namQ f q).idxOf m, .int m, rfl, rfl, SqL.of eD, rfl, flat_intV _, ?_, by simp [eqV], fun j z' hj hz => ?_, ?_⟩
        · rw [List.getElem?_map, List.getElem?_eq_getElem hlt, List.getElem_idxOf hlt]
          rfl
        · obtain ⟨z0, hz0, rfl⟩ := at_map hz
          show (z0 == m) = false
          exact beq_false_of_ne fun e => idx_first j hj (by rw [← e]; exact hz0)
        · rw [← ii]
          exact hR _ _ ⟨rfl, rfl⟩
      · refine ⟨false, by simp; omega, iteF' rfl (hR _ _ ⟨?_, rfl⟩)⟩
        unfold idxQ
        rw [if_neg (fun e => e2 (sh.symm.trans e))]
        rfl
    obtain ⟨rfl, rfl⟩ := hv3
    refine ⟨.ref pL, rfl, .inl ⟨rfl, _, SqL.of eL2⟩, .ref D, rfl, D, namQ f q, rfl, SqL.of eD, posq, fun m hm hle => ?_⟩
    obtain rfl := min_eq hm hle
    refine ⟨.ref a, rfl, .ref b, rfl, b, _, 0, .int (h0 : Nat), rfl, rfl, SqL.of eb2, atI_nat (j := 0) (by rw [List.getElem?_map, q0]; rfl), a, rs, _, .ref th, rfl, rfl, SqL.of ea2, atI_nat hvh, th, _, 0, .int (xh.s : Nat), rfl, rfl, .inl (.inl hth2), atI_nat (j := 0) rfl, ?_⟩
    refine ⟨.ref b, rfl, .int (idxQ f l q : Nat), rfl, (idxQ f l q : Nat), rfl, b, _, rfl, SqL.of eb2, fun p1 n1 => ?_⟩
    rw [cut_drop]
    have g3 := same_new n1 (o := .lst ((natsV q).drop (idxQ f l q)))
    have f3 : L2.upd J3 p1 (.lst ((natsV q).drop (idxQ f l q))) p1 = some (.lst ((natsV q).drop (idxQ f l q))) := upd_same
    generalize L2.upd J3 p1 (.lst ((natsV q).drop (idxQ f l q))) = J4 at g3 f3 ⊢
    refine ⟨.ref b, rfl, .int (idxQ f l q : Nat), rfl, (idxQ f l q : Nat), rfl, b, _, rfl, SqL.of (g3 _ _ eb2), fun p2 n2 => ?_⟩
    rw [cut_take (by omega), Int.toNat_natCast]
    have g4 := same_new n2 (o := .lst ((natsV q).take (idxQ f l q)))
    have f4 : L2.upd J4 p2 (.lst ((natsV q).take (idxQ f l q))) p2 = some (.lst ((natsV q).take (idxQ f l q))) := upd_same
    generalize L2.upd J4 p2 (.lst ((natsV q).take (idxQ f l q))) = J5 at g4 f4 ⊢
    have er : (natsV q).drop (idxQ f l q) ++ (natsV q).take (idxQ f l q) = natsV (rotQ f l q) := by
      unfold rotQ
      rw [natsV, natsV, List.map_append, List.map_drop, List.map_take]
    refine ⟨p1, p2, _, _, rfl, rfl, g4 _ _ f3, f4, ?_, fun p3 n3 => ?_⟩
    · rw [← List.length_append, er, List.length_map, rotQ_len]
      exact Nat.le_trans lq (by decide)
    rw [er]
    have g5 := same_new n3 (o := .lst (natsV (rotQ f l q)))
    have f5 : L2.upd J5 p3 (.lst (natsV (rotQ f l q))) p3 = some (.lst (natsV (rotQ f l q))) := upd_same
    generalize L2.upd J5 p3 (.lst (natsV (rotQ f l q))) = J6 at g5 f5 ⊢
    refine ⟨by show 3 ≤ sizeLine; decide, fun t nt => ?_⟩
    rw [← sh]
    have g6 := same_new nt (o := .tup [.int (minI (namQ f q)), .int (sAt l (q.headD 0) : Nat), .ref p3])
    have f6 : L2.upd J6 t (.tup [.int (minI (namQ f q)), .int (sAt l (q.headD 0) : Nat), .ref p3]) t = some (.tup [.int (minI (namQ f q)), .int (sAt l (q.headD 0) : Nat), .ref p3]) := upd_same
    generalize L2.upd J6 t (.tup [.int (minI (namQ f q)), .int (sAt l (q.headD 0) : Nat), .ref p3]) = J7 at g6 f6 ⊢
    have s27 : Same J3 J7 := ((g3.trans g4).trans g5).trans g6
    have eL7 := s27 _ _ eL2
    have lz : zs.length = ((lotsOf l).take k).length := by rw [← ez, List.length_map]
    have p3L : p3 ≠ pL := ne_some n3 (g4 _ _ (g3 _ _ eL2))
    have tL : t ≠ pL := ne_some nt (g5 _ _ (g4 _ _ (g3 _ _ eL2)))
    refine nil_read ⟨pL, _, .ref t, rfl, rfl, eL7, Nat.lt_of_le_of_lt (show (zs.map (·.1)).length ≤ 100 by rw [List.length_map, lz, List.length_take]; omega) (by decide), _, _, _, zs ++ [(.ref t, q)], rfl, ?_, ?_, ?_, fun z hz => ?_⟩
    · exact fun c o ne h => by
        rw [upd_ne ne]
        exact s27 _ _ (s2 _ _ (kp c o ne h))
    · rw [upd_same, List.map_append]
      rfl
    · rw [List.map_append, ez, take_next hq]
      rfl
    · rw [del_upd]
      rcases List.mem_append.mp hz with m | m
      · exact rowZ_same (same_del (s2.trans s27)) (rz z m)
      · rw [List.mem_singleton.mp m]
        exact ⟨t, p3, rfl, by rw [del_ne tL]; exact f6, by rw [del_ne p3L]; exact g6 _ _ f5⟩
  · obtain ⟨y4, y6, y7, zs, rfl, kp, eL, ez, rz⟩ := hP
    have lbs : bs.length = (lotsOf l).length := Paired.length lv
    rw [List.length_map, lbs, List.take_length] at ez
    have rzJ : ∀ z ∈ zs, RowZ f l J z := fun z hz => rowZ_same del_le (rz z hz)
    refine ⟨.ref pL, rfl, pL, zs, rfl, SqL.of eL, fun z hz => ?_, ?_, Or.inl fun d hd => ?_, fun z _ => rowD_depth _ _ _, fun pS nS => ?_⟩
    · obtain ⟨t, b, e, h1, h2⟩ := rzJ z hz
      rw [e]
      refine .tup (.inl (.inl h1)) (.cons (.int _) (.cons (.int _) (.cons (.lst (SqL.of h2) ?_) .nil)))
      rw [natsV_cast]
      exact dp_ints _
    · intro d hd d' hd'
      obtain ⟨x, _, rfl⟩ := List.mem_map.mp hd
      obtain ⟨y, _, rfl⟩ := List.mem_map.mp hd'
      exact rowD_alike _ _ _ _
    · obtain ⟨x, _, rfl⟩ := List.mem_map.mp hd
      exact ⟨_, _, rfl⟩
    have pmZ := List.mergeSort_perm zs (PySem.W.dataLe false fun z => rowD f l z.2)
    have ord := rowD_sorted (f := f) (l := l) (zs := zs) (by
      have := mins_nd IL inj
      rw [← ez, List.map_map] at this
      exact this)
    have pmQ : ((zs.mergeSort (PySem.W.dataLe false fun z => rowD f l z.2)).map (·.2)).Perm (lotsOf l) := by
      rw [← ez]
      exact pmZ.map _
    have rzS : ∀ z ∈ zs.mergeSort (PySem.W.dataLe false fun z => rowD f l z.2), RowZ f l J z := fun z hz => rzJ z (pmZ.subset hz)
    generalize zs.mergeSort (PySem.W.dataLe false fun z => rowD f l z.2) = zs' at ord pmQ rzS ⊢
    have g3 := same_new nS (o := .lst (zs'.map (·.1)))
    have f3 : L2.upd J pS (.lst (zs'.map (·.1))) pS = some (.lst (zs'.map (·.1))) := upd_same
    generalize L2.upd J pS (.lst (zs'.map (·.1))) = J3 at g3 f3 ⊢
    have ea3 := g3 _ _ (kp _ _ aL (s0B _ _ ha))
    have eF3 := g3 _ _ (kp _ _ pFL (sB _ _ f2))
    have k03 : Same H J3 := fun c o h => g3 _ _ (kp c o (fun z => by rw [z, nL] at h; cases h) (s0B _ _ h))
    have lt3 := lt.keep (tk_same k03)
    have totQ : (zs'.map (·.2)).flatten.length = l.length := by
      have := (pmQ.flatten).length_eq
      rw [fl, List.length_range] at this
      exact this
    refine ⟨pS, rfl, ⟨_, SqL.of f3⟩, for_list (K := K) (a := pS) (xs := zs'.map (·.1)) (fun k σ J => ∃ (y4 y6 y7 y8 : Option V) (pX : Addr) (rsX : List V), σ = [some (.ref a), some (.ref d), some (.ref pL), some (.ref pX), y4, none, y6, y7, y8, none] ∧ Same J3 J ∧ J pX = some (.lst rsX) ∧ Lets J rsX (dueOf f l ((zs'.map (·.2)).take k)))
      ⟨_, _, _, none, pF, [], rfl, fun _ _ h => h, eF3, .nil⟩ (fun k σ J _ ⟨_, _, _, _, _, _, _, sJ, _⟩ => SqL.of (sJ _ _ f3)) (fun k x σ J4 hx hP => ?_) fun σ J4 hP => ?_⟩
    · obtain ⟨y4, y6, y7, y8, pX, rsX, rfl, sJ, eX, lx⟩ := hP
      obtain ⟨z, hz, rfl⟩ := at_map hx
      obtain ⟨t, b, e, h1, h2⟩ := rzS z (List.mem_of_getElem? hz)
      have h14 := sJ _ _ (g3 _ _ h1)
      have h24 := sJ _ _ (g3 _ _ h2)
      have ea4 := sJ _ _ ea3
      have lt4 := lt3.keep (tk_same sJ)
      obtain ⟨zv, q⟩ := z
      have e : zv = .ref t := e
      subst e
      have hzq : (zs'.map (·.2))[k]? = some q := by rw [List.getElem?_map, hz]; rfl
      have mq := pmQ.subset (List.mem_of_getElem? hzq)
      generalize hs : sAt l (q.headD 0) = s at h14
      refine ⟨t, _, rfl, .inl (.inl h14), rfl, .int (minI (namQ f q)), [.int (s : Nat), .ref b], rfl, .int (s : Nat), [.ref b], rfl, .ref b, [], rfl, rfl, ?_⟩
      refine ⟨.ref pX, rfl, .ref b, rfl, b, _, rfl, SqL.of h24, fun D nD => lc_rel (walk_enum (K := K) (a := b) (xs := natsV (rotQ f l q))) (fun i H v => ∃ x, (emitQ l s (rotQ f l q))[i]? = some x ∧ LetV H v x) (fun i H H' v s h => ?_) (Nat.lt_of_le_of_lt (show (natsV (rotQ f l q)).length ≤ 100 by rw [List.length_map, rotQ_len]; exact lenQ q mq) (by decide)) nD (fun _ s => SqL.of (s _ _ h24)) (fun _ _ _ _ y => ?_) (fun i x J5 J6 hi s5 hD y R2 hR2 => ?_) (fun _ _ _ _ m h => gpair_mono _ _ _ _ _ m h) fun J5 acc s5 eA lac pr => ?_⟩
      · obtain ⟨x, hx, h⟩ := h
        exact ⟨x, hx, letV_keep (tk_same s) _ _ h⟩
      · obtain ⟨T, _, _, _, nT, rfl, _⟩ := y
        exact same_new nT
      · obtain ⟨T, x1, y1, rfl, nT, rfl, hx1, hy1⟩ := y
        obtain rfl : V.int (i : Nat) = x1 := by injection hx1
        obtain ⟨kk, hkk, rfl⟩ := at_map (show (natsV (rotQ f l q))[i]? = some y1 from hy1)
        have hlt := inL q mq kk (rotQ_mem.mp (List.mem_of_getElem? hkk))
        have g6 := same_new nT (o := .tup [.int (i : Nat), .int (kk : Nat)])
        have f6 : L2.upd J5 T (.tup [.int (i : Nat), .int (kk : Nat)]) T = some (.tup [.int (i : Nat), .int (kk : Nat)]) := upd_same
        obtain ⟨accD, eDD⟩ := hD
        have eD6 := g6 _ _ eDD
        generalize L2.upd J5 T (.tup [.int (i : Nat), .int (kk : Nat)]) = J6 at g6 f6 eD6 hR2 ⊢
        have s46 := s5.trans g6
        obtain ⟨tp, bp, xp, hxp, hvp, htp, hbp⟩ := lets_at (lt4.keep (tk_same s46)) hlt
        have bx := bitsAt_of hxp
        refine ⟨T, [.int (i : Nat), .int (kk : Nat)], rfl, .inl (.inl f6), rfl, .int (i : Nat), [.int (kk : Nat)], rfl, .int (kk : Nat), [], rfl, rfl, rfl, ?_⟩
        have fin : ∀ c : Nat, c = (if i = 0 then s else 0) → ∀ tn, J6 tn = none → R2 (.ref tn) (L2.upd J6 tn (.tup [.int (c : Nat), .ref bp])) := fun c ec tn ntn => by
          refine hR2 (.ref tn) _ (same_new ntn) ⟨⟨c, xp.bits⟩, by rw [emitQ_get hkk, ec, bx], tn, bp, rfl, ?_, ?_⟩
          · rw [del_ne (ne_some ntn eD6)]
            exact upd_same
          · rw [del_ne (fun z => by rw [z, eD6] at hbp; cases hbp)]
            exact same_new ntn _ _ hbp
        by_cases z : i = 0
        · refine ⟨.int (i : Nat), rfl, rfl, true, by rw [z]; rfl, iteT' rfl ⟨.int (s : Nat), rfl, .ref a, rfl, .int (kk : Nat), rfl, a, rs, _, .ref tp, rfl, rfl, SqL.of (s46 _ _ ea4), atI_nat hvp, tp, _, 1, .ref bp, rfl, rfl, .inl (.inl htp), atI_nat (j := 1) rfl, by show 2 ≤ sizeLine; decide, fun tn ntn => fin s (by rw [if_pos z]) tn ntn⟩⟩
        · refine ⟨.int (i : Nat), rfl, rfl, false, by simp; omega, iteF' rfl ⟨.ref a, rfl, .int (kk : Nat), rfl, a, rs, _, .ref tp, rfl, rfl, SqL.of (s46 _ _ ea4), atI_nat hvp, tp, _, 1, .ref bp, rfl, rfl, .inl (.inl htp), atI_nat (j := 1) rfl, by show 2 ≤ sizeLine; decide, fun tn ntn => fin 0 (by rw [if_neg z]) tn ntn⟩⟩
      · have lacc : Lets J5 acc (emitQ l s (rotQ f l q)) := paired_of _ _ (by rw [lac, emitQ_len, List.length_map]) fun i v x hv hx => by
          obtain ⟨x', hx', h⟩ := pr i v hv
          rw [hx] at hx'
          cases hx'
          exact letV_keep (tk_same del_le) _ _ h
        have lx5 := lx.keep (tk_same s5)
        refine ⟨pX, D, rsX, acc, rfl, rfl, s5 _ _ eX, eA, ?_, fun pN nN => ⟨_, _, _, _, pN, rsX ++ acc, rfl, (sJ.trans s5).trans (same_new nN), upd_same, ?_⟩⟩
        · have l1 := Paired.length lx
          rw [due_len] at l1
          have l2 := flat_take (zs'.map (·.2)) k
          rw [lac, List.length_map, rotQ_len]
          have := lenQ q mq
          exact Nat.le_trans (show rsX.length + q.length ≤ 1000 by omega) (by decide)
        · rw [take_next hzq]
          have e1 : dueOf f l (List.take k (zs'.map (·.2)) ++ [q]) = dueOf f l (List.take k (zs'.map (·.2))) ++ emitQ l s (rotQ f l q) := by
            unfold dueOf
            rw [List.flatMap_append, List.flatMap_singleton, hs]
          rw [e1]
          have app : ∀ {xs ys : List V} {as bs : List Letter} {R : V → Letter → Prop}, Paired R xs as → Paired R ys bs → Paired R (xs ++ ys) (as ++ bs) := fun h1 h2 => by
            induction h1 with
            | nil => exact h2
            | cons r _ ih => exact .cons r ih
          exact Lets.keep (tk_same (same_new nN)) (app lx5 lacc)
    · obtain ⟨y4, y6, y7, y8, pX, rsX, rfl, sJ, eX, lx⟩ := hP
      rw [List.length_map, show zs'.length = (zs'.map (·.2)).length by rw [List.length_map], List.take_length] at lx
      exact ⟨.ref pX, rfl, q pX rsX _ J4 (k03.trans sJ) pmQ ord eX lx⟩
end
end DQ

set_option Elab.async false
set_option linter.all false
set_option maxRecDepth 100000
set_option maxHeartbeats 4000000
namespace DQ
open PySem PySem.Spec PyProof.Rows L2
abbrev sIsDue : Stmt := topS 62
theorem scIsDue : FnScope ["many", "value", "letter"] ["many", "value"] (defScope sIsDue) := ⟨rfl, rfl, rfl, by decide +kernel, rfl, by decide +kernel, by decide +kernel⟩
/-! ### letters of any numbers -/
structure LZ where
  s : Int
  bits : List Int
def zD (z : LZ) : PyData := .tuple [.int z.s, .tuple (z.bits.map PyData.int)]
def ofL (x : Letter) : LZ := ⟨(x.s : Nat), x.bits⟩
def ZetV (H : Hp) (v : V) (z : LZ) : Prop := ∃ t b, v = .ref t ∧ H t = some (.tup [.int z.s, .ref b]) ∧ H b = some (.tup (z.bits.map V.int))
abbrev Zets (H : Hp) (rs : List V) (zs : List LZ) : Prop := Paired (ZetV H) rs zs
theorem zetV_keep {H H' : Hp} (k : TupKeep H H') (v : V) (z : LZ) (h : ZetV H v z) : ZetV H' v z := by
  obtain ⟨a, b, e, h, h2⟩ := h
  exact ⟨a, b, e, k _ _ h, k _ _ h2⟩
theorem Zets.keep {H H' : Hp} (k : TupKeep H H') {rs : List V} {l : List LZ} (h : Zets H rs l) : Zets H' rs l := paired_mono (fun v z h => zetV_keep k v z h) h
theorem zets_of {H : Hp} : ∀ {rs : List V} {l : Line}, Lets H rs l → Zets H rs (l.map ofL)
  | _, _, .nil => .nil
  | _, _, .cons h t => .cons h (zets_of t)
theorem dp_zet {K : PySem.W.Frag} {H : Hp} {v : V} {z : LZ} (h : ZetV H v z) : Dp K H v (zD z) := by
  obtain ⟨t, b, rfl, h1, h2⟩ := h
  exact .tup (.inl (.inl h1)) (.cons (.int _) (.cons (.tup (.inl (.inl h2)) (dp_bits _)) .nil))
theorem dp_zets {K : PySem.W.Frag} {H : Hp} : ∀ {rs : List V} {l : List LZ}, Zets H rs l → DpAll K H rs (l.map zD)
  | _, _, .nil => .nil
  | _, _, .cons h t => .cons (dp_zet h) (dp_zets t)
theorem flat_zets : ∀ l : List LZ, PyData.canLayAll0 (l.map zD) = true ∧ PyData.depthAll (l.map zD) ≤ 3
  | [] => ⟨rfl, Nat.zero_le _⟩
  | x :: r => by
    obtain ⟨b1, b2⟩ := flat_ints x.bits
    obtain ⟨i1, i2⟩ := flat_zets r
    constructor
    · show ((true && (PyData.canLayAll0 (x.bits.map PyData.int) && true)) && PyData.canLayAll0 (r.map zD)) = true
      rw [b1, i1]
      rfl
    · show max (max 0 (max (PyData.depthAll (x.bits.map PyData.int) + 1) 0) + 1) (PyData.depthAll (r.map zD)) ≤ 3
      rw [b2]
      omega
theorem shaped_zets (l : List LZ) : SeqAt.shaped (.list (l.map zD)) = true := shaped_of (flat_zets l).1 (by
  show PyData.depthAll (l.map zD) + 1 ≤ 64
  have := (flat_zets l).2
  omega)
theorem can_zet (z : LZ) : (zD z).canLay0 = true := by
  show (true && (PyData.canLayAll0 (z.bits.map PyData.int) && true)) = true
  rw [(flat_ints _).1]
  rfl
theorem shaped_zet (z : LZ) : SeqAt.shaped (zD z) = true := shaped_of (can_zet z) (by
  show max 0 (max (PyData.depthAll (z.bits.map PyData.int) + 1) 0) + 1 ≤ 64
  rw [(flat_ints _).2]
  decide)
theorem rows_all : ∀ (n : Nat) (bs : List Int), bs.length = n → (∀ b ∈ bs, b = 0 ∨ b = 1) → bs ∈ rowsN [0, 1] n
  | 0, bs, e, _ => by
    rw [List.length_eq_zero_iff.mp e]
    exact List.mem_singleton.mpr rfl
  | n + 1, bs, e, h => by
    have ne : bs ≠ [] := fun z => by rw [z] at e; cases e
    have sp := List.dropLast_concat_getLast ne
    have ih := rows_all n bs.dropLast (by rw [List.length_dropLast]; omega) fun b hb => h b (List.dropLast_sublist _ |>.subset hb)
    rw [← sp, rowsN]
    refine List.mem_flatMap.mpr ⟨_, ih, List.mem_map.mpr ⟨bs.getLast ne, ?_, rfl⟩⟩
    rcases h _ (List.getLast_mem ne) with z | z <;> rw [z] <;> decide
theorem letterD_zet (many : Nat) (z : LZ) : letterD many (zD z) = true ↔ 0 ≤ z.s ∧ z.s ≤ 2 ∧ z.bits.length = many ∧ ∀ b ∈ z.bits, b = 0 ∨ b = 1 := by
  show ((decide (0 ≤ z.s) && decide (z.s ≤ 2)) && (decide ((z.bits.map PyData.int).length = many) && (z.bits.map PyData.int).all (betweenD 0 1))) = true ↔ _
  rw [Bool.and_eq_true, Bool.and_eq_true, Bool.and_eq_true, decide_eq_true_eq, decide_eq_true_eq, decide_eq_true_eq, List.length_map, List.all_map, List.all_eq_true, and_assoc]
  refine and_congr_right fun _ => and_congr_right fun _ => and_congr_right fun _ => forall_congr' fun b => forall_congr' fun _ => ?_
  show (decide (0 ≤ b) && decide (b ≤ 1)) = true ↔ _
  rw [Bool.and_eq_true, decide_eq_true_eq, decide_eq_true_eq]
  omega
theorem like_zet (z : LZ) : Like (.two .int (.row .int)) (zD z) := ⟨_, _, rfl, ⟨_, rfl⟩, _, rfl, fun e he => by
  obtain ⟨i, _, rfl⟩ := List.mem_map.mp he
  exact ⟨i, rfl⟩⟩
theorem any_letter (many : Nat) (z : LZ) : (((lettersOf many).map letD).any fun e => PyData.eqv e (zD z)) = letterD many (zD z) := by
  refine Bool.eq_iff_iff.mpr ?_
  rw [letterD_zet, List.any_map, List.any_eq_true]
  constructor
  · rintro ⟨x, hx, e⟩
    have e : letD x = zD z := like_eqv _ _ _ (like_zet (ofL x)) (like_zet z) e
    obtain ⟨h1, h2, h3⟩ := letters_mem hx
    injection e with e
    injection e with e1 e2
    injection e1 with e1
    injection e2 with e2 _
    injection e2 with e2
    have eb : x.bits = z.bits := by
      have := congrArg (List.map fun d => match d with | PyData.int i => i | _ => 0) e2
      rw [List.map_map, List.map_map] at this
      simpa [Function.comp_def] using this
    rw [← eb, ← e1]
    exact ⟨by omega, by omega, h2, h3⟩
  · rintro ⟨h1, h2, h3, h4⟩
    refine ⟨⟨z.s.toNat, z.bits⟩, List.mem_flatMap.mpr ⟨z.s.toNat, List.mem_range.mpr (by omega), List.mem_map.mpr ⟨z.bits, rows_all _ _ h3 h4, rfl⟩⟩, ?_⟩
    have e : letD ⟨z.s.toNat, z.bits⟩ = zD z := by
      show PyData.tuple [.int ((z.s.toNat : Nat) : Int), _] = .tuple [.int z.s, _]
      rw [Int.toNat_of_nonneg h1]
    show PyData.eqv (letD ⟨z.s.toNat, z.bits⟩) (zD z) = true
    rw [e]
    exact SeqAt.eqv_refl _ (can_zet z)
section
variable {P : Program} {w : World} {K : PySem.W.Frag} {mg : Str → Option Value} {base : Heap}
def spIsDue (K : PySem.W.Frag) : Sp := fun vs H Q _ => ∃ (many : Nat) (a : Addr) (xs : List V) (zs : List LZ), vs = [.int (many : Nat), .ref a] ∧ many ≤ 2 ∧ SqL K H a xs ∧ Zets H xs zs ∧ zs.length ≤ 100 ∧ ∀ H', Same H H' → Q (.bl (lineD many (.list (zs.map zD)))) H'
theorem ok_isDue {f fL : Addr} {fd dL : FuncData} (F : Fun K "_law_is_due" "_law_is_due" sIsDue f fd) (GL : FnOk P w K mg base CX0 1 fL dL ["many"] spLawLetters) (bL : Binds K dL ["many"] []) (kL : PySem.W.keepIn K (.ref fL) = true) (mL : mg "_law_letters" = some (.ref fL)) : FnOk P w K mg base CX0 2 f fd ["many", "value"] (spIsDue K) := by
  refine F.ok scIsDue (fun vs H Q E h => ?_) (fun cdv A outer s H vs Q E hr h => ?_)
  · obtain ⟨_, _, _, _, rfl, _⟩ := h
    rfl
  obtain ⟨many, a, xs, zs, rfl, m2, sq, zt, few, q⟩ := h
  have nd := scIsDue.nd
  have lx : xs.length = zs.length := Paired.length zt
  refine ⟨_, pss_cons (ps_if (pt_cmpR (op_neD hr.units) (pe_lc (own := [("letter", 2)]) (g := gName 2) (tt := tTest (tOp (rNotInD K) (tVar 2) (tCall spLawLetters [] E0 (tCons (tVar 0) tNil)))) (te := tVar 2) rfl nd (pi_list (pv 1)) (blkOk_by (own := [("letter", 2)]) (N := ["many", "value", "letter"]) (sc := defScope sIsDue) (by decide +kernel)) (fun _ _ _ _ _ => pg_name (i := 2) nd rfl (Or.inl rfl))
        (fun _ _ _ _ _ => pts_one (pt_cmpR (op_notInD (room65 hr)) (pv 2) (pe_call GL (hr.mono (by decide)) rfl mL kL bL .nil pass0 (pa_cons (pv 0) pa_nil)) (by rfl))) (fun _ _ _ _ _ => pv 2)) (pe_lst pa_nil) (nomark _)) (pss_one (ps_ret pe_bl)) pss_nil)
    (pss_one (ps_ret (pe_or (pe_cmpR (op_eqD hr.units) (pv 1) (pe_lst pa_nil) (by rfl)) (pe_one (pe_cmpR op_gt (pe_ix (r := rIxT K) ix_tup (pe_ix (r := rIxL K) ix_list (pv 1) pe_int (fun _ _ => rfl)) pe_int (fun _ _ => rfl)) pe_int (by rfl)))))), ?_⟩
  have allE : ∀ l : List LZ, (l.filter fun z => !letterD many (zD z)) = [] ↔ (l.map zD).all (letterD many) = true := fun l => by
    rw [List.filter_eq_nil_iff, List.all_map, List.all_eq_true]
    refine forall_congr' fun z => forall_congr' fun _ => ?_
    show ¬ ((!letterD many (zD z)) = true) ↔ letterD many (zD z) = true
    cases letterD many (zD z) <;> decide
  refine ⟨.ref a, rfl, a, rfl, ⟨_, sq⟩, fun D nD => ?_⟩
  refine it_by (walk_list (K := K) (a := a) (xs := xs)) (fun i J => Same H J ∧ ∃ acc, J D = some (.lst acc) ∧ acc.length ≤ i ∧ Zets J acc ((zs.take i).filter fun z => !letterD many (zD z))) ⟨same_new nD, [], upd_same, Nat.le_refl _, .nil⟩ (fun _ _ _ hP => L2.Same.seq hP.1 sq) (fun i v J' J hi hP y => ?_) fun J hP => ?_
  · obtain ⟨sJ, acc, eD, la, za⟩ := hP
    obtain ⟨rfl, hv⟩ := y
    obtain ⟨z, hz, hzv⟩ := paired_at zt hv
    have zv := zetV_keep (tk_same sJ) _ _ hzv
    refine ⟨rfl, v, rfl, .int (many : Nat), rfl, many, rfl, m2, fun p rs2 J2 s2 e2 l2 => ⟨zD z, (lettersOf many).map letD, dp_zet (zetV_keep (tk_same s2) _ _ zv), line_dp (SqL.of e2) l2, shaped_zet z, shaped_line _, ?_⟩⟩
    rw [any_letter]
    have eD2 := s2 _ _ eD
    have za2 := za.keep (tk_same s2)
    have s02 := sJ.trans s2
    cases hl : letterD many (zD z) with
    | true =>
      refine ⟨false, rfl, iteF' rfl ⟨s02, acc, eD2, by omega, ?_⟩⟩
      rw [take_next hz, List.filter_append, List.filter_cons_of_neg (by rw [hl]; decide), List.filter_nil, List.append_nil]
      exact za2
    | false =>
      have tk := tk_lst (ys := acc ++ [v]) eD2
      refine ⟨true, rfl, iteT' rfl ⟨v, rfl, acc, eD2, Nat.lt_of_le_of_lt (show acc.length ≤ 100 by omega) (by decide), same_upd s02 nD, acc ++ [v], upd_same, by rw [List.length_append, List.length_singleton]; omega, ?_⟩⟩
      rw [take_next hz, List.filter_append, List.filter_cons_of_pos (by rw [hl]; rfl), List.filter_nil]
      exact paired_snoc (zetV_keep tk _ _ (zetV_keep (tk_same s2) _ _ zv)) (za2.keep tk)
  · obtain ⟨sJ, acc, eD, la, za⟩ := hP
    rw [lx, List.take_length] at za
    have aE := allE zs
    generalize (zs.filter fun z => !letterD many (zD z)) = bad at za aE
    refine ⟨Nat.zero_le _, fun e ne => ?_⟩
    have g1 := same_new ne (o := .lst [])
    have f1 : L2.upd J e (.lst []) e = some (.lst []) := upd_same
    have eD1 := g1 _ _ eD
    have za1 := za.keep (tk_same g1)
    have s01 := sJ.trans g1
    generalize L2.upd J e (.lst []) = J1 at g1 f1 eD1 za1 s01 ⊢
    refine ⟨_, .list [], .lst (SqL.of eD1) (dp_zets za1), .lst (SqL.of f1) .nil, shaped_zets bad, by decide +kernel, ?_⟩
    have eL : lineD many (.list (zs.map zD)) = ((zs.map zD).all (letterD many) && headD (zs.map zD)) := rfl
    cases bad with
    | cons b0 br =>
      have no : (zs.map zD).all (letterD many) = false := Bool.eq_false_iff.mpr fun h => by cases aE.mpr h
      rw [eL, no, Bool.false_and] at q
      exact ⟨true, rfl, iteT' rfl (q J1 s01)⟩
    | nil =>
      have yes := aE.mp rfl
      rw [eL, yes, Bool.true_and] at q
      refine ⟨false, rfl, iteF' rfl ?_⟩
      refine ⟨.ref a, rfl, Nat.zero_le _, fun e2 ne2 => ?_⟩
      have g2 := same_new ne2 (o := .lst [])
      have f2 : L2.upd J1 e2 (.lst []) e2 = some (.lst []) := upd_same
      have s02 := s01.trans g2
      generalize L2.upd J1 e2 (.lst []) = J2 at g2 f2 s02 ⊢
      have zt2 := zt.keep (tk_same s02)
      refine ⟨_, .list [], .lst (L2.Same.seq s02 sq) (dp_zets zt2), .lst (SqL.of f2) .nil, shaped_zets zs, by decide +kernel, ?_⟩
      cases zs with
      | nil => exact ⟨true, rfl, iteT' rfl (q J2 s02)⟩
      | cons z0 zr =>
        refine ⟨false, rfl, iteF' rfl ?_⟩
        obtain ⟨v0, xr, rfl⟩ : ∃ v0 xr, xs = v0 :: xr := by
          cases xs with
          | nil => cases lx
          | cons v0 xr => exact ⟨_, _, rfl⟩
        cases zt2 with
        | cons h0 _ =>
          obtain ⟨t, b, rfl, h1, h2⟩ := h0
          refine ⟨.ref a, rfl, a, _, 0, .ref t, rfl, rfl, L2.Same.seq s02 sq, atI_nat (j := 0) rfl, t, _, 0, .int z0.s, rfl, rfl, .inl (.inl h1), atI_nat (j := 0) rfl, _, _, rfl, rfl, ?_⟩
          have g0 : 0 ≤ z0.s := by
            rw [List.map_cons, List.all_cons, Bool.and_eq_true] at yes
            exact ((letterD_zet many z0).mp yes.1).1
          have hh : headD ((z0 :: zr).map zD) = decide (z0.s ≠ 0) := rfl
          rw [hh] at q
          have e3 : decide ((0 : Int) < z0.s) = decide (z0.s ≠ 0) := by
            by_cases c : z0.s = 0
            · rw [decide_eq_false (by omega), decide_eq_false (by omega)]
            · rw [decide_eq_true (by omega), decide_eq_true c]
          show Q (V.bl (decide (z0.s > 0))) J2
          rw [show decide (z0.s > 0) = decide (z0.s ≠ 0) from e3]
          exact q J2 s02
end
end DQ

set_option Elab.async false
set_option linter.all false
set_option maxRecDepth 100000
set_option maxHeartbeats 600000
namespace DQ
open PySem PySem.Spec PyProof.Rows L2
abbrev sBents : Stmt := topS 63
abbrev NBt : List Str := ["generator", "many", "line", "at", "found"]
theorem scBents : FnScope NBt ["generator", "many", "line"] (defScope sBents) := ⟨rfl, rfl, rfl, by decide +kernel, rfl, by decide +kernel, by decide +kernel⟩
/-! ### lines bent: lists of letters of any numbers -/
def ZL (n : Nat) (H : Hp) (b : Addr) : Prop := ∃ xs zs, H b = some (.lst xs) ∧ Zets H xs zs ∧ zs.length ≤ n
theorem ZL.same {n : Nat} {H H' : Hp} {b : Addr} (h : ZL n H b) (s : Same H H') : ZL n H' b := by
  obtain ⟨xs, zs, e, z, l⟩ := h
  exact ⟨xs, zs, s _ _ e, z.keep (tk_same s), l⟩
def MkA (n : Nat) (te : TE) (σ : L2.St) (H0 : Hp) : Prop := ∀ H, Same H0 H → ∀ R : VK, (∀ b H2, Same H H2 → ZL n H2 b → R (.ref b) H2) → te σ H R
def MkL (n : Nat) (ta : TA) (σ : L2.St) (H0 : Hp) : Prop := ∀ H, Same H0 H → ∀ R : List V → Hp → Prop, (∀ (bs : List Addr) H2, Same H H2 → bs.length ≤ n → (∀ b ∈ bs, ZL 60 H2 b) → R (bs.map V.ref) H2) → ta σ H R
theorem ml_nil {σ : L2.St} {H0 : Hp} : MkL 0 tNil σ H0 := fun H s R h => nil_read (h [] H (fun _ _ h => h) (Nat.le_refl _) fun _ h => nomatch h)
theorem ml_cons {n m : Nat} {te : TE} {ta : TA} {σ : L2.St} {H0 : Hp} (h1 : MkA n te σ H0) (hn : n ≤ 60) (h2 : MkL m ta σ H0) : MkL (m + 1) (tCons te ta) σ H0 := fun H s R h => h1 H s _ fun b H1 s1 z1 => h2 H1 (s.trans s1) _ fun bs H2 s2 lb zb => h (b :: bs) H2 (s1.trans s2) (by rw [List.length_cons]; omega) fun c hc => by
  rcases List.mem_cons.mp hc with e | m
  · rw [e]
    obtain ⟨xs, zs, e1, e2, e3⟩ := z1.same s2
    exact ⟨xs, zs, e1, e2, by omega⟩
  · exact zb c m
theorem paired_app {α β : Type} {R : α → β → Prop} {xs ys : List α} {as bs : List β} (h1 : Paired R xs as) (h2 : Paired R ys bs) : Paired R (xs ++ ys) (as ++ bs) := by
  induction h1 with
  | nil => exact h2
  | cons r _ ih => exact .cons r ih
theorem paired_take {α β : Type} {R : α → β → Prop} : ∀ {xs : List α} {ys : List β} (k : Nat), Paired R xs ys → Paired R (xs.take k) (ys.take k)
  | _, _, 0, _ => .nil
  | _, _, _ + 1, .nil => .nil
  | _, _, k + 1, .cons h t => .cons h (paired_take k t)
theorem paired_drop {α β : Type} {R : α → β → Prop} : ∀ {xs : List α} {ys : List β} (k : Nat), Paired R xs ys → Paired R (xs.drop k) (ys.drop k)
  | _, _, 0, h => h
  | _, _, _ + 1, .nil => .nil
  | _, _, k + 1, .cons _ t => paired_drop k t
theorem paired_rev {α β : Type} {R : α → β → Prop} {xs : List α} {ys : List β} (h : Paired R xs ys) : Paired R xs.reverse ys.reverse := by
  induction h with
  | nil => exact .nil
  | cons r _ ih =>
    rw [List.reverse_cons, List.reverse_cons]
    exact paired_app ih (.cons r .nil)
theorem mk_cat {n m : Nat} {ta tb : TE} {σ : L2.St} {H0 : Hp} (h1 : MkA n ta σ H0) (h2 : MkA m tb σ H0) (few : n + m ≤ 1000) : MkA (n + m) (tOp rCat ta tb) σ H0 := fun H s R h => h1 H s _ fun b1 H1 s1 z1 => h2 H1 (s.trans s1) _ fun b2 H2 s2 z2 => by
  obtain ⟨xs, zs, e1, zz1, l1⟩ := z1.same s2
  obtain ⟨ys, ws, e2, zz2, l2⟩ := z2
  have k1 := Paired.length zz1
  have k2 := Paired.length zz2
  refine ⟨b1, b2, xs, ys, rfl, rfl, e1, e2, Nat.le_trans (show xs.length + ys.length ≤ 1000 by omega) (by decide), fun p np => h p _ ((s1.trans s2).trans (same_new np)) ⟨xs ++ ys, zs ++ ws, upd_same, ?_, by rw [List.length_append]; omega⟩⟩
  exact Zets.keep (tk_same (same_new np)) (paired_app zz1 zz2)
section
variable {K : PySem.W.Frag} {σ : L2.St} {H0 : Hp} {a : Addr} {rs : List V} {zs : List LZ} {n : Nat}
theorem mk_var {i : Nat} (hv : σ[i]? = some (some (.ref a))) (h : ZL n H0 a) : MkA n (tVar i) σ H0 := fun H s R q => ⟨.ref a, hv, q a H (fun _ _ h => h) (h.same s)⟩
theorem mk_from {i : Nat} (hv : σ[i]? = some (some (.ref a))) (h : ZL n H0 a) {to : TO} {k : Nat} (hk : ∀ H (R : Option Int → Hp → Prop), R (some (k : Int)) H → to σ H R) : MkA n (tSl (rSlL K) (tVar i) to tNoPart) σ H0 := fun H s R q => by
  obtain ⟨xs, zs, e, zz, l⟩ := h.same s
  refine ⟨.ref a, hv, hk _ _ ⟨a, xs, rfl, SqL.of e, fun p np => q p _ (same_new np) ⟨xs.drop k, zs.drop k, by rw [upd_same, cut_drop], Zets.keep (tk_same (same_new np)) (paired_drop k zz), by rw [List.length_drop]; omega⟩⟩⟩
theorem mk_to {i : Nat} (hv : σ[i]? = some (some (.ref a))) (h : ZL n H0 a) {to : TO} {k : Nat} (hk : ∀ H (R : Option Int → Hp → Prop), R (some (k : Int)) H → to σ H R) : MkA n (tSl (rSlL K) (tVar i) tNoPart to) σ H0 := fun H s R q => by
  obtain ⟨xs, zs, e, zz, l⟩ := h.same s
  refine ⟨.ref a, hv, hk _ _ ⟨a, xs, rfl, SqL.of e, fun p np => q p _ (same_new np) ⟨xs.take k, zs.take k, by rw [upd_same, cut_take (by omega), Int.toNat_natCast], Zets.keep (tk_same (same_new np)) (paired_take k zz), by rw [List.length_take]; omega⟩⟩⟩
theorem mk_rev {i : Nat} (hv : σ[i]? = some (some (.ref a))) (h : ZL n H0 a) : MkA n (tRev K (tVar i)) σ H0 := fun H s R q => by
  obtain ⟨xs, zs, e, zz, l⟩ := h.same s
  exact ⟨.ref a, hv, a, xs, rfl, SqL.of e, fun p np => q p _ (same_new np) ⟨xs.reverse, zs.reverse, upd_same, Zets.keep (tk_same (same_new np)) (paired_rev zz), by rw [List.length_reverse]; exact l⟩⟩
/-- [(x, (y,) * k)] -/
theorem mk_one {tx ty tn : TE} {x y : Int} {k : Nat} (hx : ∀ H (R : VK), R (.int x) H → tx σ H R) (hy : ∀ H (R : VK), R (.int y) H → ty σ H R) (hk : ∀ H (R : VK), R (.int (k : Nat)) H → tn σ H R) (few : k ≤ 3) : MkA 1 (tLst (tCons (tTup (tCons tx (tCons (tOp (rRepS K) (tTup (tCons ty tNil)) tn) tNil))) tNil)) σ H0 := fun H s R q => by
  refine hx _ _ (hy _ _ (nil_read ⟨by show 1 ≤ sizeLine; decide, fun c nc => hk _ _ ⟨c, k, .int y, rfl, rfl, upd_same, by omega, fun p H2 s2 e2 => nil_read ⟨by show 2 ≤ sizeLine; decide, fun t nt => nil_read ⟨by show 1 ≤ sizeLine; decide, fun b nb => ?_⟩⟩⟩⟩))
  have s1 := ((same_new nc (o := .tup [.int y])).trans s2).trans (same_new nt (o := .tup [.int x, .ref p]))
  refine q b _ (s1.trans (same_new nb)) ⟨[.ref t], [⟨x, List.replicate k y⟩], upd_same, .cons ⟨t, p, rfl, same_new nb _ _ upd_same, same_new nb _ _ (same_new nt _ _ ?_)⟩ .nil, Nat.le_refl _⟩
  rw [e2, List.map_replicate]
end
theorem ml_lst {n : Nat} {ta : TA} {σ : L2.St} {H0 : Hp} (h : MkL n ta σ H0) (few : n ≤ 100) {H : Hp} (s : Same H0 H) {R : VK} (q : ∀ p (bs : List Addr) H2, Same H H2 → H2 p = some (.lst (bs.map V.ref)) → bs.length ≤ n → (∀ b ∈ bs, ZL 60 H2 b) → R (.ref p) H2) : tLst ta σ H R := h H s _ fun bs H1 s1 lb zb => ⟨by rw [List.length_map]; exact Nat.le_trans (show bs.length ≤ 100 by omega) (by decide), fun p np => q p bs _ (s1.trans (same_new np)) upd_same lb fun b hb => (zb b hb).same (same_new np)⟩
section
variable {P : Program} {w : World} {K : PySem.W.Frag} {mg : Str → Option Value} {base : Heap}
def spBents : Sp := fun vs H Q _ => ∃ (g a : Addr) (many : Nat) (rs : List V) (l : Line) (n : Int), vs = [.ref g, .int (many : Nat), .ref a] ∧ many ≤ 2 ∧ H a = some (.lst rs) ∧ a ≠ g ∧ Lets H rs l ∧ l.length ≤ 9 ∧ Gen H g n ∧ n + 3 ≤ 1073741824 ∧
  ∀ p (bs : List Addr) H', Keep g H H' → Gen H' g (n + 3) → H' p = some (.lst (bs.map V.ref)) → bs.length ≤ 20 → (∀ b ∈ bs, ZL 60 H' b) → Q (.ref p) H'
theorem ok_bents {f fr : Addr} {fd fdr : FuncData} (F : Fun K "_law_bents" "_law_bents" sBents f fd) (GR : FnOk P w K mg base CX0 2 fr fdr ["generator", "bound"] spRandom) (bR : Binds K fdr ["generator", "bound"] []) (kR : PySem.W.keepIn K (.ref fr) = true) (mR : mg "_law_random" = some (.ref fr))
    (mLen : mg "len" = none) : FnOk P w K mg base CX0 3 f fd ["generator", "many", "line"] spBents := by
  refine F.ok scBents (fun vs H Q E h => ?_) (fun cdv A outer s H vs Q E hr h => ?_)
  · obtain ⟨_, _, _, _, _, _, rfl, _⟩ := h
    rfl
  obtain ⟨g, a, many, rs, l, n, rfl, m2, ha, ag, lt, few, G, hn, q⟩ := h
  have nd := scBents.nd
  have lr : rs.length = l.length := Paired.length lt
  refine ⟨_, pss_cons (ps_set (i := 3) nd rfl (.inl rfl) (pe_call GR (hr.mono (by decide)) rfl mR kR bR .nil pass0 (pa_cons (pv 0) (pa_cons (pe_op op_add (pe_callB call_len_seq (by rfl) mLen PySem.boot_len (pa_cons (pv 2) pa_nil)) pe_int) pa_nil))))
    (pss_cons (ps_set (i := 4) nd rfl (.inl rfl) (pe_lst (pa_cons (pe_slice (r := rSlL K) sl_list (pv 2) (po_some pe_int) po_none) (pa_cons (pe_rev (pv 2))
      (pa_cons (pe_op op_cat (pe_op op_cat (pe_slice (r := rSlL K) sl_list (pv 2) po_none (po_some (pv 3))) (pe_lst (pa_cons (pe_tup (pa_cons pe_int (pa_cons (pe_op (r := rRepS K) op_repS (pe_tup (pa_cons pe_int pa_nil)) (pv 1)) pa_nil))) pa_nil))) (pe_slice (r := rSlL K) sl_list (pv 2) (po_some (pv 3)) po_none))
      (pa_cons (pe_op op_cat (pe_op op_cat (pe_slice (r := rSlL K) sl_list (pv 2) po_none (po_some (pv 3))) (pe_lst (pa_cons (pe_tup (pa_cons pe_int (pa_cons (pe_op (r := rRepS K) op_repS (pe_tup (pa_cons pe_int pa_nil)) (pv 1)) pa_nil))) pa_nil))) (pe_slice (r := rSlL K) sl_list (pv 2) (po_some (pv 3)) po_none))
      (pa_cons (pe_op op_cat (pe_slice (r := rSlL K) sl_list (pv 2) po_none (po_some (pv 3))) (pe_lst (pa_cons (pe_tup (pa_cons pe_int (pa_cons (pe_op (r := rRepS K) op_repS (pe_tup (pa_cons pe_int pa_nil)) (pe_op op_add (pv 1) pe_int)) pa_nil))) pa_nil))) pa_nil)))))))
    (pss_cons (ps_set (i := 4) nd rfl (.inl rfl) (pe_op op_cat (pv 4) (pe_lst
      (pa_cons (pe_op op_cat (pe_lst (pa_cons (pe_tup (pa_cons pe_int (pa_cons (pe_op (r := rRepS K) op_repS (pe_tup (pa_cons pe_int pa_nil)) (pv 1)) pa_nil))) pa_nil)) (pv 2))
      (pa_cons (pe_op op_cat (pe_lst (pa_cons (pe_tup (pa_cons (pe_un un_neg pe_int) (pa_cons (pe_op (r := rRepS K) op_repS (pe_tup (pa_cons pe_int pa_nil)) (pv 1)) pa_nil))) pa_nil)) (pv 2))
      (pa_cons (pe_op op_cat (pv 2) (pe_lst (pa_cons (pe_tup (pa_cons (pe_un un_neg pe_int) (pa_cons (pe_op (r := rRepS K) op_repS (pe_tup (pa_cons pe_int pa_nil)) (pv 1)) pa_nil))) pa_nil)))
      (pa_cons (pe_op op_cat (pe_lst (pa_cons (pe_tup (pa_cons pe_int (pa_cons (pe_op (r := rRepS K) op_repS (pe_tup (pa_cons (pe_un un_neg pe_int) pa_nil)) (pv 1)) pa_nil))) pa_nil)) (pv 2))
      (pa_cons (pe_op op_cat (pe_lst (pa_cons (pe_tup (pa_cons pe_int (pa_cons (pe_op (r := rRepS K) op_repS (pe_tup (pa_cons pe_int pa_nil)) (pv 1)) pa_nil))) pa_nil)) (pv 2)) pa_nil))))))))
    (pss_one (ps_ret (pe_op op_cat (pv 4) (pe_lst
      (pa_cons (pe_op op_cat (pv 2) (pe_lst (pa_cons (pe_tup (pa_cons pe_int (pa_cons (pe_op (r := rRepS K) op_repS (pe_tup (pa_cons pe_int pa_nil)) (pv 1)) pa_nil))) pa_nil)))
      (pa_cons (pe_op op_cat (pv 2) (pe_lst (pa_cons (pe_tup (pa_cons pe_int (pa_cons (pe_op (r := rRepS K) op_repS (pe_tup (pa_cons pe_int pa_nil)) (pv 1)) pa_nil))) pa_nil)))
      (pa_cons (pe_op op_cat (pv 2) (pv 2)) pa_nil))))))))), ?_⟩
  refine ⟨.ref g, rfl, .ref a, rfl, a, rs, rfl, .inl (SqL.of ha), _, _, rfl, rfl, g, _, n, rfl, G, by omega, by omega, hn, fun r H1 r0 r1 G1 b1 => ?_⟩
  obtain ⟨k, rfl⟩ : ∃ k : Nat, r = (k : Int) := ⟨r.toNat, by omega⟩
  have kp := Keep.of_but b1
  have ha1 := kp _ _ ag ha
  have lt1 := lt.keep (tk_keep kp G)
  have z0 : ZL 9 H1 a := ⟨rs, l.map ofL, ha1, zets_of lt1, by rw [List.length_map]; exact few⟩
  have ci : ∀ {σ : L2.St} {i : Int}, ∀ H (R : VK), R (.int i) H → tC (.int i) σ H R := fun H R h => h
  have cn : ∀ {σ : L2.St} {i : Int}, ∀ H (R : VK), R (.int (-i)) H → tUn (rU fun i => V.int (-i)) (tC (.int i)) σ H R := fun H R h => ⟨_, rfl, h⟩
  have p3 : ∀ {σ : L2.St}, σ[3]? = some (some (.int (k : Nat))) → ∀ H (R : Option Int → Hp → Prop), R (some (k : Int)) H → tPart (tVar 3) σ H R := fun hv H R h => ⟨.int (k : Nat), hv, _, rfl, h⟩
  have p1 : ∀ {σ : L2.St} H (R : Option Int → Hp → Prop), R (some ((1 : Nat) : Int)) H → tPart (tC (.int 1)) σ H R := fun H R h => ⟨_, rfl, h⟩
  have m1 : ∀ {σ : L2.St}, σ[1]? = some (some (.int (many : Nat))) → ∀ H (R : VK), R (.int (many : Nat)) H → tVar 1 σ H R := fun hv H R h => ⟨_, hv, h⟩
  have m2' : ∀ {σ : L2.St}, σ[1]? = some (some (.int (many : Nat))) → ∀ H (R : VK), R (.int ((many + 1 : Nat) : Int)) H → tOp (rI0 fun i j => V.int (i + j)) (tVar 1) (tC (.int 1)) σ H R := fun hv H R h => ⟨_, hv, _, _, rfl, rfl, h⟩
  have same1 : ∀ {H : Hp}, Same H H := fun _ _ h => h
  have w1 : many ≤ 3 := by omega
  have w2 : many + 1 ≤ 3 := by omega
  refine seq_te (fun v J => ∃ (q1 : Addr) (bs1 : List Addr), v = .ref q1 ∧ Same H1 J ∧ J q1 = some (.lst (bs1.map V.ref)) ∧ bs1.length ≤ 5 ∧ ∀ b ∈ bs1, ZL 60 J b) (fun R hR => ml_lst (H0 := H1) (n := 5) (ml_cons (n := 9) (mk_from (i := 2) (a := a) (k := 1) rfl z0 p1) (by decide) (ml_cons (n := 9) (mk_rev (i := 2) (a := a) rfl z0) (by decide) (ml_cons (n := 9 + 1 + 9) (mk_cat (mk_cat (mk_to (i := 2) (a := a) (k := k) rfl z0 (p3 rfl)) (mk_one (x := 0) (y := 0) (k := many) ci ci (m1 rfl) w1) (by decide)) (mk_from (i := 2) (a := a) (k := k) rfl z0 (p3 rfl)) (by decide)) (by decide)
      (ml_cons (n := 9 + 1 + 9) (mk_cat (mk_cat (mk_to (i := 2) (a := a) (k := k) rfl z0 (p3 rfl)) (mk_one (x := 1) (y := 1) (k := many) ci ci (m1 rfl) w1) (by decide)) (mk_from (i := 2) (a := a) (k := k) rfl z0 (p3 rfl)) (by decide)) (by decide) (ml_cons (n := 9 + 1) (mk_cat (mk_to (i := 2) (a := a) (k := k) rfl z0 (p3 rfl)) (mk_one (x := 0) (y := 0) (k := many + 1) ci ci (m2' rfl) w2) (by decide)) (by decide) ml_nil))))) (by decide) same1 fun p bs H2 s e le zb => hR _ _ ⟨p, bs, rfl, s, e, le, zb⟩) fun v H2 hv2 => ?_
  obtain ⟨q1, bs1, rfl, s2, e2, l2, zb2⟩ := hv2
  have z2 := z0.same s2
  refine seq_te (fun v J => ∃ (q3 : Addr) (bs3 : List Addr), v = .ref q3 ∧ Same H2 J ∧ J q3 = some (.lst (bs3.map V.ref)) ∧ bs3.length ≤ 10 ∧ ∀ b ∈ bs3, ZL 60 J b) (fun R hR => ?_) fun v H3 hv3 => ?_
  · refine ⟨.ref q1, rfl, ml_lst (H0 := H2) (n := 5) (ml_cons (n := 1 + 9) (mk_cat (mk_one (x := 3) (y := 0) (k := many) ci ci (m1 rfl) w1) (mk_var (i := 2) (a := a) rfl z2) (by decide)) (by decide) (ml_cons (n := 1 + 9) (mk_cat (mk_one (x := -(1 : Int)) (y := 0) (k := many) cn ci (m1 rfl) w1) (mk_var (i := 2) (a := a) rfl z2) (by decide)) (by decide) (ml_cons (n := 9 + 1) (mk_cat (mk_var (i := 2) (a := a) rfl z2) (mk_one (x := -(1 : Int)) (y := 1) (k := many) cn ci (m1 rfl) w1) (by decide)) (by decide) (ml_cons (n := 1 + 9) (mk_cat (mk_one (x := 1) (y := -(1 : Int)) (k := many) ci cn (m1 rfl) w1) (mk_var (i := 2) (a := a) rfl z2) (by decide)) (by decide) (ml_cons (n := 1 + 9) (mk_cat (mk_one (x := 1) (y := 2) (k := many) ci ci (m1 rfl) w1) (mk_var (i := 2) (a := a) rfl z2) (by decide)) (by decide) ml_nil))))) (by decide) same1 fun p bs H3 s e le zb => ⟨q1, p, _, _, rfl, rfl, s _ _ e2, e, ?_, fun q3 n3 => hR _ _ ⟨q3, bs1 ++ bs, rfl, s.trans (same_new n3), ?_, ?_, fun b hb => ?_⟩⟩⟩
    · rw [List.length_map, List.length_map]
      exact Nat.le_trans (show _ ≤ 20 by omega) (by decide)
    · rw [upd_same, List.map_append]
    · rw [List.length_append]
      omega
    · rcases List.mem_append.mp hb with h | h
      · exact (zb2 b h).same (s.trans (same_new n3))
      · exact (zb b h).same (same_new n3)
  obtain ⟨q3, bs3, rfl, s3, e3, l3, zb3⟩ := hv3
  have z4 := z2.same s3
  refine ⟨.ref q3, rfl, ml_lst (H0 := H3) (n := 3) (ml_cons (n := 9 + 1) (mk_cat (mk_var (i := 2) (a := a) rfl z4) (mk_one (x := 2) (y := 2) (k := many) ci ci (m1 rfl) w1) (by decide)) (by decide) (ml_cons (n := 9 + 1) (mk_cat (mk_var (i := 2) (a := a) rfl z4) (mk_one (x := 3) (y := 0) (k := many) ci ci (m1 rfl) w1) (by decide)) (by decide) (ml_cons (n := 9 + 9) (mk_cat (mk_var (i := 2) (a := a) rfl z4) (mk_var (i := 2) (a := a) rfl z4) (by decide)) (by decide) ml_nil))) (by decide) same1 fun p bs H4 s e le zb => ⟨q3, p, _, _, rfl, rfl, s _ _ e3, e, ?_, fun q5 n5 => ?_⟩⟩
  · rw [List.length_map, List.length_map]
    exact Nat.le_trans (show _ ≤ 20 by omega) (by decide)
  have g6 := same_new n5 (o := .lst (bs3.map V.ref ++ bs.map V.ref))
  have s16 := (s2.trans s3).trans (s.trans g6)
  refine q q5 (bs3 ++ bs) _ (kp.trans (Keep.of_same s16)) (G1.same s16) (by rw [upd_same, List.map_append]) (by rw [List.length_append]; omega) fun b hb => ?_
  rcases List.mem_append.mp hb with h | h
  · exact (zb3 b h).same (s.trans g6)
  · exact (zb b h).same g6
end
end DQ

set_option Elab.async false
set_option linter.all false
set_option maxRecDepth 100000
set_option maxHeartbeats 1000000
namespace DQ
open PySem PySem.Spec PyProof.Rows L2
/-! ### the due line is the line of the renamed store; the long ring -/
theorem plan_s {many : Nat} {l : Line} {f : Int → Int} {Qs : List (List Nat)} (L : IsLine many l) (pm : Qs.Perm (lotsOf l)) : ∀ p ∈ planQ f l Qs, p.1 = 1 ∨ p.1 = 2 := fun p hp => by
  obtain ⟨q, hq, rfl⟩ := List.mem_map.mp hp
  obtain ⟨h, n, rfl, s0, _, hn, _⟩ := (lots_ok L).1 q (pm.subset hq)
  have hd : (List.range' h (n + 1)).headD 0 = h := rfl
  show sAt l _ = 1 ∨ sAt l _ = 2
  rw [hd]
  have e : l[h]? = some (l[h]'(by omega)) := List.getElem?_eq_getElem _
  have s2 := L.st _ (List.getElem_mem (show h < l.length by omega))
  unfold sAt at s0 ⊢
  rw [e] at s0 ⊢
  have s0 : 0 < (l[h]'(by omega)).s := s0
  show (l[h]'(by omega)).s = 1 ∨ (l[h]'(by omega)).s = 2
  omega
section
variable {ms : List Str} {l : Line} {f : Int → Int} {m : Nat} {Qs : List (List Nat)}
theorem line_item {k : Nat} (h : k < l.length) : (k : Int) ∈ (lineStore ms "next" l).items := List.mem_map.mpr ⟨k, List.mem_range.mpr h, rfl⟩
theorem ends_one (fs : List Fact) (i : Int) : endsOf ["next"] fs i = [fwdOf fs "next" i, bwdOf fs "next" i] := rfl
theorem plan_ren (D : Drawn m (lineStore ms "next" l)) (L : IsLine ms.length l) (inj : ∀ x ∈ (lineStore ms "next" l).items, ∀ y ∈ (lineStore ms "next" l).items, f x = f y → x = y) (bd : ∀ x ∈ (lineStore ms "next" l).items, 0 ≤ f x ∧ f x ≤ 1000000000)
    (pm : Qs.Perm (lotsOf l)) (ord : Qs.Pairwise fun q r => minI (namQ f q) < minI (namQ f r)) : Plan ((lineStore ms "next" l).ren f).items (fwdOf ((lineStore ms "next" l).ren f).facts "next") (bwdOf ((lineStore ms "next" l).ren f).facts "next") (planQ f l Qs) := by
  have R := ren_tab D inj bd
  have e : ∀ k < l.length, fwdOf ((lineStore ms "next" l).ren f).facts "next" (f (k : Int)) = hat f (fwdOf (lineStore ms "next" l).facts "next" (k : Int)) ∧ bwdOf ((lineStore ms "next" l).ren f).facts "next" (f (k : Int)) = hat f (bwdOf (lineStore ms "next" l).facts "next" (k : Int)) := fun k hk => by
    have z : endsOf ["next"] ((lineStore ms "next" l).ren f).facts (f (k : Int)) = (endsOf ["next"] (lineStore ms "next" l).facts (k : Int)).map (hat f) := R.ends (k : Int) (line_item (ms := ms) hk)
    rw [ends_one, ends_one] at z
    injection z with z1 z2
    injection z2 with z2
    exact ⟨z1, z2⟩
  refine plan_of L pm ord (ren_drawn D inj bd).items.1 ?_ (fun k hk => (e k hk).1) fun k hk => (e k hk).2
  have p : ((lineStore ms "next" l).ren f).items.Perm (((List.range l.length).map fun k : Nat => (k : Int)).map f) := R.perm
  rw [List.map_map] at p
  exact p.symm
theorem in_lots {many : Nat} (L : IsLine many l) (pm : Qs.Perm (lotsOf l)) : ∀ q ∈ Qs, ∀ k ∈ q, k < l.length := fun q hq k hk => by
  have : k ∈ (lotsOf l).flatten := List.mem_flatten.mpr ⟨q, pm.subset hq, hk⟩
  rw [(lots_ok L).2] at this
  exact List.mem_range.mp this
theorem out_ren (D : Drawn m (lineStore ms "next" l)) (nd : ms.Nodup) (L : IsLine ms.length l) (inj : ∀ x ∈ (lineStore ms "next" l).items, ∀ y ∈ (lineStore ms "next" l).items, f x = f y → x = y) (bd : ∀ x ∈ (lineStore ms "next" l).items, 0 ≤ f x ∧ f x ≤ 1000000000) (pm : Qs.Perm (lotsOf l)) :
    outI (bitsOf ((lineStore ms "next" l).ren f).marks ((lineStore ms "next" l).ren f).facts) (planQ f l Qs) = dueOf f l Qs := by
  have R := ren_tab D inj bd
  refine due_out fun q hq k hk => ?_
  have hl := in_lots L pm q hq k hk
  have z : bitsOf ms ((lineStore ms "next" l).ren f).facts (f (k : Int)) = bitsOf ms (lineStore ms "next" l).facts (k : Int) := R.bits (k : Int) (line_item (ms := ms) hl)
  exact z.trans (line_bits nd L hl)
/-- a line of one ring -/
theorem lots_one (h0 : 0 < sAt l 0) (z : ∀ k, 0 < k → sAt l k = 0) : ∀ n, lotsTo l (n + 1) = [List.range' 0 (n + 1)]
  | 0 => by rw [lotsTo, if_pos h0]; rfl
  | n + 1 => by
    rw [lotsTo, if_neg (by rw [z (n + 1) (by omega)]; omega), lots_one h0 z n]
    show [] ++ [List.range' 0 (n + 1) ++ [n + 1]] = _
    rw [range_snoc 0 (n + 1), Nat.zero_add, List.nil_append]
theorem min_first : ∀ {x : Int} {r : List Int}, (x :: r).Pairwise (· < ·) → minI (x :: r) = x
  | _, [], _ => rfl
  | x, y :: r, h => by
    obtain ⟨h1, h2⟩ := List.pairwise_cons.mp h
    unfold minI
    rw [if_pos]
    rw [min_first h2]
    exact Int.le_of_lt (h1 y (List.mem_cons_self ..))
theorem own_plan (L : IsLine ms.length l) (pm : Qs.Perm (lotsOf l)) (ord : Qs.Pairwise fun q r => minI (namQ id q) < minI (namQ id r)) : Plan (lineStore ms "next" l).items (fwdOf (lineStore ms "next" l).facts "next") (bwdOf (lineStore ms "next" l).facts "next") (planQ id l Qs) := by
  have hi : ∀ e : Int, e = hat id e := fun e => by
    unfold hat
    split
    · assumption
    · rfl
  refine plan_of L pm ord ?_ (.refl _) (fun k _ => hi _) fun k _ => hi _
  exact List.Pairwise.map _ (fun a b h => by show (a : Int) < b; omega) List.pairwise_lt_range
theorem own_out (nd : ms.Nodup) (L : IsLine ms.length l) (pm : Qs.Perm (lotsOf l)) : outI (bitsOf ms (lineStore ms "next" l).facts) (planQ id l Qs) = dueOf id l Qs := due_out fun q hq k hk => line_bits nd L (in_lots L pm q hq k hk)
theorem emit_all (hl : l ≠ []) (z : ∀ k, 0 < k → sAt l k = 0) : emitQ l (sAt l 0) (List.range' 0 l.length) = l := by
  refine List.ext_getElem? fun k => ?_
  by_cases hk : k < l.length
  · have hr : (List.range' 0 l.length)[k]? = some k := by rw [List.getElem?_range' hk]; simp
    have e : l[k]? = some l[k] := List.getElem?_eq_getElem hk
    have g := emit_get (bits := fun i => bitsAt l i.toNat) (s := sAt l 0) (r := castQ (List.range' 0 l.length)) (t := k) (x := (k : Int)) (by rw [List.getElem?_map, hr]; rfl)
    unfold emitQ
    rw [g, e, Int.toNat_natCast]
    have b : bitsAt l k = l[k].bits := by unfold bitsAt; rw [e]; rfl
    have s : (if k = 0 then sAt l 0 else 0) = l[k].s := by
      have sk : sAt l k = l[k].s := by unfold sAt; rw [e]; rfl
      by_cases c : k = 0
      · rw [if_pos c, ← sk, c]
      · rw [if_neg c, ← sk, z k (by omega)]
    rw [b, s]
  · rw [List.getElem?_eq_none (show l.length ≤ k by omega), List.getElem?_eq_none]
    unfold emitQ
    rw [emit_len, List.length_map, List.length_range']
    omega
theorem due_one (hl : l ≠ []) (z : ∀ k, 0 < k → sAt l k = 0) : dueOf id l [List.range' 0 l.length] = l := by
  have hn : ∃ n, l.length = n + 1 := ⟨l.length - 1, by have := List.length_pos_iff.mpr hl; omega⟩
  obtain ⟨n, hn⟩ := hn
  have hd : (List.range' 0 l.length).headD 0 = 0 := by rw [hn]; rfl
  have ix : idxQ id l (List.range' 0 l.length) = 0 := by
    unfold idxQ
    split
    · rw [hn, List.range'_succ]
      have up : (namQ id (0 :: List.range' (0 + 1) n)).Pairwise (· < ·) := by
        rw [← List.range'_succ]
        exact List.Pairwise.map _ (fun a b h => by show (a : Int) < b; omega) List.pairwise_lt_range'
      have e : minI (namQ id (0 :: List.range' (0 + 1) n)) = ((0 : Nat) : Int) := min_first up
      rw [e]
      rfl
    · rfl
  unfold dueOf
  rw [List.flatMap_singleton, hd]
  unfold rotQ
  rw [ix, List.drop_zero, List.take_zero, List.append_nil]
  exact emit_all hl z
end
end DQ

set_option Elab.async false
set_option linter.all false
set_option maxRecDepth 100000
set_option maxHeartbeats 1000000
namespace DQ
open PySem PySem.Spec PyProof.Rows L2
/-! ### f(k = v, ..): keywords alone -/
def tCallK0 (m : Nat) (sp : Sp) (gV : List V → List V → List V) (E : L2.St → XK) (tk : TA) : TE := fun σ H Q => tk σ H fun zs H2 => zs.length = m ∧ sp (gV [] zs) H2 Q (E σ)
section
variable {X : Cx} {CX : CXT} {k : Nat} {f : Addr} {fd : FuncData} {ps ks : List Str} {sp : Sp} {E : L2.St → XK} {x : Str} {p pos : Pos} {kws : List Keyword} {tk : TA} {g : List Value → List Value → List Value} {gV : List V → List V → List V}
theorem pe_callK0 (F : FnOk X.prog X.w X.K X.mg X.base CX k f fd ps sp) (hr : Room k X.A) (hg : Gl X x) (hm : X.mg x = some (.ref f)) (hk : PySem.W.keepIn X.K (.ref f) = true) (hb : KBn X.K fd ps 0 ks g gV) (hx : ∀ σ, PassesAt CX X σ (E σ)) (hkw : PK X kws tk)
    (hall : (backToKw pos (keywordEach kws X.env)).all (·.1.isSome) = true := by rfl) (hks : (backToKw pos (keywordEach kws X.env)).filterMap (·.1) = ks := by rfl) (hdb : (x == ("__debug__" : Str)) = false := by decide)
    (hpl : ((backTo pos (starEach [] X.env)).any (·.1) || (backToKw pos (keywordEach kws X.env)).any (·.1.isNone)) = false := by rfl) :
    PE X (.Call (.Name x p) [] kws pos) (tCallK0 ks.length sp gV E tk) := ⟨fun pins s σ H Q I h => by
  refine wpAny_Call_Name_kw (ld_glob I hg hm (PySem.W.callWith_KW0 (h₀ := X.base) I.ok.mod.kin hk hall (thn (hkw.run pos pins s σ H _ I h) fun ws s1 h1 => ?_) hpl) hdb)
  obtain ⟨zs, H1, I1, rz, lz, q1⟩ := h1
  refine ⟨I1.kIn, ?_⟩
  rw [hks]
  have e2 : ws.length = ks.length := rz.length.symm.trans lz
  show wpAny _ _ (call (.ref f) [] (ks.zip ws)) _ _ _
  refine wpAny_call (codeAny_mono (F.run X.A X.stack s1 H1 ⟨[], ks.zip ws⟩ (g [] ws) (gV [] zs) Q (E σ) hr I1.env0 (hb.to s1 [] ws I1.kIn rfl e2) (hb.rel .nil rz) q1) fun r s' hq => ?_)
  cases r with
  | error e => exact hx σ pins H1 s1 e s' I1 hq
  | ok fl =>
    cases fl with
    | ret u => exact I1.after hq
    | next => exact False.elim hq
    | brk => exact False.elim hq
    | cont => exact False.elim hq⟩
end
/-- the second, then the first; the third, the second, the first -/
def turn2 {α : Type} : List α → List α
  | [a, b] => [b, a]
  | l => l
def turn3 {α : Type} : List α → List α
  | [a, b, c] => [c, b, a]
  | l => l
theorem vals_turn2 {vs : List V} {us : List Value} (r : Vals vs us) : Vals (turn2 vs) (turn2 us) := by
  match r with
  | .nil => exact .nil
  | .cons a .nil => exact .cons a .nil
  | .cons a (.cons b .nil) => exact .cons b (.cons a .nil)
  | .cons a (.cons b (.cons c r)) => exact .cons a (.cons b (.cons c r))
theorem vals_turn3 {vs : List V} {us : List Value} (r : Vals vs us) : Vals (turn3 vs) (turn3 us) := by
  match r with
  | .nil => exact .nil
  | .cons a .nil => exact .cons a .nil
  | .cons a (.cons b .nil) => exact .cons a (.cons b .nil)
  | .cons a (.cons b (.cons c .nil)) => exact .cons c (.cons b (.cons a .nil))
  | .cons a (.cons b (.cons c (.cons d r))) => exact .cons a (.cons b (.cons c (.cons d r)))
end DQ

set_option Elab.async false
set_option linter.all false
set_option maxRecDepth 100000
set_option maxHeartbeats 1000000
namespace DQ
open PySem PySem.Spec PyProof.Rows L2
/-! ### what k65's law shows and asks, as data -/
theorem sm_bits {bs : List Int} (h : ∀ b ∈ bs, -9 ≤ b ∧ b ≤ 9) (few : bs.length ≤ 3) : Sm 1 195 (.tuple (bs.map PyData.int)) := (smAll (k := 0) (n := 64) fun d hd => by
  obtain ⟨b, hb, rfl⟩ := List.mem_map.mp hd
  have := h b hb
  exact sm_int (by omega) (by omega)).tuple (m := 3) (by rw [List.length_map]; exact few)
theorem sm_letter {x : Letter} (s2 : x.s ≤ 2) (h : ∀ b ∈ x.bits, b = 0 ∨ b = 1) (few : x.bits.length ≤ 3) : Sm 2 261 (letD x) :=
  ((sm_int (i := (x.s : Nat)) (by omega) (by omega)).cons ((sm_bits (fun b hb => by rcases h b hb with e | e <;> rw [e] <;> decide) few).cons (sml_nil (k := 1)) (Nat.le_refl _)) (Nat.zero_le _)).tuple
theorem sm_line {many n : Nat} {l : Line} (L : IsLine many l) (hm : many ≤ 3) (hl : l.length ≤ n) : Sm 3 (n * 262) (.list (l.map letD)) := (smAll (k := 2) (n := 261) fun d hd => by
  obtain ⟨x, hx, rfl⟩ := List.mem_map.mp hd
  exact sm_letter (L.st x hx) (L.bit x hx).2 (by rw [(L.bit x hx).1]; exact hm)).list (by rw [List.length_map]; exact hl)
theorem line_shows {many : Nat} {l : Line} (L : IsLine many l) (hm : many ≤ 3) (hl : l.length ≤ 100) : Shows (.list (l.map letD)) := (sm_line L hm hl).shows (by decide) (by decide)
theorem bool_shows (b : Bool) : Shows (.bool b) := (sm_bool b).shows (by decide) (by decide)
theorem facts_few {ms : List Str} {c : Str} {l : Line} (hm : ms.length ≤ 3) : (lineStore ms c l).facts.length ≤ l.length * 5 := by
  show (sortF _).length ≤ _
  rw [sortF_len]
  unfold factsLaw
  refine flat_le (fun k => ?_) _
  rw [List.length_append]
  have h1 := marks_len (ms := ms) (l := l) (k := k)
  have h2 := links_len (l := l) (k := k)
  have h3 : (linkFs c l k).length = (linkP l k).length := by unfold linkFs; rw [List.length_map]
  omega
theorem law_marks {b : List Str} {k : Nat} (hb : b = (["red", "blue"] : List Str) ∨ b = (["wide", "b2"] : List Str)) (hk : k ≤ 2) : MarksOk (b.take k) := by
  rcases hb with rfl | rfl
  · refine ⟨["red", "blue", "gold"], k, by simp [markLists], hk, ?_⟩
    have c : k = 0 ∨ k = 1 ∨ k = 2 := by omega
    rcases c with rfl | rfl | rfl <;> rfl
  · exact ⟨["wide", "b2"], k, by simp [markLists], hk, rfl⟩
theorem store_eq {S : Store} {m : Nat} (D : Drawn m S) (sh : S.facts.length ≤ 1000) (hm : m ≤ 1000) : PyData.eqv S.d S.d = true ∧ SeqAt.shaped S.d = true ∧ Shows S.d := ⟨(sm_store D sh hm).eqv (by decide), (sm_store D sh hm).shaped (by decide), (sm_store D sh hm).shows (by decide) (by decide)⟩
theorem line_eq (l : Line) : PyData.eqv (.list (l.map letD)) (.list (l.map letD)) = true := SeqAt.eqv_refl _ (flat_letters l).1
/-- the long ring -/
def longL (many : Nat) : Line := ⟨2, List.replicate many 0⟩ :: List.replicate 1999 ⟨0, List.replicate many 1⟩
theorem long_len (many : Nat) : (longL many).length = 2000 := by simp [longL]
theorem long_line (many : Nat) : IsLine many (longL many) := by
  refine ⟨fun a ha => ?_, fun a ha => ?_, fun a r e => ?_⟩
  · rcases List.mem_cons.mp ha with e | h
    · rw [e]
      exact Nat.le_refl _
    · rw [List.eq_of_mem_replicate h]
      exact Nat.zero_le _
  · rcases List.mem_cons.mp ha with e | h
    · rw [e]
      exact ⟨List.length_replicate .., fun b hb => .inl (List.eq_of_mem_replicate hb)⟩
    · rw [List.eq_of_mem_replicate h]
      exact ⟨List.length_replicate .., fun b hb => .inr (List.eq_of_mem_replicate hb)⟩
  · injection e with e1 _
    subst e1
    show 0 < 2
    decide
theorem long_zero (many : Nat) : ∀ k, 0 < k → sAt (longL many) k = 0 := fun k hk => by
  obtain ⟨j, rfl⟩ : ∃ j, k = j + 1 := ⟨k - 1, by omega⟩
  unfold sAt longL
  rw [List.getElem?_cons_succ]
  cases e : (List.replicate 1999 (⟨0, List.replicate many 1⟩ : Letter))[j]? with
  | none => rfl
  | some x =>
    rw [List.eq_of_mem_replicate (List.mem_of_getElem? e)]
    rfl
theorem long_lots (many : Nat) : lotsOf (longL many) = [List.range' 0 (longL many).length] := by
  unfold lotsOf
  rw [long_len]
  exact lots_one (l := longL many) (by show 0 < 2; decide) (long_zero many) 1999
/-- the long ring's plan, and what is written of it -/
theorem long_plan {ms : List Str} (nd : ms.Nodup) : ∃ Ls, Plan (lineStore ms "next" (longL ms.length)).items (fwdOf (lineStore ms "next" (longL ms.length)).facts "next") (bwdOf (lineStore ms "next" (longL ms.length)).facts "next") Ls ∧ (∀ p ∈ Ls, p.1 = 1 ∨ p.1 = 2) ∧ outI (bitsOf ms (lineStore ms "next" (longL ms.length)).facts) Ls = longL ms.length := by
  have pm : [List.range' 0 (longL ms.length).length].Perm (lotsOf (longL ms.length)) := by rw [long_lots]
  refine ⟨planQ id (longL ms.length) _, own_plan (long_line _) pm (List.pairwise_singleton _ _), plan_s (long_line _) pm, ?_⟩
  rw [own_out nd (long_line _) pm, due_one (by simp [longL]) (long_zero _)]
theorem emit_mem {l : Line} {s : Nat} {x : Letter} : ∀ {r : List Nat}, x ∈ emitQ l s r → (x.s = s ∨ x.s = 0) ∧ ∃ k ∈ r, x.bits = bitsAt l k
  | [], h => by cases h
  | k :: r, h => by
    rcases List.mem_cons.mp (show x ∈ (⟨s, bitsAt l ((k : Nat) : Int).toNat⟩ : Letter) :: (castQ r).map fun y => (⟨0, bitsAt l y.toNat⟩ : Letter) from h) with e | h
    · rw [e]
      exact ⟨.inl rfl, k, List.mem_cons_self .., by rw [Int.toNat_natCast]⟩
    · obtain ⟨y, hy, rfl⟩ := List.mem_map.mp h
      obtain ⟨j, hj, rfl⟩ := List.mem_map.mp hy
      exact ⟨.inr rfl, j, List.mem_cons_of_mem _ hj, by rw [Int.toNat_natCast]⟩
theorem due_shows {many : Nat} {l : Line} {f : Int → Int} {Qs : List (List Nat)} (L : IsLine many l) (hm : many ≤ 3) (pm : Qs.Perm (lotsOf l)) (hl : l.length ≤ 100) : Shows (.list ((dueOf f l Qs).map letD)) ∧ (dueOf f l Qs).length = l.length := by
  have len : (dueOf f l Qs).length = l.length := by
    rw [due_len, (pm.flatten).length_eq, (lots_ok L).2, List.length_range]
  refine ⟨((smAll (k := 2) (n := 261) fun d hd => ?_).list (m := 100) (by rw [List.length_map, len]; exact hl)).shows (by decide) (by decide), len⟩
  obtain ⟨x, hx, rfl⟩ := List.mem_map.mp hd
  obtain ⟨q, hq, hx⟩ := List.mem_flatMap.mp hx
  obtain ⟨hs, k, hk, hb⟩ := emit_mem hx
  have hk := in_lots L pm q hq k (rotQ_mem.mp hk)
  have e : l[k]? = some l[k] := List.getElem?_eq_getElem hk
  have eb : bitsAt l k = l[k].bits := bitsAt_of e
  have mem := List.getElem_mem hk
  refine sm_letter ?_ (by rw [hb, eb]; exact (L.bit _ mem).2) (by rw [hb, eb, (L.bit _ mem).1]; exact hm)
  have p := plan_s (f := f) L pm _ (List.mem_map.mpr ⟨q, hq, rfl⟩)
  have p : sAt l (q.headD 0) = 1 ∨ sAt l (q.headD 0) = 2 := p
  omega
end DQ

set_option Elab.async false
set_option linter.all false
set_option maxRecDepth 100000
set_option maxHeartbeats 1000000
namespace DQ
open PySem PySem.Spec PyProof.Rows L2
/-! ### odd values: data that are no lines -/
structure OddD (K : PySem.W.Frag) (many : Nat) (H : Hp) (v : V) (d : PyData) : Prop where
  dp : Dp K H v d
  no : lineD many d = false
  few : ∀ ds, d = .list ds → ds.length ≤ 10000
theorem OddD.same {K : PySem.W.Frag} {many : Nat} {H H' : Hp} {v : V} {d : PyData} (h : OddD K many H v d) (s : Same H H') : OddD K many H' v d := ⟨dp_same s _ _ h.dp, h.no, h.few⟩
def OdA (K : PySem.W.Frag) (many : Nat) (te : TE) (σ : L2.St) (H0 : Hp) : Prop := ∀ H, Same H0 H → ∀ R : VK, (∀ v d H2, Same H H2 → OddD K many H2 v d → R v H2) → te σ H R
def OdL (K : PySem.W.Frag) (many : Nat) (n : Nat) (ta : TA) (σ : L2.St) (H0 : Hp) : Prop := ∀ H, Same H0 H → ∀ R : List V → Hp → Prop, (∀ (xs : List V) (ds : List PyData) H2, Same H H2 → xs.length = n → Paired (OddD K many H2) xs ds → R xs H2) → ta σ H R
section
variable {K : PySem.W.Frag} {many : Nat} {σ : L2.St} {H0 : Hp}
theorem od_nil : OdL K many 0 tNil σ H0 := fun H s R h => nil_read (h [] [] H (fun _ _ h => h) rfl .nil)
theorem od_cons {n : Nat} {te : TE} {ta : TA} (h1 : OdA K many te σ H0) (h2 : OdL K many n ta σ H0) : OdL K many (n + 1) (tCons te ta) σ H0 := fun H s R h => h1 H s _ fun v d H1 s1 o1 => h2 H1 (s.trans s1) _ fun xs ds H2 s2 lx px => h (v :: xs) (d :: ds) H2 (s1.trans s2) (by rw [List.length_cons, lx]) (.cons (o1.same s2) px)
theorem od_lst {n : Nat} {ta : TA} (h : OdL K many n ta σ H0) (few : n ≤ 100) {H : Hp} (s : Same H0 H) {R : VK} (q : ∀ p (xs : List V) (ds : List PyData) H2, Same H H2 → H2 p = some (.lst xs) → xs.length = n → Paired (OddD K many H2) xs ds → R (.ref p) H2) : tLst ta σ H R := h H s _ fun xs ds H1 s1 lx px => ⟨by rw [lx]; exact Nat.le_trans few (by decide), fun p np => q p xs ds _ (s1.trans (same_new np)) upd_same lx (paired_mono (fun v d h => h.same (same_new np)) px)⟩
theorem od_non : OdA K many (tC .non) σ H0 := fun H s R h => h .non .none H (fun _ _ h => h) ⟨.non, rfl, fun ds e => by cases e⟩
theorem od_str (x : Str) : OdA K many (tC (.str x)) σ H0 := fun H s R h => h (.str x) (.str x) H (fun _ _ h => h) ⟨.str x, rfl, fun ds e => by cases e⟩
theorem od_unit : OdA K many (tTup tNil) σ H0 := fun H s R h => nil_read ⟨Nat.zero_le _, fun p np => h (.ref p) (.tuple []) _ (same_new np) ⟨.tup (.inl (.inl upd_same)) .nil, rfl, fun ds e => by cases e⟩⟩
/-- [None] -/
theorem od_one_non : OdA K many (tLst (tCons (tC .non) tNil)) σ H0 := fun H s R h => ⟨by show 1 ≤ sizeLine; decide, fun p np => h (.ref p) (.list [.none]) _ (same_new np) ⟨.lst (SqL.of upd_same) (.cons .non .nil), rfl, fun ds e => by injection e with e; subst e; decide⟩⟩
/-- [[1, ()]] -/
theorem od_list : OdA K many (tLst (tCons (tLst (tCons (tC (.int 1)) (tCons (tTup tNil) tNil))) tNil)) σ H0 := fun H s R h => by
  refine ⟨Nat.zero_le _, fun u nu => ⟨by show 2 ≤ sizeLine; decide, fun l nl => ⟨by show 1 ≤ sizeLine; decide, fun p np => ?_⟩⟩⟩
  have e1 := same_new np (o := .lst [V.ref l]) _ _ (same_new nl (o := .lst [V.int 1, .ref u]) _ _ (upd_same (H := H) (a := u) (o := .tup [])))
  exact h (.ref p) (.list [.list [.int 1, .tuple []]]) _ (((same_new nu).trans (same_new nl)).trans (same_new np)) ⟨.lst (SqL.of upd_same) (.cons (.lst (SqL.of (same_new np _ _ upd_same)) (.cons (.int 1) (.cons (.tup (.inl (.inl e1)) .nil) .nil))) .nil), rfl, fun ds e => by injection e with e; subst e; decide⟩
/-- [(1,)] -/
theorem od_short : OdA K many (tLst (tCons (tTup (tCons (tC (.int 1)) tNil)) tNil)) σ H0 := fun H s R h => by
  refine ⟨by show 1 ≤ sizeLine; decide, fun l nl => ⟨by show 1 ≤ sizeLine; decide, fun p np => ?_⟩⟩
  exact h (.ref p) (.list [.tuple [.int 1]]) _ ((same_new nl).trans (same_new np)) ⟨.lst (SqL.of upd_same) (.cons (.tup (.inl (.inl (same_new np _ _ upd_same))) (.cons (.int 1) .nil)) .nil), rfl, fun ds e => by injection e with e; subst e; decide⟩
/-- [(x, (0,) * many)], x no whole number -/
theorem od_pair {tn : TE} {x : V} {d : PyData} (hx : ∀ H, Dp K H x d) (hd : betweenD 0 2 d = false) (hk : ∀ H (R : VK), R (.int (many : Nat)) H → tn σ H R) (few : many ≤ 3) : OdA K many (tLst (tCons (tTup (tCons (tC x) (tCons (tOp (rRepS K) (tTup (tCons (tC (.int 0)) tNil)) tn) tNil))) tNil)) σ H0 := fun H s R h => by
  refine ⟨by show 1 ≤ sizeLine; decide, fun c nc => hk _ _ ⟨c, many, .int 0, rfl, rfl, upd_same, by omega, fun p H2 s2 e2 => nil_read ⟨by show 2 ≤ sizeLine; decide, fun t nt => nil_read ⟨by show 1 ≤ sizeLine; decide, fun b nb => ?_⟩⟩⟩⟩
  have s1 := ((same_new nc (o := .tup [.int 0])).trans s2).trans (same_new nt (o := .tup [x, .ref p]))
  have ep : H2 p = some (.tup ((List.replicate many (0 : Int)).map V.int)) := by rw [e2, List.map_replicate]
  refine h (.ref b) (.list [.tuple [d, .tuple ((List.replicate many (0 : Int)).map PyData.int)]]) _ (s1.trans (same_new nb)) ⟨.lst (SqL.of upd_same) (.cons (.tup (.inl (.inl (same_new nb _ _ upd_same))) (.cons (hx _) (.cons (.tup (.inl (.inl (same_new nb _ _ (same_new nt _ _ ep)))) (dp_bits _)) .nil))) .nil), ?_, fun ds e => by injection e with e; subst e; exact (by decide : (1 : Nat) ≤ 10000)⟩
  show (((betweenD 0 2 d && _) && true) && _) = false
  rw [hd]
  rfl
theorem od_dict : OdA K many tDNewK σ H0 := fun H s R h p np => h (.ref p) (.dict []) _ (same_new np) ⟨.dct upd_same, rfl, fun ds e => by cases e⟩
/-- tuple(line) -/
theorem od_tuple {K' : PySem.W.Frag} (hk : K' = K) {i : Nat} {a : Addr} {rs : List V} {l : Line} (hv : σ[i]? = some (some (.ref a))) (ha : H0 a = some (.lst rs)) (lt : Lets H0 rs l) : OdA K many (tCB (fun xs H Q => ∃ p ys, xs = [V.ref p] ∧ ((SqL K' H p ys ∧ ∀ l, H l = none → Q (.ref l) (upd H l (.tup ys))) ∨ (SqT K' H p ys ∧ Q (.ref p) H))) (tCons (tVar i) tNil)) σ H0 := fun H s R h =>
  ⟨.ref a, hv, a, rs, rfl, .inl ⟨SqL.of (s _ _ ha), fun p np => h (.ref p) (.tuple (l.map letD)) _ (same_new np) ⟨.tup (.inl (.inl upd_same)) (dp_letters ((lt.keep (tk_same s)).keep (tk_same (same_new np)))), rfl, fun ds e => by cases e⟩⟩⟩
/-- [(1, [0] * many)] -/
theorem od_bits {tn : TE} (hk : ∀ H (R : VK), R (.int (many : Nat)) H → tn σ H R) (few : many ≤ 3) : OdA K many (tLst (tCons (tTup (tCons (tC (.int 1)) (tCons (tOp rRep (tLst (tCons (tC (.int 0)) tNil)) tn) tNil))) tNil)) σ H0 := fun H s R h => by
  refine ⟨by show 1 ≤ sizeLine; decide, fun c nc => hk _ _ ⟨c, (many : Nat), [.int 0], rfl, rfl, upd_same, by omega, by omega, ?_, fun p np => nil_read ⟨by show 2 ≤ sizeLine; decide, fun t nt => nil_read ⟨by show 1 ≤ sizeLine; decide, fun b nb => ?_⟩⟩⟩⟩
  · rw [Int.toNat_natCast]
    exact Nat.le_trans (show [V.int 0].length * many ≤ 10 by simp; omega) (by decide)
  rw [Int.toNat_natCast, rep_one] at *
  have e1 : ((List.replicate many (0 : Int)).map V.int) = List.replicate many (V.int 0) := List.map_replicate
  have s1 := ((same_new nc (o := .lst [.int 0])).trans (same_new np (o := .lst (List.replicate many (V.int 0))))).trans (same_new nt (o := .tup [.int 1, .ref p]))
  refine h (.ref b) (.list [.tuple [.int 1, .list ((List.replicate many (0 : Int)).map PyData.int)]]) _ (s1.trans (same_new nb)) ⟨.lst (SqL.of upd_same) (.cons (.tup (.inl (.inl (same_new nb _ _ upd_same))) (.cons (.int 1) (.cons (.lst (SqL.of (same_new nb _ _ (same_new nt _ _ upd_same))) ?_) .nil))) .nil), rfl, fun ds e => by injection e with e; subst e; exact (by decide : (1 : Nat) ≤ 10000)⟩
  rw [← e1]
  exact dp_bits _
theorem dp_nones {H : Hp} : ∀ n : Nat, DpAll K H (List.replicate n V.non ++ [.int 0]) (List.replicate n PyData.none ++ [.int 0])
  | 0 => .cons (.int 0) .nil
  | n + 1 => .cons .non (dp_nones n)
/-- [(1, (None,) * many + (0,))] -/
theorem od_nones {tn : TE} (hk : ∀ H (R : VK), R (.int (many : Nat)) H → tn σ H R) (few : many ≤ 3) : OdA K many (tLst (tCons (tTup (tCons (tC (.int 1)) (tCons (tOp (rCatA K) (tOp (rRepS K) (tTup (tCons (tC .non) tNil)) tn) (tTup (tCons (tC (.int 0)) tNil))) tNil))) tNil)) σ H0 := fun H s R h => by
  refine ⟨by show 1 ≤ sizeLine; decide, fun c nc => hk _ _ ⟨c, many, .non, rfl, rfl, upd_same, by omega, fun p H2 s2 e2 => ⟨by show 1 ≤ sizeLine; decide, fun z nz => ?_⟩⟩⟩
  refine catA_by (same_new nz _ _ e2) upd_same (by simp) (by rw [List.length_replicate]; simp; omega) fun p4 H4 s4 e4 => nil_read ⟨by show 2 ≤ sizeLine; decide, fun t nt => nil_read ⟨by show 1 ≤ sizeLine; decide, fun b nb => ?_⟩⟩
  have s1 := ((((same_new nc (o := .tup [.non])).trans s2).trans (same_new nz (o := .tup [.int 0]))).trans s4).trans (same_new nt (o := .tup [.int 1, .ref p4]))
  refine h (.ref b) (.list [.tuple [.int 1, .tuple (List.replicate many PyData.none ++ [.int 0])]]) _ (s1.trans (same_new nb)) ⟨.lst (SqL.of upd_same) (.cons (.tup (.inl (.inl (same_new nb _ _ upd_same))) (.cons (.int 1) (.cons (.tup (.inl (.inl (same_new nb _ _ (same_new nt _ _ e4)))) (dp_nones many)) .nil))) .nil), ?_, fun ds e => by injection e with e; subst e; exact (by decide : (1 : Nat) ≤ 10000)⟩
  have e5 : bitsD many (.tuple (List.replicate many PyData.none ++ [.int 0])) = false := by
    show (decide ((List.replicate many PyData.none ++ [PyData.int 0]).length = many) && _) = false
    rw [decide_eq_false (by rw [List.length_append, List.length_replicate]; simp)]
    rfl
  have e6 : letterD many (.tuple [.int 1, .tuple (List.replicate many PyData.none ++ [.int 0])]) = false := by
    show (betweenD 0 2 (.int 1) && bitsD many (.tuple (List.replicate many PyData.none ++ [.int 0]))) = false
    rw [e5, Bool.and_false]
  show ((letterD many (.tuple [.int 1, .tuple (List.replicate many PyData.none ++ [.int 0])]) && true) && _) = false
  rw [e6]
  rfl
end
end DQ

set_option Elab.async false
set_option linter.all false
set_option maxRecDepth 100000
set_option maxHeartbeats 1000000
namespace DQ
open PySem PySem.Spec PyProof.Rows L2
/-! ### a told store is changed, an empty store -/
/-- for part in told[1:]: part.append(None), told a new store -/
theorem parts_end {K : PySem.W.Frag} {i j : Nat} {D : Ends} {σ : L2.St} {H0 H : Hp} {tv : V} {S : Store} (hj : σ[j]? = some (some tv)) (hi : i < σ.length) (N : NewSto H0 H tv S) (s0 : Same H0 H) (fm : S.marks.length ≤ 1000) (fc : S.columns.length ≤ 1000) (fi : S.items.length ≤ 1000) (ff : S.facts.length ≤ 1000) (q : ∀ y H', Same H0 H' → D.nx (σ.set i y) H') :
    tFor (iTup K (tSl (rSlT K) (tVar j) (tPart (tC (V.int 1))) tNoPart)) (gName i) (tDrop (tBM K "list" rAppend (tVar i) (tCons (tC V.non) tNil))) D σ H := by
  obtain ⟨t, m', c, i', f, rs, rfl, ht, hm', hc, hi', hf, tp, n1, n2, n3, n4, n5, m1, m2, m3, m4, m5, m6⟩ := N
  have lr : rs.length ≤ 1000 := by rw [tp.length, List.length_map]; exact ff
  refine ⟨_, hj, _, rfl, t, _, rfl, .inl (.inl ht), (fun z => absurd z.1 (show ¬ HT.sIx 5 0 (some 1) = 0 by decide)), fun p np => ?_⟩
  rw [show cutV [V.str "store", .ref m', .ref c, .ref i', .ref f] (some 1) none = [.ref m', .ref c, .ref i', .ref f] from rfl]
  have g1 := same_new np (o := .tup [V.ref m', .ref c, .ref i', .ref f])
  have f1 : L2.upd H p (.tup [V.ref m', .ref c, .ref i', .ref f]) p = some (.tup [V.ref m', .ref c, .ref i', .ref f]) := upd_same
  generalize L2.upd H p (.tup [V.ref m', .ref c, .ref i', .ref f]) = H1 at g1 f1 ⊢
  refine ⟨p, rfl, ⟨_, .inl (.inl f1)⟩, for_it (walk_tup (K := K) (a := p) (xs := [V.ref m', .ref c, .ref i', .ref f])) (fun k σ' H' => (∃ y, σ' = σ.set i y) ∧ Same H0 H' ∧ H' p = some (.tup [V.ref m', .ref c, .ref i', .ref f]) ∧ ∀ x ∈ [m', c, i', f], H0 x = none ∧ ∃ xs, H' x = some (.lst xs) ∧ xs.length ≤ 1000 + k)
    ⟨⟨σ[i], (List.set_getElem_self hi).symm⟩, s0.trans g1, f1, fun x hx => ?_⟩ (fun k σ' H' _ hP => .inl (.inl hP.2.2.1)) (fun k x σ' H' H'' hk hP y => ?_) fun σ' H' hP => ?_⟩
  · simp only [List.mem_cons, List.not_mem_nil, or_false] at hx
    rcases hx with rfl | rfl | rfl | rfl
    · exact ⟨n2, _, g1 _ _ hm', by rw [List.length_map]; omega⟩
    · exact ⟨n3, _, g1 _ _ hc, by rw [List.length_map]; omega⟩
    · exact ⟨n4, _, g1 _ _ hi', by rw [List.length_map]; omega⟩
    · exact ⟨n5, _, g1 _ _ hf, by omega⟩
  · obtain ⟨⟨y0, rfl⟩, s1, ep, al⟩ := hP
    obtain ⟨rfl, hx⟩ := y
    have hk : k < 4 := hk
    have hx' : x ∈ [m', c, i', f].map V.ref := List.mem_of_getElem? hx
    obtain ⟨b, hb, rfl⟩ := List.mem_map.mp hx'
    obtain ⟨nb, xs, eb, lb⟩ := al b hb
    refine ⟨.ref b, by simp [hi], .inl ⟨rfl, _, SqL.of eb⟩, b, xs, _, rfl, rfl, eb, Nat.lt_of_le_of_lt (show xs.length ≤ 2000 by omega) (by decide), ⟨_, by rw [List.set_set]⟩, same_upd s1 nb, ?_, fun x hx => ?_⟩
    · have ne : p ≠ b := fun e => by
        rw [e, eb] at ep
        cases ep
      rw [upd_ne ne]
      exact ep
    · obtain ⟨nx, ys, ex, lx⟩ := al x hx
      refine ⟨nx, ?_⟩
      by_cases e : x = b
      · subst e
        rw [eb] at ex
        injection ex with ex
        injection ex with ex
        exact ⟨_, upd_same, by rw [List.length_append, List.length_singleton]; omega⟩
      · exact ⟨ys, by rw [upd_ne e]; exact ex, by omega⟩
  · obtain ⟨⟨y, rfl⟩, s1, _, _⟩ := hP
    exact q y H' s1
theorem letters_few {m : Nat} (h : m ≤ 2) : (lettersOf m).length ≤ 12 := by
  have c : m = 0 ∨ m = 1 ∨ m = 2 := by omega
  rcases c with rfl | rfl | rfl <;> decide
theorem none_line (many : Nat) : IsLine many [] := by
  refine ⟨fun a ha => ?_, fun a ha => ?_, fun a r e => ?_⟩
  · cases ha
  · cases ha
  · cases e
theorem none_plan (ms : List Str) : Plan (lineStore ms "next" []).items (fwdOf (lineStore ms "next" []).facts "next") (bwdOf (lineStore ms "next" []).facts "next") [] :=
  own_plan (none_line ms.length) (Qs := []) .nil .nil
theorem none_store {H : Hp} {t m c i f : Addr} {ms : List Str} (ht : H t = some (.tup [.str "store", .ref m, .ref c, .ref i, .ref f])) (hm : H m = some (.lst (ms.map V.str))) (hc : H c = some (.lst [.str "next"])) (hi : H i = some (.lst [])) (hf : H f = some (.lst [])) : StoAt H (.ref t) (lineStore ms "next" []) :=
by
  have z : (lineStore ms "next" []).facts = [] := List.eq_nil_of_length_eq_zero (by
    show (sortF (factsLaw ms "next" [])).length = 0
    rw [sortF_len]
    rfl)
  exact ⟨t, m, c, i, f, [], rfl, ht, hm, hc, hi, hf, by rw [z]; exact .nil⟩
end DQ

set_option Elab.async false
set_option linter.all false
set_option maxRecDepth 100000
set_option maxHeartbeats 8000000
namespace DQ
open PySem PySem.Spec PyProof.Rows L2
abbrev sLaw : Stmt := topS 64
abbrev NLw : List Str := ["script", "generator", "marks", "many", "line", "kept", "store", "turned", "names", "due", "bent", "odd", "value", "long", "columns", "told", "part", "every"]
theorem scLaw : FnScope NLw ["script"] (defScope sLaw) := ⟨rfl, rfl, rfl, by decide +kernel, rfl, by decide +kernel, by decide +kernel⟩
def spLaw (K : PySem.W.Frag) : Sp := fun vs H Q _ => ∃ (a : Addr) (ns : List Int), vs = [.ref a] ∧ SqL K H a (ns.map V.int) ∧ ∀ H', Q (.bl true) H'
section
variable {P : Program} {w : World} {K : PySem.W.Frag} {mg : Str → Option Value} {base : Heap}
theorem ok_law {f fG fR fD fS fT fU fB fI fL fXS fXL fXI fXT : Addr} {fd dG dR dD dS dT dU dB dI dL dXS dXL dXI dXT : FuncData} (F : Fun K "law" "law" sLaw f fd)
    (GG : FnOk P w K mg base CX0 2 fG dG ["script", "index"] (spGenerator K)) (bG : Binds K dG ["script", "index"] []) (kG : PySem.W.keepIn K (.ref fG) = true) (mG : mg "_law_generator" = some (.ref fG))
    (GR : FnOk P w K mg base CX0 2 fR dR ["generator", "bound"] spRandom) (bR : Binds K dR ["generator", "bound"] []) (kR : PySem.W.keepIn K (.ref fR) = true) (mR : mg "_law_random" = some (.ref fR))
    (GD : FnOk P w K mg base CX0 3 fD dD ["generator", "many", "most"] spDrawnLine) (bD : Binds K dD ["generator", "many", "most"] []) (kD : PySem.W.keepIn K (.ref fD) = true) (mD : mg "_law_drawn_line" = some (.ref fD))
    (GS : FnOk P w K mg base CX0 1 fS dS ["marks", "column", "line"] (spLineSto K)) (bS : Binds K dS ["marks", "column", "line"] []) (kS : PySem.W.keepIn K (.ref fS) = true) (mS : mg "_law_line_store" = some (.ref fS))
    (GT : FnOk P w K mg base CX0 4 fT dT ["generator", "store"] spTurned) (bT : Binds K dT ["generator", "store"] []) (kT : PySem.W.keepIn K (.ref fT) = true) (mT : mg "_law_turned_store" = some (.ref fT))
    (GU : FnOk P w K mg base CX0 2 fU dU ["line", "names"] (spDue K)) (bU : Binds K dU ["line", "names"] []) (kU : PySem.W.keepIn K (.ref fU) = true) (mU : mg "_law_due_line" = some (.ref fU))
    (GB : FnOk P w K mg base CX0 3 fB dB ["generator", "many", "line"] spBents) (bB : Binds K dB ["generator", "many", "line"] []) (kB : PySem.W.keepIn K (.ref fB) = true) (mB : mg "_law_bents" = some (.ref fB))
    (GI : FnOk P w K mg base CX0 2 fI dI ["many", "value"] (spIsDue K)) (bI : Binds K dI ["many", "value"] []) (kI : PySem.W.keepIn K (.ref fI) = true) (mI : mg "_law_is_due" = some (.ref fI))
    (GL : FnOk P w K mg base CX0 1 fL dL ["many"] spLawLetters) (bL : Binds K dL ["many"] []) (kL : PySem.W.keepIn K (.ref fL) = true) (mL : mg "_law_letters" = some (.ref fL))
    (XS : FnOk P w K mg base (L2.CX P w) 6 fXS dXS ["marks", "columns", "line"] (spStoreOf K)) (bXS : Binds K dXS ["marks", "columns", "line"] []) (kXS : PySem.W.keepIn K (.ref fXS) = true) (mXS : mg "store_of_line" = some (.ref fXS)) (kbXS : KBn K dXS ["marks", "columns", "line"] 0 ["line", "columns", "marks"] (fun us ws => us ++ turn3 ws) (fun vs zs => vs ++ turn3 zs))
    (XL : FnOk P w K mg base (L2.CX P w) 8 fXL dXL ["store"] (spLineOf K)) (bXL : Binds K dXL ["store"] []) (kXL : PySem.W.keepIn K (.ref fXL) = true) (mXL : mg "line_of" = some (.ref fXL)) (kbXL : KBn K dXL ["store"] 0 ["store"] (fun us ws => us ++ ws) (fun vs zs => vs ++ zs))
    (XI : FnOk P w K mg base (L2.CX P w) 5 fXI dXI ["marks", "value"] (spIsLine K)) (bXI : Binds K dXI ["marks", "value"] []) (kXI : PySem.W.keepIn K (.ref fXI) = true) (mXI : mg "is_line" = some (.ref fXI)) (kbXI : KBn K dXI ["marks", "value"] 0 ["value", "marks"] (fun us ws => us ++ turn2 ws) (fun vs zs => vs ++ turn2 zs))
    (XT : FnOk P w K mg base (L2.CX P w) 5 fXT dXT ["marks"] (spLetters K)) (bXT : Binds K dXT ["marks"] []) (kXT : PySem.W.keepIn K (.ref fXT) = true) (mXT : mg "letters" = some (.ref fXT)) (kbXT : KBn K dXT ["marks"] 0 ["marks"] (fun us ws => us ++ ws) (fun vs zs => vs ++ zs))
    (mLen : mg "len" = none) (mRepr : mg "repr" = none) (mTuple : mg "tuple" = none) : FnG P w K mg base CX0 9 f fd ["script"] (spLaw K) := by
  refine fun_okG F scLaw (fun vs H Q E h => ?_) (fun cdv A outer s H vs Q E hr hG h => ?_)
  · obtain ⟨_, _, rfl, _⟩ := h
    rfl
  obtain ⟨a, ns, rfl, L, q⟩ := h
  have nd := scLaw.nd
  refine ⟨_, (pss_cons (ps_set (i := 1) nd rfl (.inl rfl) (pe_call GG (hr.mono (by decide)) rfl mG kG bG .nil pass0 (pa_cons (pv 0) (pa_cons pe_int pa_nil))))
    (pss_cons (ps_set (i := 2) nd rfl (.inr rfl) (pe_slice (r := rSlL K) sl_list (pe_ix (r := rIxL K) ix_list (pe_lst (pa_cons (pe_lst (pa_cons pe_str (pa_cons pe_str pa_nil))) (pa_cons (pe_lst (pa_cons pe_str (pa_cons pe_str pa_nil))) pa_nil))) (pe_call GR (hr.mono (by decide)) rfl mR kR bR .nil pass0 (pa_cons (pv 1) (pa_cons pe_int pa_nil))) (fun _ _ => rfl)) po_none (po_some (pe_call GR (hr.mono (by decide)) rfl mR kR bR .nil pass0 (pa_cons (pv 1) (pa_cons pe_int pa_nil))))))
    (pss_cons (ps_par (i := 3) (j := 4) rfl nd rfl rfl (by decide) rfl rfl (pa_cons (pe_callB call_len_seq (by rfl) mLen PySem.boot_len (pa_cons (pv 2) pa_nil)) (pa_cons (pe_call GD (hr.mono (by decide)) rfl mD kD bD .nil pass0 (pa_cons (pv 1) (pa_cons (pe_callB call_len_seq (by rfl) mLen PySem.boot_len (pa_cons (pv 2) pa_nil)) (pa_cons pe_int pa_nil)))) pa_nil)) (by rfl))
    (pss_cons (ps_par (i := 5) (j := 6) rfl nd rfl rfl (by decide) rfl rfl (pa_cons (pe_callB (call_reprV (room65 hr) hG) (by rfl) mRepr (by decide +kernel) (pa_cons (pv 4) pa_nil)) (pa_cons (pe_call GS (hr.mono (by decide)) rfl mS kS bS .nil pass0 (pa_cons (pv 2) (pa_cons pe_str (pa_cons (pv 4) pa_nil)))) pa_nil)) (by rfl))
    (pss_cons (ps_if (PW.pt (pw_or (pt_cmpR op_ne (pe_callB (call_reprV (room65 hr) hG) (by rfl) mRepr (by decide +kernel) (pa_cons (pe_callS (E := WE fun _ _ _ _ => False) XS (hr.mono (by decide)) rfl mXS kXS bXS (fun σ => passAt takes0 σ) (pa_cons (pv 2) (pa_cons (pe_lst (pa_cons pe_str pa_nil)) (pa_cons (pv 4) pa_nil)))) pa_nil)) (pe_callB (call_reprV (room65 hr) hG) (by rfl) mRepr (by decide +kernel) (pa_cons (pv 6) pa_nil)) (nomark _)) (pw_or1 (pt_cmpR (op_neD hr.units) (pe_callK0 (ks := ["line", "columns", "marks"]) (E := WE fun _ _ _ _ => False) XS (hr.mono (by decide)) rfl mXS kXS kbXS (fun σ => passAt takes0 σ) (pk_cons (pv 4) (pk_cons (pe_lst (pa_cons pe_str pa_nil)) (pk_cons (pv 2) pk_nil)))) (pv 6) (nomark _))))) (pss_one (ps_ret pe_bl)) pss_nil)
    (pss_cons (ps_asg (pe_call GT (hr.mono (by decide)) rfl mT kT bT .nil pass0 (pa_cons (pv 1) (pa_cons (pv 6) pa_nil))) (pg_tup rfl (pgs_cons (pg_name (i := 7) nd rfl (.inl rfl)) (pgs_cons (pg_name (i := 8) nd rfl (.inl rfl)) pgs_nil))))
    (pss_cons (ps_set (i := 9) nd rfl (.inl rfl) (pe_call GU (hr.mono (by decide)) rfl mU kU bU .nil pass0 (pa_cons (pv 4) (pa_cons (pv 8) pa_nil))))
    (pss_cons (ps_if (PW.pt (pw_or (pt_cmpR op_ne (pe_callB (call_reprV (room65 hr) hG) (by rfl) mRepr (by decide +kernel) (pa_cons (pe_callS (E := WE fun _ _ _ _ => False) XL (hr.mono (by decide)) rfl mXL kXL bXL (fun σ => passAt takes0 σ) (pa_cons (pv 7) pa_nil)) pa_nil)) (pe_callB (call_reprV (room65 hr) hG) (by rfl) mRepr (by decide +kernel) (pa_cons (pv 9) pa_nil)) (nomark _)) (pw_or (pt_cmpR (op_neD hr.units) (pe_callK0 (ks := ["store"]) (E := WE fun _ _ _ _ => False) XL (hr.mono (by decide)) rfl mXL kXL kbXL (fun σ => passAt takes0 σ) (pk_cons (pv 7) pk_nil)) (pv 9) (nomark _)) (pw_or1 (pt_cmpR op_ne (pe_callB (call_reprV (room65 hr) hG) (by rfl) mRepr (by decide +kernel) (pa_cons (pv 4) pa_nil)) (pv 5) (nomark _)))))) (pss_one (ps_ret pe_bl)) pss_nil)
    (pss_cons (ps_for (passes_of rfl) rfl (pi_list (pe_op op_cat (pe_lst (pa_cons (pv 4) (pa_cons (pv 9) pa_nil))) (pe_call GB (hr.mono (by decide)) rfl mB kB bB .nil pass0 (pa_cons (pv 1) (pa_cons (pv 3) (pa_cons (pv 4) pa_nil)))))) (pg_name (i := 10) nd rfl (.inl rfl)) (pss_one (ps_if (PW.pt (pw_or (pt_cmpR op_ne (pe_callB (call_reprV (room65 hr) hG) (by rfl) mRepr (by decide +kernel) (pa_cons (pe_callS (E := WE fun _ _ _ _ => False) XI (hr.mono (by decide)) rfl mXI kXI bXI (fun σ => passAt takes0 σ) (pa_cons (pv 2) (pa_cons (pv 10) pa_nil))) pa_nil)) (pe_callB (call_reprV (room65 hr) hG) (by rfl) mRepr (by decide +kernel) (pa_cons (pe_call GI (hr.mono (by decide)) rfl mI kI bI .nil pass0 (pa_cons (pv 3) (pa_cons (pv 10) pa_nil))) pa_nil)) (nomark _)) (pw_or1 (pt_cmpR op_ne (pe_callK0 (ks := ["value", "marks"]) (E := WE fun _ _ _ _ => False) XI (hr.mono (by decide)) rfl mXI kXI kbXI (fun σ => passAt takes0 σ) (pk_cons (pv 10) (pk_cons (pv 2) pk_nil))) (pe_call GI (hr.mono (by decide)) rfl mI kI bI .nil pass0 (pa_cons (pv 3) (pa_cons (pv 10) pa_nil))) (nomark _))))) (pss_one (ps_ret pe_bl)) pss_nil)))
    (pss_cons (ps_set (i := 11) nd rfl (.inl rfl) (pe_lst (pa_cons pe_non (pa_cons (pe_tup pa_nil) (pa_cons (pe_callTy call_tuple_of (by rfl) mTuple (by decide +kernel) (pa_cons (pv 4) pa_nil)) (pa_cons pe_str (pa_cons pe_dnewK (pa_cons (pe_lst (pa_cons pe_non pa_nil)) (pa_cons (pe_lst (pa_cons (pe_lst (pa_cons pe_int (pa_cons (pe_tup pa_nil) pa_nil))) pa_nil)) (pa_cons (pe_lst (pa_cons (pe_tup (pa_cons pe_int pa_nil)) pa_nil)) (pa_cons (pe_lst (pa_cons (pe_tup (pa_cons pe_bl (pa_cons (pe_op (r := rRepS K) op_repS (pe_tup (pa_cons pe_int pa_nil)) (pv 3)) pa_nil))) pa_nil)) (pa_cons (pe_lst (pa_cons (pe_tup (pa_cons pe_int (pa_cons (pe_op op_rep (pe_lst (pa_cons pe_int pa_nil)) (pv 3)) pa_nil))) pa_nil)) (pa_cons (pe_lst (pa_cons (pe_tup (pa_cons pe_int (pa_cons (pe_op (r := rCatA K) op_catA (pe_op (r := rRepS K) op_repS (pe_tup (pa_cons pe_non pa_nil)) (pv 3)) (pe_tup (pa_cons pe_int pa_nil))) pa_nil))) pa_nil)) (pa_cons (pe_lst (pa_cons (pe_tup (pa_cons pe_str (pa_cons (pe_op (r := rRepS K) op_repS (pe_tup (pa_cons pe_int pa_nil)) (pv 3)) pa_nil))) pa_nil)) pa_nil))))))))))))))
    (pss_cons (ps_if (PW.pt (pw_or (pt_cmpR (op_neD hr.units) (pe_lc (own := [("value", 12)]) (g := gName 12) (tt := tTest (tOp rNotB (tCallS (spIsLine K) (WE fun _ _ _ _ => False) (tCons (tVar 2) (tCons (tVar 12) tNil))) (tC (.bl false)))) (te := tVar 12) rfl nd (pi_list (pv 11)) (blkOk_by (own := [("value", 12)]) (N := NLw) (sc := defScope sLaw) (by decide +kernel)) (fun _ _ _ _ _ => pg_name (i := 12) nd rfl (Or.inl rfl)) (fun _ _ _ _ _ => pts_one (pt_cmpR (r := rNotB) op_notBl (pe_callS (E := WE fun _ _ _ _ => False) XI (hr.mono (by decide)) rfl mXI kXI bXI (fun σ => passAt takes0 σ) (pa_cons (pv 2) (pa_cons (pv 12) pa_nil))) pe_bl (by rfl))) (fun _ _ _ _ _ => pv 12)) (pe_lst pa_nil) (nomark _)) (pw_or (pt_cmpR (op_neD hr.units) (pe_callS (E := WE fun _ _ _ _ => False) XT (hr.mono (by decide)) rfl mXT kXT bXT (fun σ => passAt takes0 σ) (pa_cons (pv 2) pa_nil)) (pe_call GL (hr.mono (by decide)) rfl mL kL bL .nil pass0 (pa_cons (pv 3) pa_nil)) (nomark _)) (pw_or1 (pt_cmpR (op_neD hr.units) (pe_callK0 (ks := ["marks"]) (E := WE fun _ _ _ _ => False) XT (hr.mono (by decide)) rfl mXT kXT kbXT (fun σ => passAt takes0 σ) (pk_cons (pv 2) pk_nil)) (pe_call GL (hr.mono (by decide)) rfl mL kL bL .nil pass0 (pa_cons (pv 3) pa_nil)) (nomark _)))))) (pss_one (ps_ret pe_bl)) pss_nil)
    (pss_cons (ps_set (i := 13) nd rfl (.inl rfl) (pe_op op_cat (pe_lst (pa_cons (pe_tup (pa_cons pe_int (pa_cons (pe_op (r := rRepS K) op_repS (pe_tup (pa_cons pe_int pa_nil)) (pv 3)) pa_nil))) pa_nil)) (pe_op op_rep (pe_lst (pa_cons (pe_tup (pa_cons pe_int (pa_cons (pe_op (r := rRepS K) op_repS (pe_tup (pa_cons pe_int pa_nil)) (pv 3)) pa_nil))) pa_nil)) pe_int)))
    (pss_cons (ps_if (PW.pt (pw_or (pt_cmpR op_notBl (pe_callS (E := WE fun _ _ _ _ => False) XI (hr.mono (by decide)) rfl mXI kXI bXI (fun σ => passAt takes0 σ) (pa_cons (pv 2) (pa_cons (pv 13) pa_nil))) pe_bl (nomark _)) (pw_or1 (pt_cmpR (op_neD hr.units) (pe_callS (E := WE fun _ _ _ _ => False) XL (hr.mono (by decide)) rfl mXL kXL bXL (fun σ => passAt takes0 σ) (pa_cons (pe_callS (E := WE fun _ _ _ _ => False) XS (hr.mono (by decide)) rfl mXS kXS bXS (fun σ => passAt takes0 σ) (pa_cons (pv 2) (pa_cons (pe_lst (pa_cons pe_str pa_nil)) (pa_cons (pv 13) pa_nil)))) pa_nil)) (pv 13) (nomark _))))) (pss_one (ps_ret pe_bl)) pss_nil)
    (pss_cons (ps_set (i := 14) nd rfl (.inl rfl) (pe_lst (pa_cons pe_str pa_nil)))
    (pss_cons (ps_set (i := 15) nd rfl (.inl rfl) (pe_callS (E := WE fun _ _ _ _ => False) XS (hr.mono (by decide)) rfl mXS kXS bXS (fun σ => passAt takes0 σ) (pa_cons (pv 2) (pa_cons (pv 14) (pa_cons (pv 4) pa_nil)))))
    (pss_cons (ps_for (passes_of rfl) rfl (pi_tupK (K := K) rfl (pe_slice (r := rSlT K) sl_tup (pv 15) (po_some pe_int) po_none)) (pg_name (i := 16) nd rfl (.inl rfl)) (pss_one (ps_expr (pe_bm PySem.F.plainAttrs_list PySem.F.slot_list_append PySem.F.type_list_append mt_append (pv 16) (pa_cons pe_non pa_nil)))))
    (pss_cons (ps_set (i := 17) nd rfl (.inl rfl) (pe_callS (E := WE fun _ _ _ _ => False) XT (hr.mono (by decide)) rfl mXT kXT bXT (fun σ => passAt takes0 σ) (pa_cons (pv 2) pa_nil)))
    (pss_cons (ps_expr (pe_bm PySem.F.plainAttrs_list PySem.F.slot_list_append PySem.F.type_list_append mt_append (pv 17) (pa_cons pe_non pa_nil)))
    (pss_cons (ps_if (PW.pt (pw_or (pt_cmpR (op_neD hr.units) (pe_callS (E := WE fun _ _ _ _ => False) XT (hr.mono (by decide)) rfl mXT kXT bXT (fun σ => passAt takes0 σ) (pa_cons (pv 2) pa_nil)) (pe_call GL (hr.mono (by decide)) rfl mL kL bL .nil pass0 (pa_cons (pv 3) pa_nil)) (nomark _)) (pw_or (pt_cmpR (op_neD hr.units) (pv 14) (pe_lst (pa_cons pe_str pa_nil)) (nomark _)) (pw_or1 (pt_cmpR op_ne (pe_callB call_len_seq (by rfl) mLen PySem.boot_len (pa_cons (pv 2) pa_nil)) (pv 3) (nomark _)))))) (pss_one (ps_ret pe_bl)) pss_nil)
    (pss_one (ps_ret (pe_and (pe_cmpR (op_eqD hr.units) (pe_callS (E := WE fun _ _ _ _ => False) XS (hr.mono (by decide)) rfl mXS kXS bXS (fun σ => passAt takes0 σ) (pa_cons (pv 2) (pa_cons (pv 14) (pa_cons (pv 4) pa_nil)))) (pv 6) (nomark _)) (pe_one (pe_cmpR (op_eqD hr.units) (pe_callS (E := WE fun _ _ _ _ => False) XL (hr.mono (by decide)) rfl mXL kXL bXL (fun σ => passAt takes0 σ) (pa_cons (pe_tup (pa_cons pe_str (pa_cons (pv 2) (pa_cons (pe_lst (pa_cons pe_str pa_nil)) (pa_cons (pe_lst pa_nil) (pa_cons (pe_lst pa_nil) pa_nil)))))) pa_nil)) (pe_lst pa_nil) (nomark _))))))))))))))))))))))))), ?_⟩
  refine ⟨.ref a, rfl, a, ns, 0, rfl, by decide, L, fun g H1 s1 n1 gen1 => ?_⟩
  -- the marks
  refine ⟨by show 2 ≤ sizeLine; decide, fun p1 np1 => ⟨by show 2 ≤ sizeLine; decide, fun p2 np2 => ⟨by show 2 ≤ sizeLine; decide, fun p3 np3 => ?_⟩⟩⟩
  have c1 := same_new np1 (o := .lst [V.str "red", .str "blue"])
  have e1 : L2.upd H1 p1 (.lst [V.str "red", .str "blue"]) p1 = some (.lst [V.str "red", .str "blue"]) := upd_same
  generalize L2.upd H1 p1 (.lst [V.str "red", .str "blue"]) = H2 at c1 e1 np2 np3 ⊢
  have c2 := same_new np2 (o := .lst [V.str "wide", .str "b2"])
  have e2 : L2.upd H2 p2 (.lst [V.str "wide", .str "b2"]) p2 = some (.lst [V.str "wide", .str "b2"]) := upd_same
  have e12 := c2 _ _ e1
  generalize L2.upd H2 p2 (.lst [V.str "wide", .str "b2"]) = H3 at c2 e2 e12 np3 ⊢
  have c3 := same_new np3 (o := .lst [V.ref p1, .ref p2])
  have e3 : L2.upd H3 p3 (.lst [V.ref p1, .ref p2]) p3 = some (.lst [V.ref p1, .ref p2]) := upd_same
  have e13 := c3 _ _ e12
  have e23 := c3 _ _ e2
  have gen4 := ((gen1.same c1).same c2).same c3
  generalize L2.upd H3 p3 (.lst [V.ref p1, .ref p2]) = H4 at c3 e3 e13 e23 gen4 ⊢
  have n1g : p1 ≠ g := gen1.ne np1
  have n2g : p2 ≠ g := (gen1.same c1).ne np2
  have n3g : p3 ≠ g := ((gen1.same c1).same c2).ne np3
  refine ⟨.ref g, rfl, g, 2, _, rfl, gen4, by decide, by decide, by decide, fun r H5 r0 r1 gen5 b5 => ?_⟩
  have f13 := (b5 _ n1g).trans e13
  have f23 := (b5 _ n2g).trans e23
  have f33 := (b5 _ n3g).trans e3
  obtain ⟨pb, bw, hpb, hb5, hbm, pbg⟩ : ∃ (pb : Addr) (b : List Str), atI [V.ref p1, .ref p2] r = some (.ref pb) ∧ H5 pb = some (.lst (b.map V.str)) ∧ (b = (["red", "blue"] : List Str) ∨ b = (["wide", "b2"] : List Str)) ∧ pb ≠ g := by
    have c : r = 0 ∨ r = 1 := by omega
    rcases c with rfl | rfl
    · exact ⟨p1, ["red", "blue"], rfl, f13, .inl rfl, n1g⟩
    · exact ⟨p2, ["wide", "b2"], rfl, f23, .inr rfl, n2g⟩
  refine ⟨p3, _, r, .ref pb, rfl, rfl, SqL.of f33, hpb, ?_⟩
  refine ⟨.ref g, rfl, g, 3, _, rfl, gen5, by decide, by decide, by decide, fun r2 H6 r20 r21 gen6 b6 => ⟨_, rfl, pb, _, rfl, SqL.of ((b6 _ pbg).trans hb5), fun pm npm => ?_⟩⟩
  obtain ⟨kk, rfl⟩ : ∃ kk : Nat, r2 = (kk : Int) := ⟨r2.toNat, by omega⟩
  have ok := law_marks hbm (show kk ≤ 2 by omega)
  rw [cut_take (by omega), Int.toNat_natCast, ← List.map_take]
  generalize bw.take kk = ms at ok ⊢
  obtain ⟨_, _, ndm, l2, _, m3⟩ := marks_facts ok
  have c7 := same_new npm (o := .lst (ms.map V.str))
  have em7 : L2.upd H6 pm (.lst (ms.map V.str)) pm = some (.lst (ms.map V.str)) := upd_same
  have gen7 := gen6.same c7
  have pmg := gen6.ne npm
  generalize L2.upd H6 pm (.lst (ms.map V.str)) = H7 at c7 em7 gen7 ⊢
  -- the line
  refine ⟨.ref pm, rfl, pm, _, rfl, .inl (SqL.of em7), .ref g, rfl, .ref pm, rfl, pm, _, rfl, .inl (SqL.of em7), ?_⟩
  rw [List.length_map]
  refine ⟨g, ms.length, 9, _, rfl, l2, by decide, gen7, by decide, fun la rs l H8 IL ll kp8 nla ela lt gen8 => ⟨_, _, rfl, ?_⟩⟩
  have lag := gen7.ne nla
  have em8 := kp8 _ _ pmg em7
  have lshow := line_shows IL (show ms.length ≤ 3 by omega) (show l.length ≤ 100 by omega)
  have D : Drawn 9 (lineStore ms "next" l) := line_drawn m3 ndm IL ll (by decide)
  have ff := facts_few (c := "next") (l := l) (show ms.length ≤ 3 by omega)
  obtain ⟨sE, sSh, sShow⟩ := store_eq D (by omega) (by decide)
  have sBits : ∀ k < l.length, bitsOf ms (lineStore ms "next" l).facts (k : Nat) = bitsAt l k := fun k hk => line_bits ndm IL hk
  -- its store
  refine ⟨.ref la, rfl, .ref la, _, rfl, line_dp (SqL.of ela) lt, lshow, ?_⟩
  refine ⟨.ref pm, rfl, .ref la, rfl, pm, la, ms, rs, l, rfl, SqL.of em8, SqL.of ela, lt, IL, by omega, ndm, by omega, fun sv H9 s9 N9 => ⟨_, _, rfl, ?_⟩⟩
  generalize hS : lineStore ms "next" l = S at D ff sE sSh sShow sBits N9
  have gen9 := gen8.same s9
  have em9 := s9 _ _ em8
  have ela9 := s9 _ _ ela
  have lt9 := lt.keep (tk_same s9)
  have A9 := N9.at
  have A9' : StoAt (del H9 g) sv S := by
    obtain ⟨ta, m1, c1, i1, f1, rs1, e, h1, h2, h3, h4, h5, tp, q1, q2, q3, q4, q5, _⟩ := N9
    have ng : ∀ {x : Addr}, H8 x = none → x ≠ g := fun h => gen8.ne h
    exact ⟨ta, m1, c1, i1, f1, rs1, e, by rw [del_ne (ng q1)]; exact h1, by rw [del_ne (ng q2)]; exact h2, by rw [del_ne (ng q3)]; exact h3, by rw [del_ne (ng q4)]; exact h4, by rw [del_ne (ng q5)]; exact h5, tp.keep (tk_del gen9)⟩
  have nextL : SqL K H9 pm (ms.map V.str) := SqL.of em9
  have askS : ∀ {J : Hp} {pc : Addr} {R : VK}, Same H9 J → J pc = some (.lst [V.str "next"]) → (∀ v J', Same J J' → NewSto J J' v S → R v J') → spStoreOf K [.ref pm, .ref pc, .ref la] J R E := fun {J pc R} sJ hpc h => ⟨pm, pc, la, ms, rs, l, rfl, SqL.of (sJ _ _ em9), SqL.of hpc, SqL.of (sJ _ _ ela9), lt9.keep (tk_same sJ), IL, by omega, ok, fun v J' s' N' => h v J' s' (by rw [← hS]; exact N')⟩
  refine ⟨.ref pm, rfl, by show 1 ≤ sizeLine; decide, fun pc1 npc1 => ⟨.ref la, rfl, askS (same_new npc1) upd_same fun v1 H10 s10 N10 => ⟨v1, S.d, rfl, store_dp N10.at, sShow, ?_⟩⟩⟩
  have s910 := (same_new npc1 (o := .lst [V.str "next"])).trans s10
  refine ⟨sv, rfl, sv, S.d, rfl, store_dp (stoAt_same s910 A9), sShow, rfl, false, by simp, iteF' rfl ?_⟩
  refine ⟨.ref la, rfl, by show 1 ≤ sizeLine; decide, fun pc2 npc2 => ⟨.ref pm, rfl, rfl, askS (s910.trans (same_new npc2)) upd_same fun v2 H11 s11 N11 => ?_⟩⟩
  have s911 := (s910.trans (same_new npc2 (o := .lst [V.str "next"]))).trans s11
  refine ⟨sv, rfl, S.d, S.d, store_dp N11.at, store_dp (stoAt_same s911 A9), sSh, sSh, false, by rw [sE]; rfl, iteF' rfl ?_⟩
  clear N10 N11 s910 s10 s11 npc1 npc2
  -- the store under other names
  have gen11 := gen9.same s911
  have A11 := stoAt_same s911 A9
  have A11' : StoAt (del H11 g) sv S := stoAt_same (same_del s911) A9'
  refine ⟨.ref g, rfl, sv, rfl, g, sv, S, 9, _, rfl, by decide, D, A11', gen11, by decide, fun pt dn tu f ns2 H12 k12 ept led12 pmn AT _ gen12 inj bd => ?_⟩
  refine ⟨pt, [tu, .ref dn], rfl, .inl (.inl ept), rfl, tu, [.ref dn], rfl, .ref dn, [], rfl, rfl, ?_⟩
  have em12 := k12 _ _ pmg (s911 _ _ em9)
  have ela12 := k12 _ _ lag (s911 _ _ ela9)
  have lt12 := (lt9.keep (tk_same s911)).keep (tk_keep k12 gen11)
  -- its due line
  have itemsS : S.items = (List.range l.length).map fun k : Nat => (k : Int) := by rw [← hS]; rfl
  have mem2 : ∀ k : Nat, k < l.length → (k : Int) ∈ ns2 := fun k hk => pmn.mem_iff.mpr (by rw [itemsS]; exact List.mem_map.mpr ⟨k, List.mem_range.mpr hk, rfl⟩)
  have memS : ∀ k : Nat, k < l.length → (k : Int) ∈ S.items := fun k hk => pmn.mem_iff.mp (mem2 k hk)
  refine ⟨.ref la, rfl, .ref dn, rfl, la, dn, rs, ms.length, l, f, ns2, rfl, ela12, lt12, IL, by omega, led12, mem2, fun j k hj hk e => by have := inj _ (memS j hj) _ (memS k hk) e; omega, fun pd rsd Qs H13 s13 pmq ord epd ltd => ?_⟩
  obtain ⟨dShow, dLen⟩ := due_shows (f := f) IL (show ms.length ≤ 3 by omega) pmq (show l.length ≤ 100 by omega)
  have D' := ren_drawn D inj bd
  have PL : Plan (S.ren f).items (fwdOf (S.ren f).facts "next") (bwdOf (S.ren f).facts "next") (planQ f l Qs) := by
    subst hS
    exact plan_ren D IL inj bd pmq ord
  have OL : outI (bitsOf (S.ren f).marks (S.ren f).facts) (planQ f l Qs) = dueOf f l Qs := by
    subst hS
    exact out_ren D ndm IL inj bd pmq
  have m2' : (S.ren f).marks.length ≤ 2 := by
    subst hS
    exact l2
  have c1' : (S.ren f).columns = [("next" : Str)] := by
    subst hS
    rfl
  generalize hdl : dueOf f l Qs = dl at ltd dShow dLen OL
  have askL : ∀ {J : Hp} {R : VK} {Ex : XK}, Same H13 J → (∀ p rs2 J', Same J J' → J' p = some (.lst rs2) → Lets J' rs2 dl → R (.ref p) J') → spLineOf K [tu] J R Ex := fun {J R Ex} sJ h => ⟨tu, S.ren f, 9, _, rfl, by decide, D', stoAt_same (s13.trans sJ) AT, m2', c1', PL, plan_s IL pmq, fun p rs2 J' s' e' l' => h p rs2 J' s' e' (by rw [← OL]; exact l')⟩
  have ela13 := s13 _ _ ela12
  have lt13 := lt12.keep (tk_same s13)
  refine ⟨tu, rfl, ?_⟩
  refine nil_read ?_
  show spLineOf K [tu] H13 _ _
  refine askL (fun _ _ h => h) fun p4 rs4 H14 s14 ep4 lt4 => ?_
  refine ⟨.ref p4, _, rfl, line_dp (SqL.of ep4) lt4, dShow, ?_⟩
  refine ⟨.ref pd, rfl, .ref pd, _, rfl, line_dp (SqL.of (s14 _ _ epd)) (ltd.keep (tk_same s14)), dShow, rfl, false, by simp, iteF' rfl ?_⟩
  refine ⟨tu, rfl, rfl, ?_⟩
  show spLineOf K [tu] H14 _ _
  refine askL s14 fun p5 rs5 H15 s15 ep5 lt5 => ?_
  have s1315 := s14.trans s15
  have epd15 := s1315 _ _ epd
  have ltd15 := ltd.keep (tk_same s1315)
  have ela15 := s1315 _ _ ela13
  have lt15 := lt13.keep (tk_same s1315)
  refine ⟨.ref pd, rfl, _, _, line_dp (SqL.of ep5) lt5, line_dp (SqL.of epd15) ltd15, shaped_line _, shaped_line _, false, by rw [line_eq]; rfl, iteF' rfl ?_⟩
  refine ⟨.ref la, rfl, .ref la, _, rfl, line_dp (SqL.of ela15) lt15, lshow, _, rfl, rfl, false, by simp, iteF' rfl ?_⟩
  -- the bent ones
  have gen15 := gen12.same (s13.trans s1315)
  refine ⟨.ref la, rfl, .ref pd, rfl, by show 2 ≤ sizeLine; decide, fun p6 np6 => ?_⟩
  have c6 := same_new np6 (o := .lst [V.ref la, .ref pd])
  have e6 : L2.upd H15 p6 (.lst [V.ref la, .ref pd]) p6 = some (.lst [V.ref la, .ref pd]) := upd_same
  have p6g := gen15.ne np6
  have gen16 := gen15.same c6
  have ela16 := c6 _ _ ela15
  have lt16 := lt15.keep (tk_same c6)
  have epd16 := c6 _ _ epd15
  have ltd16 := ltd15.keep (tk_same c6)
  have em16 := c6 _ _ (s1315 _ _ (s13 _ _ em12))
  generalize L2.upd H15 p6 (.lst [V.ref la, .ref pd]) = H16 at c6 e6 gen16 ela16 lt16 epd16 ltd16 em16 ⊢
  have pdg : pd ≠ g := fun e => by
    obtain ⟨x, y, z, e7, _⟩ := gen16
    rw [← e, epd16] at e7
    injection e7 with e7
    injection e7 with e7
    rw [e7] at ltd16
    cases dl with
    | nil => cases ltd16
    | cons d0 dr =>
      cases ltd16 with
      | cons r _ =>
        obtain ⟨_, _, e8, _⟩ := r
        cases e8
  refine ⟨.ref g, rfl, .int (ms.length : Nat), rfl, .ref la, rfl, g, la, ms.length, rs, l, _, rfl, l2, ela16, lag, lt16, ll, gen16, by decide, fun pB bs H17 k17 gen17 epB lbs zbs => ?_⟩
  have e617 := k17 _ _ p6g e6
  have em17 := k17 _ _ pmg em16
  have ela17 := k17 _ _ lag ela16
  have epd17 := k17 _ _ pdg epd16
  have tk17 := tk_keep k17 gen16
  refine ⟨p6, pB, _, _, rfl, rfl, e617, epB, ?_, fun pC npC => ?_⟩
  · rw [List.length_map]
    exact Nat.le_trans (show 2 + bs.length ≤ 100 by omega) (by decide)
  have cC := same_new npC (o := .lst ([V.ref la, .ref pd] ++ bs.map V.ref))
  have eC : L2.upd H17 pC (.lst ([V.ref la, .ref pd] ++ bs.map V.ref)) pC = some (.lst ((la :: pd :: bs).map V.ref)) := upd_same
  have zl : ∀ b ∈ la :: pd :: bs, ZL 60 (L2.upd H17 pC (.lst ([V.ref la, .ref pd] ++ bs.map V.ref))) b := fun b hb => by
    rcases List.mem_cons.mp hb with e | hb
    · rw [e]
      exact ⟨rs, l.map ofL, cC _ _ ela17, zets_of ((lt16.keep tk17).keep (tk_same cC)), by rw [List.length_map]; omega⟩
    · rcases List.mem_cons.mp hb with e | hb
      · rw [e]
        exact ⟨rsd, dl.map ofL, cC _ _ epd17, zets_of ((ltd16.keep tk17).keep (tk_same cC)), by rw [List.length_map, dLen]; omega⟩
      · exact (zbs b hb).same cC
  have em18 := cC _ _ em17
  have ela18 := cC _ _ ela17
  have lt18 := (lt16.keep tk17).keep (tk_same cC)
  generalize L2.upd H17 pC (.lst ([V.ref la, .ref pd] ++ bs.map V.ref)) = H18 at cC eC zl em18 ela18 lt18 ⊢
  generalize (PyData.list (l.map letD)).shown = kept
  refine ⟨pC, rfl, ⟨_, SqL.of eC⟩, for_list (K := K) (a := pC) (xs := (la :: pd :: bs).map V.ref) (fun k σ J => ∃ y10 : Option V, σ = [some (.ref a), some (.ref g), some (.ref pm), some (.int (ms.length : Nat)), some (.ref la), some (.str kept), some sv, some tu, some (.ref dn), some (.ref pd), y10, none, none, none, none, none, none, none] ∧ Same H18 J)
    ⟨none, rfl, fun _ _ h => h⟩ (fun k σ J _ ⟨_, _, sJ⟩ => SqL.of (sJ _ _ eC)) (fun k x σ J hx hP => ?_) fun σ J hP => ?_⟩
  · obtain ⟨y10, rfl, sJ⟩ := hP
    obtain ⟨b, hb, rfl⟩ := at_map hx
    obtain ⟨xs, zs, eb, zt, lz⟩ := (zl b (List.mem_of_getElem? hb)).same sJ
    generalize hbb : lineD ms.length (.list (zs.map zD)) = bb
    have askI : ∀ {J2 : Hp} {R : VK} {Ex : XK}, Same J J2 → (∀ J3, Same J J3 → R (.bl bb) J3) → spIsLine K [.ref pm, .ref b] J2 R Ex := fun {J2 R Ex} s2 h => ⟨pm, ms, .ref b, .list (zs.map zD), rfl, SqL.of (s2 _ _ (sJ _ _ em18)), ok, .lst (SqL.of (s2 _ _ eb)) (dp_zets (zt.keep (tk_same s2))), fun ds e => by
      injection e with e
      subst e
      rw [List.length_map]
      omega, fun J3 s3 => by rw [hbb]; exact h J3 (s2.trans s3)⟩
    have askD : ∀ {J2 : Hp} {R : VK} {Ex : XK}, Same J J2 → (∀ J3, Same J J3 → R (.bl bb) J3) → spIsDue K [.int (ms.length : Nat), .ref b] J2 R Ex := fun {J2 R Ex} s2 h => ⟨ms.length, b, xs, zs, rfl, l2, SqL.of (s2 _ _ eb), zt.keep (tk_same s2), by omega, fun J3 s3 => by rw [hbb]; exact h J3 (s2.trans s3)⟩
    refine ⟨.ref pm, rfl, .ref b, rfl, ?_⟩
    refine nil_read ?_
    show spIsLine K [.ref pm, .ref b] J _ _
    refine askI (fun _ _ h => h) fun J1 sJ1 => ⟨.bl bb, .bool bb, rfl, .bl bb, bool_shows bb, ?_⟩
    refine ⟨.int (ms.length : Nat), rfl, .ref b, rfl, ?_⟩
    refine nil_read ?_
    show spIsDue K [.int (ms.length : Nat), .ref b] J1 _ _
    refine askD sJ1 fun J2 sJ2 => ⟨.bl bb, .bool bb, rfl, .bl bb, bool_shows bb, rfl, false, by simp, iteF' rfl ?_⟩
    refine ⟨.ref b, rfl, .ref pm, rfl, rfl, ?_⟩
    show spIsLine K [.ref pm, .ref b] J2 _ _
    refine askI sJ2 fun J3 sJ3 => ?_
    refine ⟨.int (ms.length : Nat), rfl, .ref b, rfl, ?_⟩
    refine nil_read ?_
    show spIsDue K [.int (ms.length : Nat), .ref b] J3 _ _
    refine askD sJ3 fun J4 sJ4 => ⟨rfl, false, by simp, iteF' rfl ⟨_, rfl, sJ.trans sJ4⟩⟩
  obtain ⟨y10, rfl, sJ⟩ := hP
  have emJ := sJ _ _ em18
  have elaJ := sJ _ _ ela18
  have ltJ := lt18.keep (tk_same sJ)
  have hm1 : ∀ {σ : L2.St}, σ[3]? = some (some (.int (ms.length : Nat))) → ∀ H (R : VK), R (.int (ms.length : Nat)) H → tVar 3 σ H R := fun hv H R h => ⟨_, hv, h⟩
  have w3 : ms.length ≤ 3 := by omega
  refine seq_te2 (fun v J2 => ∃ (po : Addr) (xso : List V) (dso : List PyData), v = .ref po ∧ Same J J2 ∧ J2 po = some (.lst xso) ∧ xso.length = 12 ∧ Paired (OddD K ms.length J2) xso dso) (fun R hR => ?_) fun v J2 hv2 => ?_
  · refine od_lst (K := K) (many := ms.length) (H0 := J) (n := 12) (od_cons od_non (od_cons od_unit (od_cons (od_tuple rfl (i := 4) (a := la) rfl elaJ ltJ) (od_cons (od_str _) (od_cons od_dict (od_cons od_one_non (od_cons od_list (od_cons od_short (od_cons (od_pair (x := .bl true) (d := .bool true) (fun _ => .bl true) rfl (hm1 rfl) w3) (od_cons (od_bits (hm1 rfl) w3) (od_cons (od_nones (hm1 rfl) w3) (od_cons (od_pair (x := .str "1") (d := .str "1") (fun _ => .str _) rfl (hm1 rfl) w3) od_nil)))))))))))) (by decide) (fun _ _ h => h) fun p xs ds H2 s e lx px => hR _ _ ⟨p, xs, ds, rfl, s, e, lx, px⟩
  obtain ⟨po, xso, dso, rfl, sO, epo, lxo, pxo⟩ := hv2
  have emO := sO _ _ emJ
  refine ⟨.ref po, rfl, po, rfl, ⟨_, SqL.of epo⟩, fun D1 nD1 => ?_⟩
  refine it_by (walk_list (K := K) (a := po) (xs := xso)) (fun i J3 => Same J2 J3 ∧ J3 D1 = some (.lst [])) ⟨same_new nD1, upd_same⟩ (fun _ _ _ hP => SqL.of (hP.1 _ _ epo)) (fun i x J4 J3 hi hP y => ?_) fun J3 hP => ?_
  · obtain ⟨s3, eD3⟩ := hP
    obtain ⟨rfl, hx⟩ := y
    obtain ⟨d, _, od⟩ := paired_at pxo hx
    have od3 := od.same s3
    refine ⟨rfl, ?_⟩
    refine ⟨.ref pm, rfl, x, rfl, ?_⟩
    refine nil_read ?_
    show spIsLine K [.ref pm, x] J3 _ _
    refine ⟨pm, ms, x, d, rfl, SqL.of (s3 _ _ emO), ok, od3.dp, od3.few, fun J5 s5 => ?_⟩
    rw [od3.no]
    exact ⟨false, false, rfl, rfl, false, rfl, iteF' rfl ⟨s3.trans s5, s5 _ _ eD3⟩⟩
  obtain ⟨s3, eD3⟩ := hP
  refine ⟨Nat.zero_le _, fun q1 nq1 => ?_⟩
  refine ⟨.list [], .list [], .lst (SqL.of (same_new nq1 _ _ eD3)) .nil, .lst (SqL.of upd_same) .nil, by decide +kernel, by decide +kernel, false, rfl, iteF' rfl ?_⟩
  have s23 := s3.trans (same_new nq1 (o := .lst []))
  have askT : ∀ {J5 : Hp} {R : VK} {Ex : XK}, Same J2 J5 → (∀ p rs6 J6, Same J5 J6 → J6 p = some (.lst rs6) → Lets J6 rs6 (lettersOf ms.length) → R (.ref p) J6) → spLetters K [.ref pm] J5 R Ex := fun {J5 R Ex} s h => ⟨pm, ms, rfl, SqL.of (s _ _ emO), ok, fun p rs6 J6 s6 _ e6 l6 => h p rs6 J6 s6 e6 l6⟩
  refine ⟨.ref pm, rfl, ?_⟩
  refine nil_read ?_
  show spLetters K [.ref pm] _ _ _
  refine askT s23 fun p7 rs7 J7 s7 e7 l7 => ?_
  refine ⟨.int (ms.length : Nat), rfl, ?_⟩
  refine nil_read ?_
  show spLawLetters [.int (ms.length : Nat)] J7 _ _
  refine ⟨ms.length, rfl, l2, fun p8 rs8 J8 s8 e8 l8 => ⟨_, _, line_dp (SqL.of (s8 _ _ e7)) (l7.keep (tk_same s8)), line_dp (SqL.of e8) l8, shaped_line _, shaped_line _, false, by rw [line_eq]; rfl, iteF' rfl ?_⟩⟩
  have s28 := (s23.trans s7).trans s8
  refine ⟨.ref pm, rfl, rfl, ?_⟩
  show spLetters K [.ref pm] J8 _ _
  refine askT s28 fun p9 rs9 J9 s9' e9 l9 => ?_
  refine ⟨.int (ms.length : Nat), rfl, ?_⟩
  refine nil_read ?_
  show spLawLetters [.int (ms.length : Nat)] J9 _ _
  refine ⟨ms.length, rfl, l2, fun pA rsA JA sA eA lA => ⟨_, _, line_dp (SqL.of (sA _ _ e9)) (l9.keep (tk_same sA)), line_dp (SqL.of eA) lA, shaped_line _, shaped_line _, false, by rw [line_eq]; rfl, iteF' rfl ?_⟩⟩
  have s2A := (s28.trans s9').trans sA
  -- the long ring
  refine seq_te2 (fun v JL => ∃ (pg2 : Addr) (rsg : List V), v = .ref pg2 ∧ Same JA JL ∧ JL pg2 = some (.lst rsg) ∧ Lets JL rsg (longL ms.length)) (fun R hR => ?_) fun v JL hvL => ?_
  · refine ⟨by show 1 ≤ sizeLine; decide, fun c1 nc1 => ?_⟩
    refine hm1 rfl _ _ ⟨c1, ms.length, .int 0, rfl, rfl, upd_same, by omega, fun t1 K1 sK1 eK1 => nil_read ⟨by show 2 ≤ sizeLine; decide, fun t2 nt2 => nil_read ⟨by show 1 ≤ sizeLine; decide, fun l1 nl1 => ?_⟩⟩⟩
    have e1 : Lets (L2.upd (L2.upd K1 t2 (.tup [.int 2, .ref t1])) l1 (.lst [.ref t2])) [.ref t2] [⟨2, List.replicate ms.length 0⟩] := .cons ⟨t2, t1, rfl, same_new nl1 _ _ upd_same, same_new nl1 _ _ (same_new nt2 _ _ (by rw [eK1, List.map_replicate]))⟩ .nil
    have sA1 := (((same_new nc1 (o := .tup [.int 0])).trans sK1).trans (same_new nt2 (o := .tup [.int 2, .ref t1]))).trans (same_new nl1 (o := .lst [V.ref t2]))
    have f1 : L2.upd (L2.upd K1 t2 (.tup [.int 2, .ref t1])) l1 (.lst [.ref t2]) l1 = some (.lst [.ref t2]) := upd_same
    generalize L2.upd (L2.upd K1 t2 (.tup [.int 2, .ref t1])) l1 (.lst [.ref t2]) = K2 at e1 sA1 f1 ⊢
    refine ⟨by show 1 ≤ sizeLine; decide, fun c2 nc2 => ?_⟩
    refine hm1 rfl _ _ ⟨c2, ms.length, .int 1, rfl, rfl, upd_same, by omega, fun t3 K3 sK3 eK3 => nil_read ⟨by show 2 ≤ sizeLine; decide, fun t4 nt4 => nil_read ⟨by show 1 ≤ sizeLine; decide, fun l2' nl2 => ?_⟩⟩⟩
    have e2 : LetV (L2.upd (L2.upd K3 t4 (.tup [.int 0, .ref t3])) l2' (.lst [.ref t4])) (.ref t4) ⟨0, List.replicate ms.length 1⟩ := ⟨t4, t3, rfl, same_new nl2 _ _ upd_same, same_new nl2 _ _ (same_new nt4 _ _ (by rw [eK3, List.map_replicate]))⟩
    have sA2 := (((same_new nc2 (o := .tup [.int 1])).trans sK3).trans (same_new nt4 (o := .tup [.int 0, .ref t3]))).trans (same_new nl2 (o := .lst [V.ref t4]))
    have f2 : L2.upd (L2.upd K3 t4 (.tup [.int 0, .ref t3])) l2' (.lst [.ref t4]) l2' = some (.lst [.ref t4]) := upd_same
    generalize L2.upd (L2.upd K3 t4 (.tup [.int 0, .ref t3])) l2' (.lst [.ref t4]) = K4 at e2 sA2 f2 ⊢
    refine ⟨l2', 1999, [.ref t4], rfl, rfl, f2, by decide, by decide, ?_, fun p5 np5 => ?_⟩
    · exact Nat.le_trans (show [V.ref t4].length * 1999 ≤ 1999 by simp) (by decide)
    rw [show ((1999 : Int)).toNat = 1999 from rfl, rep_one]
    have c5 := same_new np5 (o := .lst (List.replicate 1999 (V.ref t4)))
    refine ⟨l1, p5, _, _, rfl, rfl, c5 _ _ (sA2 _ _ f1), upd_same, ?_, fun p6 np6' => hR _ _ ⟨p6, _, rfl, ((sA1.trans sA2).trans c5).trans (same_new np6'), upd_same, ?_⟩⟩
    · rw [List.length_replicate]
      exact Nat.le_trans (show [V.ref t2].length + 1999 ≤ 2000 by simp) (by decide)
    · have rep : ∀ n : Nat, Lets K4 (List.replicate n (V.ref t4)) (List.replicate n ⟨0, List.replicate ms.length 1⟩) := fun n => by
        induction n with
        | zero => exact .nil
        | succ n ih => exact .cons e2 ih
      exact Lets.keep (tk_same (c5.trans (same_new np6'))) (paired_app (e1.keep (tk_same sA2)) (rep 1999))
  obtain ⟨pg2, rsg, rfl, sL, epg2, ltg⟩ := hvL
  have emL := sL _ _ (s2A _ _ emO)
  refine ⟨.ref pm, rfl, .ref pg2, rfl, ?_⟩
  refine nil_read ?_
  show spIsLine K [.ref pm, .ref pg2] JL _ _
  refine ⟨pm, ms, .ref pg2, .list ((longL ms.length).map letD), rfl, SqL.of emL, ok, line_dp (SqL.of epg2) ltg, fun ds e => ?_, fun K1 sK1 => ?_⟩
  · injection e with e
    subst e
    rw [List.length_map, long_len]
    decide
  rw [line_good (long_line _)]
  refine ⟨true, true, rfl, rfl, false, rfl, iteF' rfl ?_⟩
  refine ⟨.ref pm, rfl, by show 1 ≤ sizeLine; decide, fun pc3 npc3 => ⟨.ref pg2, rfl, ?_⟩⟩
  have cK := same_new npc3 (o := .lst [V.str "next"])
  refine nil_read ?_
  show spStoreOf K [.ref pm, .ref pc3, .ref pg2] _ _ _
  refine ⟨pm, pc3, pg2, ms, rsg, longL ms.length, rfl, SqL.of (cK _ _ (sK1 _ _ emL)), SqL.of upd_same, SqL.of (cK _ _ (sK1 _ _ epg2)), ltg.keep (tk_same (sK1.trans cK)), long_line _, by rw [long_len]; decide, ok, fun v2 K2 sK2 NK2 => ?_⟩
  obtain ⟨Ls, PLg, sOk, oLg⟩ := long_plan ndm
  refine nil_read ?_
  show spLineOf K [v2] K2 _ _
  refine ⟨v2, lineStore ms "next" (longL ms.length), 2000, Ls, rfl, by decide, line_drawn m3 ndm (long_line _) (by rw [long_len]; decide) (by decide), NK2.at, l2, rfl, PLg, sOk, fun p8 rs8 K3 sK3 eK3 lK3 => ?_⟩
  have sL3 := ((sK1.trans cK).trans sK2).trans sK3
  have lK3 : Lets K3 rs8 (longL ms.length) := by
    rw [← oLg]
    exact lK3
  refine ⟨.ref pg2, rfl, _, _, line_dp (SqL.of eK3) lK3, line_dp (SqL.of (sL3 _ _ epg2)) (ltg.keep (tk_same sL3)), shaped_line _, shaped_line _, false, by rw [line_eq]; rfl, iteF' rfl ?_⟩
  -- the told lists are its own
  have AJ : StoAt J sv S := stoAt_same del_le (stoAt_same (same_del sJ) (stoAt_same (same_del cC) (stoAt_same (keep_del k17) (stoAt_same (same_del c6) (stoAt_same (same_del (s13.trans s1315)) (stoAt_same (keep_del k12) A11'))))))
  have sJ3 : Same J K3 := ((sO.trans s2A).trans sL).trans sL3
  refine ⟨by show 1 ≤ sizeLine; decide, fun pc4 npc4 => ?_⟩
  have c4' := same_new npc4 (o := .lst [V.str "next"])
  have ec4 : L2.upd K3 pc4 (.lst [V.str "next"]) pc4 = some (.lst [V.str "next"]) := upd_same
  generalize L2.upd K3 pc4 (.lst [V.str "next"]) = K4 at c4' ec4 ⊢
  have sJ4 := sJ3.trans c4'
  have em4 := sJ4 _ _ emJ
  have ela4 := sJ4 _ _ elaJ
  have lt4 := ltJ.keep (tk_same sJ4)
  have A4 := stoAt_same sJ4 AJ
  clear sJ4 c4' sJ3 sL3 sL s2A sO AJ
  refine ⟨.ref pm, rfl, .ref pc4, rfl, .ref la, rfl, ?_⟩
  refine nil_read ?_
  show spStoreOf K [.ref pm, .ref pc4, .ref la] K4 _ _
  refine ⟨pm, pc4, la, ms, rs, l, rfl, SqL.of em4, SqL.of ec4, SqL.of ela4, lt4, IL, by omega, ok, fun tv K5 s5 N5 => ?_⟩
  rw [hS] at N5
  refine parts_end (i := 16) (j := 15) (tv := tv) rfl (show 16 < 18 by decide) N5 s5 (by have := D.fewMarks; omega) (by have := D.fewColumns; omega) (by have := D.few; omega) (by omega) fun y K6 s6 => ?_
  have em6 := s6 _ _ em4
  refine ⟨.ref pm, rfl, ?_⟩
  refine nil_read ?_
  show spLetters K [.ref pm] K6 _ _
  refine ⟨pm, ms, rfl, SqL.of em6, ok, fun pe rse K7 s7 ne7 ee7 le7 => ?_⟩
  refine ⟨.ref pe, rfl, .inl ⟨rfl, _, SqL.of ee7⟩, pe, rse, _, rfl, rfl, ee7, ?_, ?_⟩
  · have := Paired.length le7
    have := letters_few l2
    exact Nat.lt_of_le_of_lt (show rse.length ≤ 2000 by omega) (by decide)
  have s68 : Same K6 (L2.upd K7 pe (.lst (rse ++ [.non]))) := same_upd s7 ne7
  generalize L2.upd K7 pe (.lst (rse ++ [.non])) = K8 at s68 ⊢
  have s48 := s6.trans s68
  have em8' := s48 _ _ em4
  have ec8 := s48 _ _ ec4
  have ela8' := s48 _ _ ela4
  have lt8 := lt4.keep (tk_same s48)
  have A8 := stoAt_same s48 A4
  clear s48 s68 s6 s5 s7
  -- the last look
  refine ⟨.ref pm, rfl, ?_⟩
  refine nil_read ?_
  show spLetters K [.ref pm] K8 _ _
  refine ⟨pm, ms, rfl, SqL.of em8', ok, fun pB2 rsB K9 s9b _ eB lB => ?_⟩
  refine ⟨.int (ms.length : Nat), rfl, ?_⟩
  refine nil_read ?_
  show spLawLetters [.int (ms.length : Nat)] K9 _ _
  refine ⟨ms.length, rfl, l2, fun pD rsD KA sKA eDd lD => ⟨_, _, line_dp (SqL.of (sKA _ _ eB)) (lB.keep (tk_same sKA)), line_dp (SqL.of eDd) lD, shaped_line _, shaped_line _, false, by rw [line_eq]; rfl, iteF' rfl ?_⟩⟩
  have s8A := s9b.trans sKA
  refine ⟨.ref pc4, rfl, by show 1 ≤ sizeLine; decide, fun pn npn => ?_⟩
  have cn := same_new npn (o := .lst [V.str "next"])
  have en : L2.upd KA pn (.lst [V.str "next"]) pn = some (.lst [V.str "next"]) := upd_same
  generalize L2.upd KA pn (.lst [V.str "next"]) = KB at cn en ⊢
  have s8B := s8A.trans cn
  refine ⟨.list [.str "next"], .list [.str "next"], .lst (SqL.of (s8B _ _ ec8)) (.cons (.str _) .nil), .lst (SqL.of en) (.cons (.str _) .nil), by decide +kernel, by decide +kernel, false, rfl, iteF' rfl ?_⟩
  have emB := s8B _ _ em8'
  have elaB := s8B _ _ ela8'
  have ecB := s8B _ _ ec8
  have ltB := lt8.keep (tk_same s8B)
  have AB := stoAt_same s8B A8
  clear s8B cn s8A sKA s9b
  refine ⟨.ref pm, rfl, pm, _, rfl, .inl (SqL.of emB), .int (ms.length : Nat), rfl, ?_⟩
  rw [List.length_map]
  refine ⟨rfl, false, by simp, iteF' rfl ?_⟩
  -- the store again, and the empty one
  refine ⟨.ref pm, rfl, .ref pc4, rfl, .ref la, rfl, ?_⟩
  refine nil_read ?_
  show spStoreOf K [.ref pm, .ref pc4, .ref la] KB _ _
  refine ⟨pm, pc4, la, ms, rs, l, rfl, SqL.of emB, SqL.of ecB, SqL.of elaB, ltB, IL, by omega, ok, fun tv2 KC sC NC => ?_⟩
  rw [hS] at NC
  refine ⟨sv, rfl, S.d, S.d, store_dp NC.at, store_dp (stoAt_same sC AB), sSh, sSh, ?_⟩
  rw [sE]
  refine ⟨true, rfl, ?_⟩
  rw [if_pos rfl]
  have emC := sC _ _ emB
  clear sC NC AB ltB elaB ecB emB
  refine ⟨.ref pm, rfl, by show 1 ≤ sizeLine; decide, fun q1 nq1 => ⟨Nat.zero_le _, fun q2 nq2 => ⟨Nat.zero_le _, fun q3 nq3 => nil_read ⟨by show 5 ≤ sizeLine; decide, fun q4 nq4 => ?_⟩⟩⟩⟩
  have d1 := same_new nq1 (o := .lst [V.str "next"])
  have x1 : L2.upd KC q1 (.lst [V.str "next"]) q1 = some (.lst [V.str "next"]) := upd_same
  generalize L2.upd KC q1 (.lst [V.str "next"]) = KD at d1 x1 nq2 nq3 nq4 ⊢
  have d2 := same_new nq2 (o := .lst [])
  have x2 : L2.upd KD q2 (.lst []) q2 = some (.lst []) := upd_same
  generalize L2.upd KD q2 (.lst []) = KE at d2 x2 nq3 nq4 ⊢
  have d3 := same_new nq3 (o := .lst [])
  have x3 : L2.upd KE q3 (.lst []) q3 = some (.lst []) := upd_same
  generalize L2.upd KE q3 (.lst []) = KF at d3 x3 nq4 ⊢
  have d4 := same_new nq4 (o := .tup [V.str "store", .ref pm, .ref q1, .ref q2, .ref q3])
  have x4 : L2.upd KF q4 (.tup [V.str "store", .ref pm, .ref q1, .ref q2, .ref q3]) q4 = some (.tup [V.str "store", .ref pm, .ref q1, .ref q2, .ref q3]) := upd_same
  generalize L2.upd KF q4 (.tup [V.str "store", .ref pm, .ref q1, .ref q2, .ref q3]) = KG at d4 x4 ⊢
  refine nil_read ?_
  show spLineOf K [.ref q4] KG _ _
  refine ⟨.ref q4, lineStore ms "next" [], 9, [], rfl, by decide, line_drawn m3 ndm (none_line _) (Nat.zero_le _) (by decide), none_store x4 (d4 _ _ (d3 _ _ (d2 _ _ (d1 _ _ emC)))) (d4 _ _ (d3 _ _ (d2 _ _ x1))) (d4 _ _ (d3 _ _ x2)) (d4 _ _ x3), l2, rfl, none_plan ms, fun _ h => (by cases h), fun pz rsz KH sH eH lH => ?_⟩
  have lz : Lets KH rsz [] := lH
  refine ⟨Nat.zero_le _, fun q5 nq5 => ?_⟩
  refine ⟨.list [], .list [], .lst (SqL.of (same_new nq5 _ _ eH)) ?_, .lst (SqL.of upd_same) .nil, by decide +kernel, by decide +kernel, ?_⟩
  · cases lz
    exact .nil
  · rw [show PyData.eqv (.list []) (.list []) = true by decide +kernel]
    exact q _
end
end DQ

set_option Elab.async false
set_option linter.all false
set_option maxRecDepth 100000
set_option maxHeartbeats 4000000
namespace DQ
open PySem PySem.Spec PyProof.Rows L2
variable {K : PySem.W.Frag} {f : Addr} {fd : FuncData}
theorem kb_storeOf (F : Fun K "store_of_line" "store_of_line" sStoreOf f fd) : KBn K fd ["marks", "columns", "line"] 0 ["line", "columns", "marks"] (fun us ws => us ++ turn3 ws) (fun vs zs => vs ++ turn3 zs) := by
  obtain ⟨oc, od, kV, doc, pm, an, cdv, ct, osl, rfl, lk, hcd⟩ := F.ex
  exact ⟨fun s us ws X l1 l2 => match us, l1, ws, l2 with
    | [], _, [_, _, _], _ => .of_eq rfl, fun r1 r2 => r1.append (vals_turn3 r2)⟩
theorem kb_isLine (F : Fun K "is_line" "is_line" sIsLine f fd) : KBn K fd ["marks", "value"] 0 ["value", "marks"] (fun us ws => us ++ turn2 ws) (fun vs zs => vs ++ turn2 zs) := by
  obtain ⟨oc, od, kV, doc, pm, an, cdv, ct, osl, rfl, lk, hcd⟩ := F.ex
  exact ⟨fun s us ws X l1 l2 => match us, l1, ws, l2 with
    | [], _, [_, _], _ => .of_eq rfl, fun r1 r2 => r1.append (vals_turn2 r2)⟩
theorem kb_lineOf (F : Fun K "line_of" "line_of" sLineOf f fd) : KBn K fd ["store"] 0 ["store"] (fun us ws => us ++ ws) (fun vs zs => vs ++ zs) := by
  obtain ⟨oc, od, kV, doc, pm, an, cdv, ct, osl, rfl, lk, hcd⟩ := F.ex
  exact ⟨fun s us ws X l1 l2 => match us, l1, ws, l2 with
    | [], _, [_], _ => .of_eq rfl, fun r1 r2 => r1.append r2⟩
theorem kb_letters (F : Fun K "letters" "letters" sLetters f fd) : KBn K fd ["marks"] 0 ["marks"] (fun us ws => us ++ ws) (fun vs zs => vs ++ zs) := by
  obtain ⟨oc, od, kV, doc, pm, an, cdv, ct, osl, rfl, lk, hcd⟩ := F.ex
  exact ⟨fun s us ws X l1 l2 => match us, l1, ws, l2 with
    | [], _, [_], _ => .of_eq rfl, fun r1 r2 => r1.append r2⟩
end DQ

set_option Elab.async false
set_option linter.all false
set_option maxRecDepth 100000
set_option maxHeartbeats 4000000
namespace DQ
open PySem PySem.Spec PyProof.Rows L2
theorem all_of {P : Program} {w : World} {K : PySem.W.Frag} {mg : Str → Option Value} {fa C0 C1 C2 f0 f1 f2 f3 f4 f5 f6 f7 f8 f9 f10 f11 f12 f13 f14 f15 f16 f17 f18 f19 f20 f21 f22 f23 f24 f25 f26 f27 f28 f29 f30 f31 f32 f33 f34 f35 f36 f37 f38 f39 f40 : Addr} (hfa : mg "law" = some (.ref fa))
    (E0 : ErrAt K mg "InvalidStore" "InvalidStore.__init__" (sInit 2) C0)
    (E1 : ErrAt K mg "InvalidList" "InvalidList.__init__" (sInit 3) C1)
    (E2 : ErrAt K mg "Unlike" "Unlike.__init__" (sInit 4) C2)
    (c0 : ∃ t, mg "LETTERS" = some (.str letters t))
    (c1 : ∃ t, mg "WORD_SIGNS" = some (.str wordSigns t))
    (c2 : ∃ t, mg "MOST_SIGNS" = some (.int 30 t))
    (c3 : ∃ r, mg "RESERVED" = some (.ref r) ∧ ∀ H, SqT K H r (reserved.map V.str))
    (c4 : ∃ t, mg "MOST_MARKS" = some (.int 4 t))
    (c5 : ∃ t, mg "MOST_COLUMNS" = some (.int 2 t))
    (c6 : ∃ t, mg "MOST_ITEMS" = some (.int 2000 t))
    (c7 : ∃ t, mg "MOST_NUMBER" = some (.int 1000000000 t))
    (c8 : ∃ t, mg "NOWHERE" = some (.int (-1) t))
    (c9 : ∃ t, mg "MOST_LINE_MARKS" = some (.int 2 t))
    (c10 : ∃ t, mg "GOES_ON" = some (.int 0 t))
    (c11 : ∃ t, mg "PATH" = some (.int 1 t))
    (c12 : ∃ t, mg "RING" = some (.int 2 t))
    (D0 : ∃ fd, DefAt K mg "is_word" sIsWord f0 fd)
    (D1 : ∃ fd, DefAt K mg "is_spelled" sSpelled f1 fd)
    (D2 : ∃ fd, DefAt K mg "is_whole" sWhole f2 fd)
    (D3 : ∃ fd, DefAt K mg "is_between" sBetween f3 fd)
    (D4 : ∃ fd, DefAt K mg "is_number" sNumber f4 fd)
    (D5 : ∃ fd, DefAt K mg "are_words" sWords f5 fd)
    (D6 : ∃ fd, DefAt K mg "are_marks" sMarks f6 fd)
    (D7 : ∃ fd, DefAt K mg "are_columns" sColumns f7 fd)
    (D8 : ∃ fd, DefAt K mg "are_numbers" sNumbers f8 fd)
    (D9 : ∃ fd, DefAt K mg "is_ascending" sAscending f9 fd)
    (D10 : ∃ fd, DefAt K mg "is_fact" sIsFact f10 fd)
    (D11 : ∃ fd, DefAt K mg "first_clash" sClash f11 fd)
    (D12 : ∃ fd, DefAt K mg "are_facts" sFacts f12 fd)
    (D13 : ∃ fd, DefAt K mg "is_store" sStoreP f13 fd)
    (D14 : ∃ fd, DefAt K mg "check_store" sCheck f14 fd)
    (D15 : ∃ fd, DefAt K mg "table_of" sTable f15 fd)
    (D16 : ∃ fd, DefAt K mg "rows_of_items" sRows f16 fd)
    (D17 : ∃ fd, DefAt K mg "check_line_marks" sLM f17 fd)
    (D18 : ∃ fd, DefAt K mg "check_line_signs" sLS f18 fd)
    (D19 : ∃ fd, DefAt K mg "letters" sLetters f19 fd)
    (D20 : ∃ fd, DefAt K mg "is_letter" sIsLetter f20 fd)
    (D21 : ∃ fd, DefAt K mg "is_line" sIsLine f21 fd)
    (D22 : ∃ fd, DefAt K mg "first_of_piece" sFirst f22 fd)
    (D23 : ∃ fd, DefAt K mg "line_of" sLineOf f23 fd)
    (D24 : ∃ fd, DefAt K mg "links_of_line" sLinks f24 fd)
    (D25 : ∃ fd, DefAt K mg "told_by_line" sTold f25 fd)
    (D26 : ∃ fd, DefAt K mg "store_of_line" sStoreOf f26 fd)
    (D27 : ∃ fd, DefAt K mg "_law_hash" sHash f27 fd)
    (D28 : ∃ fd, DefAt K mg "_law_random" sRandom f28 fd)
    (D29 : ∃ fd, DefAt K mg "_law_cell" sCell f29 fd)
    (D30 : ∃ fd, DefAt K mg "_law_generator" sGenerator f30 fd)
    (D31 : ∃ fd, DefAt K mg "_law_drawn_order" sOrder f31 fd)
    (D32 : ∃ fd, DefAt K mg "_law_letters" sLawLetters f32 fd)
    (D33 : ∃ fd, DefAt K mg "_law_line_store" sLineSto f33 fd)
    (D34 : ∃ fd, DefAt K mg "_law_drawn_line" sDrawnLine f34 fd)
    (D35 : ∃ fd, DefAt K mg "_law_turned_store" sTurned f35 fd)
    (D36 : ∃ fd, DefAt K mg "_law_lots" sLots f36 fd)
    (D37 : ∃ fd, DefAt K mg "_law_due_line" sDue f37 fd)
    (D38 : ∃ fd, DefAt K mg "_law_is_due" sIsDue f38 fd)
    (D39 : ∃ fd, DefAt K mg "_law_bents" sBents f39 fd)
    (D40 : ∃ fd, DefAt K mg "law" sLaw f40 fd)
    (z0 : mg "isinstance" = none)
    (z1 : mg "str" = none)
    (z2 : mg "len" = none)
    (z3 : mg "all" = none)
    (z4 : mg "int" = none)
    (z5 : mg "bool" = none)
    (z6 : mg "list" = none)
    (z7 : mg "set" = none)
    (z8 : mg "any" = none)
    (z9 : mg "zip" = none)
    (z10 : mg "tuple" = none)
    (z11 : mg "range" = none)
    (z12 : mg "sum" = none)
    (z13 : mg "max" = none)
    (z14 : mg "sorted" = none)
    (z15 : mg "repr" = none)
    (z16 : mg "enumerate" = none)
    (z17 : mg "min" = none)
    : ∃ fd : FuncData, (∀ (s : Shared) (v : Value), BindsTo s fd ⟨[v], []⟩ [("script", v)]) ∧ ∀ base : Heap, FnG P w K mg base CX0 9 fa fd ["script"] (spLaw K) := by
  obtain ⟨t0, c0⟩ := c0
  obtain ⟨t1, c1⟩ := c1
  obtain ⟨t2, c2⟩ := c2
  obtain ⟨r3, c3, cc3⟩ := c3
  obtain ⟨t4, c4⟩ := c4
  obtain ⟨t5, c5⟩ := c5
  obtain ⟨t6, c6⟩ := c6
  obtain ⟨t7, c7⟩ := c7
  obtain ⟨t8, c8⟩ := c8
  obtain ⟨t9, c9⟩ := c9
  obtain ⟨t10, c10⟩ := c10
  obtain ⟨t11, c11⟩ := c11
  obtain ⟨t12, c12⟩ := c12
  obtain ⟨d0, D0⟩ := D0
  obtain ⟨d1, D1⟩ := D1
  obtain ⟨d2, D2⟩ := D2
  obtain ⟨d3, D3⟩ := D3
  obtain ⟨d4, D4⟩ := D4
  obtain ⟨d5, D5⟩ := D5
  obtain ⟨d6, D6⟩ := D6
  obtain ⟨d7, D7⟩ := D7
  obtain ⟨d8, D8⟩ := D8
  obtain ⟨d9, D9⟩ := D9
  obtain ⟨d10, D10⟩ := D10
  obtain ⟨d11, D11⟩ := D11
  obtain ⟨d12, D12⟩ := D12
  obtain ⟨d13, D13⟩ := D13
  obtain ⟨d14, D14⟩ := D14
  obtain ⟨d15, D15⟩ := D15
  obtain ⟨d16, D16⟩ := D16
  obtain ⟨d17, D17⟩ := D17
  obtain ⟨d18, D18⟩ := D18
  obtain ⟨d19, D19⟩ := D19
  obtain ⟨d20, D20⟩ := D20
  obtain ⟨d21, D21⟩ := D21
  obtain ⟨d22, D22⟩ := D22
  obtain ⟨d23, D23⟩ := D23
  obtain ⟨d24, D24⟩ := D24
  obtain ⟨d25, D25⟩ := D25
  obtain ⟨d26, D26⟩ := D26
  obtain ⟨d27, D27⟩ := D27
  obtain ⟨d28, D28⟩ := D28
  obtain ⟨d29, D29⟩ := D29
  obtain ⟨d30, D30⟩ := D30
  obtain ⟨d31, D31⟩ := D31
  obtain ⟨d32, D32⟩ := D32
  obtain ⟨d33, D33⟩ := D33
  obtain ⟨d34, D34⟩ := D34
  obtain ⟨d35, D35⟩ := D35
  obtain ⟨d36, D36⟩ := D36
  obtain ⟨d37, D37⟩ := D37
  obtain ⟨d38, D38⟩ := D38
  obtain ⟨d39, D39⟩ := D39
  obtain ⟨d40, D40⟩ := D40
  have e := hfa.symm.trans D40.g
  cases e
  have b0 := D0.F.binds (ps := ["value"]) fun _ _ _ _ _ _ us hl => match us, hl with | [_], _ => rfl
  have b1 := D1.F.binds (ps := ["text"]) fun _ _ _ _ _ _ us hl => match us, hl with | [_], _ => rfl
  have b2 := D2.F.binds (ps := ["value"]) fun _ _ _ _ _ _ us hl => match us, hl with | [_], _ => rfl
  have b3 := D3.F.binds (ps := ["value", "least", "most"]) fun _ _ _ _ _ _ us hl => match us, hl with | [_, _, _], _ => rfl
  have b4 := D4.F.binds (ps := ["value"]) fun _ _ _ _ _ _ us hl => match us, hl with | [_], _ => rfl
  have b5 := D5.F.binds (ps := ["value", "most"]) fun _ _ _ _ _ _ us hl => match us, hl with | [_, _], _ => rfl
  have b6 := D6.F.binds (ps := ["value"]) fun _ _ _ _ _ _ us hl => match us, hl with | [_], _ => rfl
  have b7 := D7.F.binds (ps := ["marks", "value"]) fun _ _ _ _ _ _ us hl => match us, hl with | [_, _], _ => rfl
  have b8 := D8.F.binds (ps := ["value"]) fun _ _ _ _ _ _ us hl => match us, hl with | [_], _ => rfl
  have b9 := D9.F.binds (ps := ["rows"]) fun _ _ _ _ _ _ us hl => match us, hl with | [_], _ => rfl
  have b10 := D10.F.binds (ps := ["marks", "columns", "known", "value"]) fun _ _ _ _ _ _ us hl => match us, hl with | [_, _, _, _], _ => rfl
  have b11 := D11.F.binds (ps := ["facts"]) fun _ _ _ _ _ _ us hl => match us, hl with | [_], _ => rfl
  have b12 := D12.F.binds (ps := ["marks", "columns", "items", "value"]) fun _ _ _ _ _ _ us hl => match us, hl with | [_, _, _, _], _ => rfl
  have b13 := D13.F.binds (ps := ["value"]) fun _ _ _ _ _ _ us hl => match us, hl with | [_], _ => rfl
  have b14 := D14.F.binds (ps := ["store"]) fun _ _ _ _ _ _ us hl => match us, hl with | [_], _ => rfl
  have b15 := D15.F.binds (ps := ["store"]) fun _ _ _ _ _ _ us hl => match us, hl with | [_], _ => rfl
  have b16 := D16.F.binds (ps := ["items", "many"]) fun _ _ _ _ _ _ us hl => match us, hl with | [_, _], _ => rfl
  have b17 := D17.F.binds (ps := ["marks"]) fun _ _ _ _ _ _ us hl => match us, hl with | [_], _ => rfl
  have b18 := D18.F.binds (ps := ["marks", "columns"]) fun _ _ _ _ _ _ us hl => match us, hl with | [_, _], _ => rfl
  have b19 := D19.F.binds (ps := ["marks"]) fun _ _ _ _ _ _ us hl => match us, hl with | [_], _ => rfl
  have b20 := D20.F.binds (ps := ["many", "value"]) fun _ _ _ _ _ _ us hl => match us, hl with | [_, _], _ => rfl
  have b21 := D21.F.binds (ps := ["marks", "value"]) fun _ _ _ _ _ _ us hl => match us, hl with | [_, _], _ => rfl
  have b22 := D22.F.binds (ps := ["table", "item"]) fun _ _ _ _ _ _ us hl => match us, hl with | [_, _], _ => rfl
  have b23 := D23.F.binds (ps := ["store"]) fun _ _ _ _ _ _ us hl => match us, hl with | [_], _ => rfl
  have b24 := D24.F.binds (ps := ["column", "line"]) fun _ _ _ _ _ _ us hl => match us, hl with | [_, _], _ => rfl
  have b25 := D25.F.binds (ps := ["marks", "columns", "line"]) fun _ _ _ _ _ _ us hl => match us, hl with | [_, _, _], _ => rfl
  have b26 := D26.F.binds (ps := ["marks", "columns", "line"]) fun _ _ _ _ _ _ us hl => match us, hl with | [_, _, _], _ => rfl
  have b27 := D27.F.binds (ps := ["seed", "index"]) fun _ _ _ _ _ _ us hl => match us, hl with | [_, _], _ => rfl
  have b28 := D28.F.binds (ps := ["generator", "bound"]) fun _ _ _ _ _ _ us hl => match us, hl with | [_, _], _ => rfl
  have b29 := D29.F.binds (ps := ["script", "index"]) fun _ _ _ _ _ _ us hl => match us, hl with | [_, _], _ => rfl
  have b30 := D30.F.binds (ps := ["script", "index"]) fun _ _ _ _ _ _ us hl => match us, hl with | [_, _], _ => rfl
  have b31 := D31.F.binds (ps := ["generator", "things"]) fun _ _ _ _ _ _ us hl => match us, hl with | [_, _], _ => rfl
  have b32 := D32.F.binds (ps := ["many"]) fun _ _ _ _ _ _ us hl => match us, hl with | [_], _ => rfl
  have b33 := D33.F.binds (ps := ["marks", "column", "line"]) fun _ _ _ _ _ _ us hl => match us, hl with | [_, _, _], _ => rfl
  have b34 := D34.F.binds (ps := ["generator", "many", "most"]) fun _ _ _ _ _ _ us hl => match us, hl with | [_, _, _], _ => rfl
  have b35 := D35.F.binds (ps := ["generator", "store"]) fun _ _ _ _ _ _ us hl => match us, hl with | [_, _], _ => rfl
  have b36 := D36.F.binds (ps := ["line"]) fun _ _ _ _ _ _ us hl => match us, hl with | [_], _ => rfl
  have b37 := D37.F.binds (ps := ["line", "names"]) fun _ _ _ _ _ _ us hl => match us, hl with | [_, _], _ => rfl
  have b38 := D38.F.binds (ps := ["many", "value"]) fun _ _ _ _ _ _ us hl => match us, hl with | [_, _], _ => rfl
  have b39 := D39.F.binds (ps := ["generator", "many", "line"]) fun _ _ _ _ _ _ us hl => match us, hl with | [_, _, _], _ => rfl
  refine ⟨d40, fun s v => ?_, fun base => ?_⟩
  · obtain ⟨oc, od, kV, doc, pm, an, cdv, ct, osl, rfl, _⟩ := D40.F.ex
    exact .of_eq rfl
  have U0 : ErrUse P w K mg base "InvalidStore" C0 := E0.use it2
  have U1 : ErrUse P w K mg base "InvalidList" C1 := E1.use it3
  have U2 : ErrUse P w K mg base "Unlike" C2 := E2.use it4
  have o1 := ok_spelled (P := P) (w := w) (mg := mg) (base := base) D1.F c0 c1 c2 z2 z3
  have o0 := ok_isWord (P := P) (w := w) (mg := mg) (base := base) D0.F o1 b1 D1.F.kp D1.g z0 z1 c3 cc3
  have o2 := ok_whole (P := P) (w := w) (mg := mg) (base := base) D2.F z0 z4 z5
  have o3 := ok_between (P := P) (w := w) (mg := mg) (base := base) D3.F o2 b2 D2.F.kp D2.g
  have o4 := ok_number (P := P) (w := w) (mg := mg) (base := base) D4.F o3 b3 D3.F.kp D3.g c7
  have o5 := ok_words (P := P) (w := w) (mg := mg) (base := base) D5.F o0 b0 D0.F.kp D0.g z0 z6 z2 z7 z3
  have o6 := ok_marks (P := P) (w := w) (mg := mg) (base := base) D6.F o5 b5 D5.F.kp D5.g c4
  have o7 := ok_columns (P := P) (w := w) (mg := mg) (base := base) D7.F o5 b5 D5.F.kp D5.g c5 z8
  have o8 := ok_numbers (P := P) (w := w) (mg := mg) (base := base) D8.F o4 b4 D4.F.kp D4.g z0 z6 z3
  have o9 := ok_ascending (P := P) (w := w) (mg := mg) (base := base) D9.F z9 z3
  have o10 := ok_isFact (P := P) (w := w) (mg := mg) (base := base) D10.F o4 b4 D4.F.kp D4.g z0 z10 z2 z3
  have o11 := ok_clash (P := P) (w := w) (mg := mg) (base := base) D11.F 
  have o12 := ok_facts (P := P) (w := w) (mg := mg) (base := base) D12.F o10 b10 D10.F.kp D10.g o9 b9 D9.F.kp D9.g o11 b11 D11.F.kp D11.g z0 z6 z3
  have o13 := ok_isStore (P := P) (w := w) (mg := mg) (base := base) D13.F o6 b6 D6.F.kp D6.g o7 b7 D7.F.kp D7.g o8 b8 D8.F.kp D8.g o9 b9 D9.F.kp D9.g o12 b12 D12.F.kp D12.g z0 z10 z2 c6
  have o14 := ok_check (P := P) (w := w) (mg := mg) (base := base) D14.F o13 b13 D13.F.kp D13.g U0
  have o15 := ok_table (P := P) (w := w) (mg := mg) (base := base) D15.F c8 z10
  have o16 := ok_rows (P := P) (w := w) (mg := mg) (base := base) D16.F z11
  have o17 := ok_LM (P := P) (w := w) (mg := mg) (base := base) D17.F o5 b5 D5.F.kp D5.g U1 c9
  have o18 := ok_LS (P := P) (w := w) (mg := mg) (base := base) D18.F o5 b5 D5.F.kp D5.g o17 b17 D17.F.kp D17.g U1 z2
  have o19 := ok_letters (P := P) (w := w) (mg := mg) (base := base) D19.F o16 b16 D16.F.kp D16.g o17 b17 D17.F.kp D17.g z2 z11 c12
  have o20 := ok_isLetter (P := P) (w := w) (mg := mg) (base := base) D20.F o3 b3 D3.F.kp D3.g z0 z10 z2 z3 c10 c12
  have o21 := ok_isLine (P := P) (w := w) (mg := mg) (base := base) D21.F o20 b20 D20.F.kp D20.g o17 b17 D17.F.kp D17.g z0 z6 z2 z3 c10
  have o22 := ok_first (P := P) (w := w) (mg := mg) (base := base) D22.F c8 c12 c11
  have o23 := ok_lineOf (P := P) (w := w) (mg := mg) (base := base) D23.F o14 b14 D14.F.kp D14.g o15 b15 D15.F.kp D15.g o22 b22 D22.F.kp D22.g U2 z2 c8 c10 c9
  have o24 := ok_links (P := P) (w := w) (mg := mg) (base := base) D24.F z16 z2 c10 c12
  have o25 := ok_told (P := P) (w := w) (mg := mg) (base := base) D25.F o24 b24 D24.F.kp D24.g z16 z9 z2 z6 z11 z14
  have o26 := ok_storeOf (P := P) (w := w) (mg := mg) (base := base) D26.F o18 b18 D18.F.kp D18.g o21 b21 D21.F.kp D21.g o25 b25 D25.F.kp D25.g U1
  have o27 := ok_hash (P := P) (w := w) (mg := mg) (base := base) D27.F z4
  have o28 := ok_random (P := P) (w := w) (mg := mg) (base := base) D28.F o27 b27 D27.F.kp D27.g z4 z11
  have o29 := ok_cell (P := P) (w := w) (mg := mg) (base := base) D29.F z2 z12
  have o30 := ok_generator (P := P) (w := w) (mg := mg) (base := base) D30.F o29 b29 D29.F.kp D29.g z4 z13
  have o31 := ok_order (P := P) (w := w) (mg := mg) (base := base) D31.F o28 b28 D28.F.kp D28.g z6 z2
  have o32 := ok_lawLetters (P := P) (w := w) (mg := mg) (base := base) D32.F z11 z12
  have o33 := ok_lineSto (P := P) (w := w) (mg := mg) (base := base) D33.F z16 z9 z2 z6 z11 z14
  have o34 := ok_drawnLine (P := P) (w := w) (mg := mg) (base := base) D34.F o28 b28 D28.F.kp D28.g o32 b32 D32.F.kp D32.g z11 z2
  have o35 := ok_turned (P := P) (w := w) (mg := mg) (base := base) D35.F o31 b31 D31.F.kp D31.g o28 b28 D28.F.kp D28.g z16 z10 z6 z14
  have o36 := ok_lots (P := P) (w := w) (mg := mg) (base := base) D36.F z16 z2
  have o37 := ok_due (P := P) (w := w) (mg := mg) (base := base) D37.F o36 b36 D36.F.kp D36.g z17 z14 z16
  have o38 := ok_isDue (P := P) (w := w) (mg := mg) (base := base) D38.F o32 b32 D32.F.kp D32.g
  have o39 := ok_bents (P := P) (w := w) (mg := mg) (base := base) D39.F o28 b28 D28.F.kp D28.g z2
  exact ok_law D40.F o30 b30 D30.F.kp D30.g o28 b28 D28.F.kp D28.g o34 b34 D34.F.kp D34.g o33 b33 D33.F.kp D33.g o35 b35 D35.F.kp D35.g o37 b37 D37.F.kp D37.g o39 b39 D39.F.kp D39.g o38 b38 D38.F.kp D38.g o32 b32 D32.F.kp D32.g o26 b26 D26.F.kp D26.g (kb_storeOf D26.F) o23 b23 D23.F.kp D23.g (kb_lineOf D23.F) o21 b21 D21.F.kp D21.g (kb_isLine D21.F) o19 b19 D19.F.kp D19.g (kb_letters D19.F) z2 z15 z10
end DQ

open PySem PySem.W PyProof.Rows
set_option maxRecDepth 100000 in
set_option maxHeartbeats 0 in
theorem PySem.Challenge.cw_depthquestions_k65_lines_and_their_store_holds : PySem.Challenge.rw_depthquestions_k65_lines_and_their_store.Holds := by
  w_on; o_law; k_head; (case hw => w_witness2)
  k_fill
  refine DQ.walkG (l := PySem.Challenge.rw_depthquestions_k65_lines_and_their_store) (n := 63) (j := 9) (par := "script") (asks := DQ.spLaw) rfl (by decide) rfl ⟨rfl, by decide, by decide⟩ (fun w h Y => PySem.W.kIn_of Y) ?F (fun K H a ns _ _ hS => ⟨a, ns, rfl, hS, fun _ => rfl⟩)
  case F =>
    intro w mg fa h KX G hmg
    suffices A : ∃ fd : FuncData, (∀ (s : Shared) (v : Value), BindsTo s fd ⟨[v], []⟩ [("script", v)]) ∧ ∀ base : Heap, DQ.FnG (PySem.Challenge.rw_depthquestions_k65_lines_and_their_store).prog w _ mg base L2.CX0 9 fa fd ["script"] (DQ.spLaw _) from A.imp fun fd z => ⟨z.1, fun base _ _ => z.2 base⟩
    refine' DQ.all_of hmg
      (DQ.err_mk KX G ?a0 (DQ.cls_mk ?xL0 ?rv0 ?sa0 ?eC0 ?tC0 ?kC0 ?ga0 ?gg0 ?ca0 ?cg0 ?ct0 ?mo0) ?hd0 ?nv0 ?eq0 ?ic0 ?ti0 ?lf0 ?cf0 ?kf0 ?lT0 ?dT0)
      (DQ.err_mk KX G ?a1 (DQ.cls_mk ?xL1 ?rv1 ?sa1 ?eC1 ?tC1 ?kC1 ?ga1 ?gg1 ?ca1 ?cg1 ?ct1 ?mo1) ?hd1 ?nv1 ?eq1 ?ic1 ?ti1 ?lf1 ?cf1 ?kf1 ?lT1 ?dT1)
      (DQ.err_mk KX G ?a2 (DQ.cls_mk ?xL2 ?rv2 ?sa2 ?eC2 ?tC2 ?kC2 ?ga2 ?gg2 ?ca2 ?cg2 ?ct2 ?mo2) ?hd2 ?nv2 ?eq2 ?ic2 ?ti2 ?lf2 ?cf2 ?kf2 ?lT2 ?dT2)
      (DQ.str_mk KX G ?c0 ?e0)
      (DQ.str_mk KX G ?c1 ?e1)
      (DQ.int_mk KX G ?c2 ?e2)
      (DQ.tup_mk KX G ?c3 ?l3 ?t3 ?d3 ?zz3 ?e3)
      (DQ.int_mk KX G ?c4 ?e4)
      (DQ.int_mk KX G ?c5 ?e5)
      (DQ.int_mk KX G ?c6 ?e6)
      (DQ.int_mk KX G ?c7 ?e7)
      (DQ.int_mk KX G ?c8 ?e8)
      (DQ.int_mk KX G ?c9 ?e9)
      (DQ.int_mk KX G ?c10 ?e10)
      (DQ.int_mk KX G ?c11 ?e11)
      (DQ.int_mk KX G ?c12 ?e12)
      (DQ.def_mk KX G ?da0 ?dl0 ?dc0 ?dk0)
      (DQ.def_mk KX G ?da1 ?dl1 ?dc1 ?dk1)
      (DQ.def_mk KX G ?da2 ?dl2 ?dc2 ?dk2)
      (DQ.def_mk KX G ?da3 ?dl3 ?dc3 ?dk3)
      (DQ.def_mk KX G ?da4 ?dl4 ?dc4 ?dk4)
      (DQ.def_mk KX G ?da5 ?dl5 ?dc5 ?dk5)
      (DQ.def_mk KX G ?da6 ?dl6 ?dc6 ?dk6)
      (DQ.def_mk KX G ?da7 ?dl7 ?dc7 ?dk7)
      (DQ.def_mk KX G ?da8 ?dl8 ?dc8 ?dk8)
      (DQ.def_mk KX G ?da9 ?dl9 ?dc9 ?dk9)
      (DQ.def_mk KX G ?da10 ?dl10 ?dc10 ?dk10)
      (DQ.def_mk KX G ?da11 ?dl11 ?dc11 ?dk11)
      (DQ.def_mk KX G ?da12 ?dl12 ?dc12 ?dk12)
      (DQ.def_mk KX G ?da13 ?dl13 ?dc13 ?dk13)
      (DQ.def_mk KX G ?da14 ?dl14 ?dc14 ?dk14)
      (DQ.def_mk KX G ?da15 ?dl15 ?dc15 ?dk15)
      (DQ.def_mk KX G ?da16 ?dl16 ?dc16 ?dk16)
      (DQ.def_mk KX G ?da17 ?dl17 ?dc17 ?dk17)
      (DQ.def_mk KX G ?da18 ?dl18 ?dc18 ?dk18)
      (DQ.def_mk KX G ?da19 ?dl19 ?dc19 ?dk19)
      (DQ.def_mk KX G ?da20 ?dl20 ?dc20 ?dk20)
      (DQ.def_mk KX G ?da21 ?dl21 ?dc21 ?dk21)
      (DQ.def_mk KX G ?da22 ?dl22 ?dc22 ?dk22)
      (DQ.def_mk KX G ?da23 ?dl23 ?dc23 ?dk23)
      (DQ.def_mk KX G ?da24 ?dl24 ?dc24 ?dk24)
      (DQ.def_mk KX G ?da25 ?dl25 ?dc25 ?dk25)
      (DQ.def_mk KX G ?da26 ?dl26 ?dc26 ?dk26)
      (DQ.def_mk KX G ?da27 ?dl27 ?dc27 ?dk27)
      (DQ.def_mk KX G ?da28 ?dl28 ?dc28 ?dk28)
      (DQ.def_mk KX G ?da29 ?dl29 ?dc29 ?dk29)
      (DQ.def_mk KX G ?da30 ?dl30 ?dc30 ?dk30)
      (DQ.def_mk KX G ?da31 ?dl31 ?dc31 ?dk31)
      (DQ.def_mk KX G ?da32 ?dl32 ?dc32 ?dk32)
      (DQ.def_mk KX G ?da33 ?dl33 ?dc33 ?dk33)
      (DQ.def_mk KX G ?da34 ?dl34 ?dc34 ?dk34)
      (DQ.def_mk KX G ?da35 ?dl35 ?dc35 ?dk35)
      (DQ.def_mk KX G ?da36 ?dl36 ?dc36 ?dk36)
      (DQ.def_mk KX G ?da37 ?dl37 ?dc37 ?dk37)
      (DQ.def_mk KX G ?da38 ?dl38 ?dc38 ?dk38)
      (DQ.def_mk KX G ?da39 ?dl39 ?dc39 ?dk39)
      (DQ.def_mk KX G ?da40 ?dl40 ?dc40 ?dk40)
      (PySem.W.mg_none_of KX G ?z0)
      (PySem.W.mg_none_of KX G ?z1)
      (PySem.W.mg_none_of KX G ?z2)
      (PySem.W.mg_none_of KX G ?z3)
      (PySem.W.mg_none_of KX G ?z4)
      (PySem.W.mg_none_of KX G ?z5)
      (PySem.W.mg_none_of KX G ?z6)
      (PySem.W.mg_none_of KX G ?z7)
      (PySem.W.mg_none_of KX G ?z8)
      (PySem.W.mg_none_of KX G ?z9)
      (PySem.W.mg_none_of KX G ?z10)
      (PySem.W.mg_none_of KX G ?z11)
      (PySem.W.mg_none_of KX G ?z12)
      (PySem.W.mg_none_of KX G ?z13)
      (PySem.W.mg_none_of KX G ?z14)
      (PySem.W.mg_none_of KX G ?z15)
      (PySem.W.mg_none_of KX G ?z16)
      (PySem.W.mg_none_of KX G ?z17)
    (case a0 => k_is)
    (case xL0 => k_is)
    (case rv0 => decide +kernel)
    (case sa0 => k_is)
    (case eC0 => k_is)
    (case tC0 => k_is)
    (case kC0 => k_is)
    (case ga0 => k_is)
    (case gg0 => k_is)
    (case ca0 => k_is)
    (case cg0 => k_is)
    (case ct0 => k_is)
    (case mo0 => k_is)
    (case hd0 => k_is)
    (case nv0 => k_is)
    (case eq0 => k_is)
    (case ic0 => k_is)
    (case ti0 => k_is)
    (case lf0 => k_is)
    (case cf0 => k_is)
    (case kf0 => k_is)
    (case lT0 => k_is)
    (case dT0 => rfl)
    (case a1 => k_is)
    (case xL1 => k_is)
    (case rv1 => decide +kernel)
    (case sa1 => k_is)
    (case eC1 => k_is)
    (case tC1 => k_is)
    (case kC1 => k_is)
    (case ga1 => k_is)
    (case gg1 => k_is)
    (case ca1 => k_is)
    (case cg1 => k_is)
    (case ct1 => k_is)
    (case mo1 => k_is)
    (case hd1 => k_is)
    (case nv1 => k_is)
    (case eq1 => k_is)
    (case ic1 => k_is)
    (case ti1 => k_is)
    (case lf1 => k_is)
    (case cf1 => k_is)
    (case kf1 => k_is)
    (case lT1 => k_is)
    (case dT1 => rfl)
    (case a2 => k_is)
    (case xL2 => k_is)
    (case rv2 => decide +kernel)
    (case sa2 => k_is)
    (case eC2 => k_is)
    (case tC2 => k_is)
    (case kC2 => k_is)
    (case ga2 => k_is)
    (case gg2 => k_is)
    (case ca2 => k_is)
    (case cg2 => k_is)
    (case ct2 => k_is)
    (case mo2 => k_is)
    (case hd2 => k_is)
    (case nv2 => k_is)
    (case eq2 => k_is)
    (case ic2 => k_is)
    (case ti2 => k_is)
    (case lf2 => k_is)
    (case cf2 => k_is)
    (case kf2 => k_is)
    (case lT2 => k_is)
    (case dT2 => rfl)
    (case c0 => k_is)
    (case e0 => decide +kernel)
    (case c1 => k_is)
    (case e1 => decide +kernel)
    (case c2 => k_is)
    (case e2 => rfl)
    (case c3 => k_is)
    (case l3 => k_is)
    (case t3 => rfl)
    (case d3 => rfl)
    (case zz3 => decide +kernel)
    (case e3 => decide +kernel)
    (case c4 => k_is)
    (case e4 => rfl)
    (case c5 => k_is)
    (case e5 => rfl)
    (case c6 => k_is)
    (case e6 => rfl)
    (case c7 => k_is)
    (case e7 => rfl)
    (case c8 => k_is)
    (case e8 => rfl)
    (case c9 => k_is)
    (case e9 => rfl)
    (case c10 => k_is)
    (case e10 => rfl)
    (case c11 => k_is)
    (case e11 => rfl)
    (case c12 => k_is)
    (case e12 => rfl)
    (case da0 => k_is)
    (case dl0 => k_is)
    (case dc0 => k_is)
    (case dk0 => k_is)
    (case da1 => k_is)
    (case dl1 => k_is)
    (case dc1 => k_is)
    (case dk1 => k_is)
    (case da2 => k_is)
    (case dl2 => k_is)
    (case dc2 => k_is)
    (case dk2 => k_is)
    (case da3 => k_is)
    (case dl3 => k_is)
    (case dc3 => k_is)
    (case dk3 => k_is)
    (case da4 => k_is)
    (case dl4 => k_is)
    (case dc4 => k_is)
    (case dk4 => k_is)
    (case da5 => k_is)
    (case dl5 => k_is)
    (case dc5 => k_is)
    (case dk5 => k_is)
    (case da6 => k_is)
    (case dl6 => k_is)
    (case dc6 => k_is)
    (case dk6 => k_is)
    (case da7 => k_is)
    (case dl7 => k_is)
    (case dc7 => k_is)
    (case dk7 => k_is)
    (case da8 => k_is)
    (case dl8 => k_is)
    (case dc8 => k_is)
    (case dk8 => k_is)
    (case da9 => k_is)
    (case dl9 => k_is)
    (case dc9 => k_is)
    (case dk9 => k_is)
    (case da10 => k_is)
    (case dl10 => k_is)
    (case dc10 => k_is)
    (case dk10 => k_is)
    (case da11 => k_is)
    (case dl11 => k_is)
    (case dc11 => k_is)
    (case dk11 => k_is)
    (case da12 => k_is)
    (case dl12 => k_is)
    (case dc12 => k_is)
    (case dk12 => k_is)
    (case da13 => k_is)
    (case dl13 => k_is)
    (case dc13 => k_is)
    (case dk13 => k_is)
    (case da14 => k_is)
    (case dl14 => k_is)
    (case dc14 => k_is)
    (case dk14 => k_is)
    (case da15 => k_is)
    (case dl15 => k_is)
    (case dc15 => k_is)
    (case dk15 => k_is)
    (case da16 => k_is)
    (case dl16 => k_is)
    (case dc16 => k_is)
    (case dk16 => k_is)
    (case da17 => k_is)
    (case dl17 => k_is)
    (case dc17 => k_is)
    (case dk17 => k_is)
    (case da18 => k_is)
    (case dl18 => k_is)
    (case dc18 => k_is)
    (case dk18 => k_is)
    (case da19 => k_is)
    (case dl19 => k_is)
    (case dc19 => k_is)
    (case dk19 => k_is)
    (case da20 => k_is)
    (case dl20 => k_is)
    (case dc20 => k_is)
    (case dk20 => k_is)
    (case da21 => k_is)
    (case dl21 => k_is)
    (case dc21 => k_is)
    (case dk21 => k_is)
    (case da22 => k_is)
    (case dl22 => k_is)
    (case dc22 => k_is)
    (case dk22 => k_is)
    (case da23 => k_is)
    (case dl23 => k_is)
    (case dc23 => k_is)
    (case dk23 => k_is)
    (case da24 => k_is)
    (case dl24 => k_is)
    (case dc24 => k_is)
    (case dk24 => k_is)
    (case da25 => k_is)
    (case dl25 => k_is)
    (case dc25 => k_is)
    (case dk25 => k_is)
    (case da26 => k_is)
    (case dl26 => k_is)
    (case dc26 => k_is)
    (case dk26 => k_is)
    (case da27 => k_is)
    (case dl27 => k_is)
    (case dc27 => k_is)
    (case dk27 => k_is)
    (case da28 => k_is)
    (case dl28 => k_is)
    (case dc28 => k_is)
    (case dk28 => k_is)
    (case da29 => k_is)
    (case dl29 => k_is)
    (case dc29 => k_is)
    (case dk29 => k_is)
    (case da30 => k_is)
    (case dl30 => k_is)
    (case dc30 => k_is)
    (case dk30 => k_is)
    (case da31 => k_is)
    (case dl31 => k_is)
    (case dc31 => k_is)
    (case dk31 => k_is)
    (case da32 => k_is)
    (case dl32 => k_is)
    (case dc32 => k_is)
    (case dk32 => k_is)
    (case da33 => k_is)
    (case dl33 => k_is)
    (case dc33 => k_is)
    (case dk33 => k_is)
    (case da34 => k_is)
    (case dl34 => k_is)
    (case dc34 => k_is)
    (case dk34 => k_is)
    (case da35 => k_is)
    (case dl35 => k_is)
    (case dc35 => k_is)
    (case dk35 => k_is)
    (case da36 => k_is)
    (case dl36 => k_is)
    (case dc36 => k_is)
    (case dk36 => k_is)
    (case da37 => k_is)
    (case dl37 => k_is)
    (case dc37 => k_is)
    (case dk37 => k_is)
    (case da38 => k_is)
    (case dl38 => k_is)
    (case dc38 => k_is)
    (case dk38 => k_is)
    (case da39 => k_is)
    (case dl39 => k_is)
    (case dc39 => k_is)
    (case dk39 => k_is)
    (case da40 => k_is)
    (case dl40 => k_is)
    (case dc40 => k_is)
    (case dk40 => k_is)
    (case z0 => k_is)
    (case z1 => k_is)
    (case z2 => k_is)
    (case z3 => k_is)
    (case z4 => k_is)
    (case z5 => k_is)
    (case z6 => k_is)
    (case z7 => k_is)
    (case z8 => k_is)
    (case z9 => k_is)
    (case z10 => k_is)
    (case z11 => k_is)
    (case z12 => k_is)
    (case z13 => k_is)
    (case z14 => k_is)
    (case z15 => k_is)
    (case z16 => k_is)
    (case z17 => k_is)

